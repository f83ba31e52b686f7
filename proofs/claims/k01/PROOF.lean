import PyProof.Rows.All
import Wide.All
import OpenK.AllK
import Wide.FinOn
import HandS.ForMost
import HandS.ForExc
import HandS.IsInst
import HandS.Gcd
import HandS.Wide
import KE.DataEq
import PySem.Challenge.RW_neverlate_k01_add_subtract_compare
set_option Elab.async false
set_option linter.all false
set_option maxRecDepth 100000
set_option maxHeartbeats 0
/-! Nz: states with frozen data and live objects. -/
namespace Nz
open PySem PySem.Spec PyProof.Rows L2

/-- data that never changes any more -/
inductive D where
  | non | bl (b : Bool) | int (i : Int) | str (s : Str)
  | tup (xs : List D) | lst (xs : List D) | obj (c : Str) (fs : List (Str × D))

abbrev Frag := PySem.W.Frag
abbrev Mg := Str → Option Value

mutual
inductive Rep (K : Frag) (mg : Mg) (F : Hp) : D → V → Prop
  | non : Rep K mg F .non .non
  | bl (b : Bool) : Rep K mg F (.bl b) (.bl b)
  | int (i : Int) : Rep K mg F (.int i) (.int i)
  | str (s : Str) : Rep K mg F (.str s) (.str s)
  | tup {a : Addr} {ds : List D} {vs : List V} : SqT K F a vs → Reps K mg F ds vs → Rep K mg F (.tup ds) (.ref a)
  | lst {a : Addr} {ds : List D} {vs : List V} : SqL K F a vs → Reps K mg F ds vs → Rep K mg F (.lst ds) (.ref a)
  | obj {a dx C : Addr} {c : Str} {fs : List (Str × D)} {vs : List (Str × V)} : mg c = some (.ref C) → F a = some (.ins C dx vs) → F dx = some (.own a) →
      RepF K mg F fs vs → Rep K mg F (.obj c fs) (.ref a)
inductive Reps (K : Frag) (mg : Mg) (F : Hp) : List D → List V → Prop
  | nil : Reps K mg F [] []
  | cons {d : D} {v : V} {ds : List D} {vs : List V} : Rep K mg F d v → Reps K mg F ds vs → Reps K mg F (d :: ds) (v :: vs)
inductive RepF (K : Frag) (mg : Mg) (F : Hp) : List (Str × D) → List (Str × V) → Prop
  | nil : RepF K mg F [] []
  | cons {n : Str} {d : D} {v : V} {ds : List (Str × D)} {vs : List (Str × V)} : Rep K mg F d v → RepF K mg F ds vs → RepF K mg F ((n, d) :: ds) ((n, v) :: vs)
end

theorem _root_.L2.Same.seqT {K : Frag} {H H' : Hp} {a : Addr} {xs : List V} (e : Same H H') (h : SqT K H a xs) : SqT K H' a xs := by
  rcases h with (h | ⟨o, h⟩) | h
  · exact .inl (.inl (e _ _ h))
  · exact .inl (.inr ⟨o, e _ _ h⟩)
  · exact .inr h

section
variable {K : Frag} {mg : Mg} {F F' : Hp}
mutual
theorem Rep.mono (s : Same F F') : ∀ {d : D} {v : V}, Rep K mg F d v → Rep K mg F' d v
  | _, _, .non => .non
  | _, _, .bl b => .bl b
  | _, _, .int i => .int i
  | _, _, .str x => .str x
  | _, _, .tup h r => .tup (s.seqT h) (Reps.mono s r)
  | _, _, .lst h r => .lst (s.seq h) (Reps.mono s r)
  | _, _, .obj m h1 h2 r => .obj m (s _ _ h1) (s _ _ h2) (RepF.mono s r)
theorem Reps.mono (s : Same F F') : ∀ {d : List D} {v : List V}, Reps K mg F d v → Reps K mg F' d v
  | _, _, .nil => .nil
  | _, _, .cons h r => .cons (Rep.mono s h) (Reps.mono s r)
theorem RepF.mono (s : Same F F') : ∀ {d : List (Str × D)} {v : List (Str × V)}, RepF K mg F d v → RepF K mg F' d v
  | _, _, .nil => .nil
  | _, _, .cons h r => .cons (Rep.mono s h) (RepF.mono s r)
end
theorem Reps.length : ∀ {ds : List D} {vs : List V}, Reps K mg F ds vs → ds.length = vs.length
  | _, _, .nil => rfl
  | _, _, .cons _ r => congrArg (· + 1) (Reps.length r)
theorem Reps.get : ∀ {ds : List D} {vs : List V} {i : Nat} {d : D}, Reps K mg F ds vs → ds[i]? = some d → ∃ v, vs[i]? = some v ∧ Rep K mg F d v
  | _, _, _, _, .nil, h => by simp at h
  | _, _, 0, _, .cons h r, e => by simp at e; subst e; exact ⟨_, rfl, h⟩
  | _, _, i + 1, _, .cons h r, e => by
    obtain ⟨v, h1, h2⟩ := Reps.get (i := i) r (by simpa using e)
    exact ⟨v, by simpa using h1, h2⟩
theorem Reps.getV : ∀ {ds : List D} {vs : List V} {i : Nat} {v : V}, Reps K mg F ds vs → vs[i]? = some v → ∃ d, ds[i]? = some d ∧ Rep K mg F d v
  | _, _, _, _, .nil, h => by simp at h
  | _, _, 0, _, .cons h r, e => by simp at e; subst e; exact ⟨_, rfl, h⟩
  | _, _, i + 1, _, .cons h r, e => by
    obtain ⟨v, h1, h2⟩ := Reps.getV (i := i) r (by simpa using e)
    exact ⟨v, by simpa using h1, h2⟩
theorem Reps.append : ∀ {ds es : List D} {vs us : List V}, Reps K mg F ds vs → Reps K mg F es us → Reps K mg F (ds ++ es) (vs ++ us)
  | _, _, _, _, .nil, s => s
  | _, _, _, _, .cons h r, s => .cons h (r.append s)
theorem Reps.ints : ∀ {ns : List Int}, Reps K mg F (ns.map D.int) (ns.map V.int)
  | [] => .nil
  | _ :: ns => .cons (.int _) (Reps.ints (ns := ns))
theorem Reps.ints_eq : ∀ {ns : List Int} {vs : List V}, Reps K mg F (ns.map D.int) vs → vs = ns.map V.int
  | [], _, .nil => rfl
  | _ :: ns, _, .cons h r => by
    cases h
    rw [Reps.ints_eq (ns := ns) r]; rfl
theorem Reps.set : ∀ {ds : List D} {vs : List V} (i : Nat) {d : D} {v : V}, Reps K mg F ds vs → Rep K mg F d v → Reps K mg F (ds.set i d) (vs.set i v)
  | _, _, _, _, _, .nil, _ => .nil
  | _, _, 0, _, _, .cons _ r, h => .cons h r
  | _, _, i + 1, _, _, .cons q r, h => .cons q (r.set i h)
theorem Reps.take : ∀ {ds : List D} {vs : List V} (i : Nat), Reps K mg F ds vs → Reps K mg F (ds.take i) (vs.take i)
  | _, _, 0, _ => by simpa using Reps.nil
  | _, _, _ + 1, .nil => .nil
  | _, _, i + 1, .cons q r => .cons q (r.take i)
theorem Reps.drop : ∀ {ds : List D} {vs : List V} (i : Nat), Reps K mg F ds vs → Reps K mg F (ds.drop i) (vs.drop i)
  | _, _, 0, r => r
  | _, _, _ + 1, .nil => .nil
  | _, _, i + 1, .cons _ r => r.drop i
theorem RepF.look : ∀ {ds : List (Str × D)} {vs : List (Str × V)} {n : Str} {d : D}, RepF K mg F ds vs → ds.lookup n = some d → ∃ v, vs.lookup n = some v ∧ Rep K mg F d v
  | _, _, _, _, .nil, h => by simp at h
  | _, _, n, d, .cons (n := m) h r, e => by
    rw [List.lookup_cons] at e ⊢
    cases q : (n == m) with
    | true => rw [q] at e; cases e; exact ⟨_, rfl, h⟩
    | false => rw [q] at e; exact RepF.look r e
end

/-- a cell: frozen data, or the live object of this name -/
inductive Ce where
  | fr (d : D) | ad (n : Nat)
/-- a live object -/
inductive LO where
  | fl (ds : List D)                    -- a list of frozen data
  | cl (cs : List Ce)                   -- a list of cells
  | ins (c : Str) (fs : List (Str × Ce)) -- an instance
  | dT (kvs : List (List Key × D))
  | dK (kvs : List (Key × Ce))
/-- a state: the slots, the live objects -/
structure S where
  ρ : List (Option Ce)
  L : List (Nat × LO)

def names (L : List (Nat × LO)) : List Nat := L.map (·.1)

def CRel (K : Frag) (mg : Mg) (F : Hp) (α : Nat → Addr) (L : List (Nat × LO)) (c : Ce) (v : V) : Prop :=
  match c with
  | .fr d => Rep K mg F d v
  | .ad n => n ∈ names L ∧ v = .ref (α n)
inductive CRels (K : Frag) (mg : Mg) (F : Hp) (α : Nat → Addr) (L : List (Nat × LO)) : List Ce → List V → Prop
  | nil : CRels K mg F α L [] []
  | cons {c : Ce} {v : V} {cs : List Ce} {vs : List V} : CRel K mg F α L c v → CRels K mg F α L cs vs → CRels K mg F α L (c :: cs) (v :: vs)
inductive CRelF (K : Frag) (mg : Mg) (F : Hp) (α : Nat → Addr) (L : List (Nat × LO)) : List (Str × Ce) → List (Str × V) → Prop
  | nil : CRelF K mg F α L [] []
  | cons {n : Str} {c : Ce} {v : V} {cs : List (Str × Ce)} {vs : List (Str × V)} : CRel K mg F α L c v → CRelF K mg F α L cs vs → CRelF K mg F α L ((n, c) :: cs) ((n, v) :: vs)
inductive CRelK {κ : Type} (K : Frag) (mg : Mg) (F : Hp) (α : Nat → Addr) (L : List (Nat × LO)) : List (κ × Ce) → List (κ × V) → Prop
  | nil : CRelK K mg F α L [] []
  | cons {n : κ} {c : Ce} {v : V} {cs : List (κ × Ce)} {vs : List (κ × V)} : CRel K mg F α L c v → CRelK K mg F α L cs vs → CRelK K mg F α L ((n, c) :: cs) ((n, v) :: vs)
/-- the slots -/
inductive SlR (K : Frag) (mg : Mg) (F : Hp) (α : Nat → Addr) (L : List (Nat × LO)) : List (Option Ce) → L2.St → Prop
  | nil : SlR K mg F α L [] []
  | no {o : Option V} {cs : List (Option Ce)} {vs : L2.St} : SlR K mg F α L cs vs → SlR K mg F α L (none :: cs) (o :: vs)
  | so {c : Ce} {v : V} {cs : List (Option Ce)} {vs : L2.St} : CRel K mg F α L c v → SlR K mg F α L cs vs → SlR K mg F α L (some c :: cs) (some v :: vs)

/-- what a def was entered with: the frozen heap, the heap, what it may change -/
structure Bd where
  F0 : Hp
  H0 : Hp
  fp : Addr → Prop
  pa : Nat → Option Addr
  hpa : ∀ n, 100 ≤ n → pa n = none

/-- the live object o stands at a -/
def LAt (K : Frag) (mg : Mg) (B : Bd) (F : Hp) (α : Nat → Addr) (L : List (Nat × LO)) (H : Hp) (a : Addr) : LO → Prop
  | .fl ds => ∃ vs, H a = some (.lst vs) ∧ Reps K mg F ds vs
  | .cl cs => ∃ vs, H a = some (.lst vs) ∧ CRels K mg F α L cs vs
  | .ins c fs => ∃ C dx vs, mg c = some (.ref C) ∧ H a = some (.ins C dx vs) ∧ H dx = some (.own a) ∧ F dx = none ∧ (B.H0 dx = none ∨ B.fp dx) ∧ CRelF K mg F α L fs vs
  | .dT kvs => ∃ vs, H a = some (.dT vs) ∧ Paired (fun (p : List Key × D) (q : List Key × V) => p.1 = q.1 ∧ Rep K mg F p.2 q.2) kvs vs
  | .dK kvs => ∃ vs, H a = some (.dK vs) ∧ CRelK K mg F α L kvs vs

structure Rel (K : Frag) (mg : Mg) (B : Bd) (F : Hp) (α : Nat → Addr) (H : Hp) (σ : L2.St) (S : S) : Prop where
  sub : Same F H
  bF : Same B.F0 F
  nF : ∀ b o, F b = some o → B.F0 b = some o ∨ B.H0 b = none ∨ B.fp b
  frame : ∀ b o, B.H0 b = some o → ¬ B.fp b → H b = some o
  nd : (names S.L).Nodup
  inj : ∀ n m, n ∈ names S.L → m ∈ names S.L → α n = α m → n = m
  live : ∀ n o, (n, o) ∈ S.L → F (α n) = none ∧ (B.H0 (α n) = none ∨ B.fp (α n)) ∧ LAt K mg B F α S.L H (α n) o
  slots : SlR K mg F α S.L S.ρ σ
  fix : ∀ n a, B.pa n = some a → n ∈ names S.L → α n = a

/-- a step keeps what is frozen, and the names of what lives -/
structure Stp (F : Hp) (α : Nat → Addr) (L : List (Nat × LO)) (F' : Hp) (α' : Nat → Addr) : Prop where
  fro : Same F F'
  nm : ∀ n, n ∈ names L → α' n = α n

def wE (X : Cx) (e : Expr) (σ : L2.St) (H : Hp) (Q : VK) : Prop :=
  ∀ pins s, Inv X pins σ H s → wpAny (model X.prog X.w) X.A (eval e X.env) (EP X pins σ Q) X.xe s
def wT (X : Cx) (e : Expr) (σ : L2.St) (H : Hp) (Q : Bool → Hp → Prop) : Prop :=
  ∀ pins s, Inv X pins σ H s → wpAny (model X.prog X.w) X.A (isTrue e X.env (eval e X.env)) (TP X pins σ Q) X.xe s
def wA (X : Cx) (es : List Expr) (σ : L2.St) (H : Hp) (Q : List V → Hp → Prop) : Prop :=
  ∀ pos pins s, Inv X pins σ H s → wpAny (model X.prog X.w) X.A (spliced (backTo pos (starEach es X.env))) (AP X pins σ Q) X.xe s
def wS (X : Cx) (st : Stmt) (D : Ends) (σ : L2.St) (H : Hp) : Prop :=
  ∀ pins s, Inv X pins σ H s → wpAny (model X.prog X.w) X.A (exec st X.env) (SP X pins D) X.xe s
def wSs (X : Cx) (st : List Stmt) (D : Ends) (σ : L2.St) (H : Hp) : Prop :=
  ∀ pins s, Inv X pins σ H s → wpAny (model X.prog X.w) X.A (execs st X.env) (SP X pins D) X.xe s
theorem pe_w {X : Cx} {e : Expr} : PE X e (wE X e) := ⟨fun pins s σ H Q I h => h pins s I⟩
theorem pt_w {X : Cx} {e : Expr} : PT X e (wT X e) := ⟨fun pins s σ H Q I h => h pins s I⟩
theorem pa_w {X : Cx} {e : List Expr} : PA X e (wA X e) := ⟨fun pos pins s σ H Q I h => h pos pins s I⟩
theorem ps_w {X : Cx} {e : Stmt} : PS X e (wS X e) := ⟨fun pins s σ H Q I h => h pins s I⟩
theorem pss_w {X : Cx} {e : List Stmt} : PSs X e (wSs X e) := ⟨fun pins s σ H Q I h => h pins s I⟩
theorem wE.of {X : Cx} {e : Expr} {t : TE} {σ : L2.St} {H : Hp} {Q : VK} (h : PE X e t) (q : t σ H Q) : wE X e σ H Q := fun pins s I => h.run pins s σ H Q I q
theorem wT.of {X : Cx} {e : Expr} {t : TT} {σ : L2.St} {H : Hp} {Q : Bool → Hp → Prop} (h : PT X e t) (q : t σ H Q) : wT X e σ H Q := fun pins s I => h.run pins s σ H Q I q
theorem wA.of {X : Cx} {e : List Expr} {t : TA} {σ : L2.St} {H : Hp} {Q : List V → Hp → Prop} (h : PA X e t) (q : t σ H Q) : wA X e σ H Q := fun pos pins s I => h.run pos pins s σ H Q I q
theorem wS.of {X : Cx} {e : Stmt} {t : TS} {σ : L2.St} {H : Hp} {D : Ends} (h : PS X e t) (q : t D σ H) : wS X e D σ H := fun pins s I => h.run pins s σ H D I q
theorem wSs.of {X : Cx} {e : List Stmt} {t : TS} {σ : L2.St} {H : Hp} {D : Ends} (h : PSs X e t) (q : t D σ H) : wSs X e D σ H := fun pins s I => h.run pins s σ H D I q

abbrev RelX (X : Cx) := Rel X.K X.mg
abbrev CR (X : Cx) := CRel X.K X.mg

/-- e in the state S gives c and leaves S' -/
def Ev (X : Cx) (B : Bd) (e : Expr) (S : S) (c : Ce) (S' : Nz.S) : Prop :=
  ∀ F α H σ Q, RelX X B F α H σ S → (∀ F' α' v H', RelX X B F' α' H' σ S' → Stp F α S.L F' α' → CR X F' α' S'.L c v → Q v H') → wE X e σ H Q
def Et (X : Cx) (B : Bd) (e : Expr) (S : S) (b : Bool) (S' : Nz.S) : Prop :=
  ∀ F α H σ Q, RelX X B F α H σ S → (∀ F' α' H', RelX X B F' α' H' σ S' → Stp F α S.L F' α' → Q b H') → wT X e σ H Q
def Ea (X : Cx) (B : Bd) (es : List Expr) (S : S) (cs : List Ce) (S' : Nz.S) : Prop :=
  ∀ F α H σ Q, RelX X B F α H σ S → (∀ F' α' vs H', RelX X B F' α' H' σ S' → Stp F α S.L F' α' → CRels X.K X.mg F' α' S'.L cs vs → Q vs H') → wA X es σ H Q

/-- how a statement ends -/
inductive Out where
  | nx (S : S) | ret (c : Ce) (S : S) | bk (S : S) | ct (S : S)
structure OutOk (X : Cx) (B : Bd) (F : Hp) (K : Out → Prop) (D : Ends) : Prop where
  nx : ∀ S' F' α' H' σ', K (.nx S') → RelX X B F' α' H' σ' S' → Same F F' → D.nx σ' H'
  bk : ∀ S' F' α' H' σ', K (.bk S') → RelX X B F' α' H' σ' S' → Same F F' → D.bk σ' H'
  ct : ∀ S' F' α' H' σ', K (.ct S') → RelX X B F' α' H' σ' S' → Same F F' → D.ct σ' H'
  ret : ∀ c S' F' α' H' σ' v, K (.ret c S') → RelX X B F' α' H' σ' S' → Same F F' → CR X F' α' S'.L c v → D.rt v H'
theorem OutOk.mono {X : Cx} {B : Bd} {F F' : Hp} {K : Out → Prop} {D : Ends} (h : OutOk X B F K D) (s : Same F F') : OutOk X B F' K D :=
  ⟨fun S' F1 α' H' σ' k r q => h.nx _ _ _ _ _ k r (s.trans q), fun S' F1 α' H' σ' k r q => h.bk _ _ _ _ _ k r (s.trans q), fun S' F1 α' H' σ' k r q => h.ct _ _ _ _ _ k r (s.trans q),
    fun c S' F1 α' H' σ' v k r q z => h.ret _ _ _ _ _ _ _ k r (s.trans q) z⟩
def Ex (X : Cx) (B : Bd) (st : Stmt) (S : S) (K : Out → Prop) : Prop :=
  ∀ F α H σ D, RelX X B F α H σ S → OutOk X B F K D → wS X st D σ H
def Exs (X : Cx) (B : Bd) (st : List Stmt) (S : S) (K : Out → Prop) : Prop :=
  ∀ F α H σ D, RelX X B F α H σ S → OutOk X B F K D → wSs X st D σ H
end Nz

namespace Nz
open PySem PySem.Spec PyProof.Rows L2

def getL (n : Nat) : List (Nat × LO) → Option LO
  | [] => none
  | (m, o) :: r => if n = m then some o else getL n r
def setL (n : Nat) (o : LO) : List (Nat × LO) → List (Nat × LO)
  | [] => []
  | (m, u) :: r => if n = m then (m, o) :: r else (m, u) :: setL n o r
theorem getL_mem : ∀ {L : List (Nat × LO)} {n : Nat} {o : LO}, getL n L = some o → (n, o) ∈ L
  | (m, u) :: r, n, o, h => by
    unfold getL at h
    split at h
    · rename_i e; cases h; rw [e]; exact List.mem_cons_self
    · exact List.mem_cons_of_mem _ (getL_mem h)
theorem mem_names {L : List (Nat × LO)} {n : Nat} {o : LO} (h : (n, o) ∈ L) : n ∈ names L := List.mem_map.mpr ⟨_, h, rfl⟩
theorem names_setL : ∀ (L : List (Nat × LO)) (n : Nat) (o : LO), names (setL n o L) = names L
  | [], _, _ => rfl
  | (m, u) :: r, n, o => by
    unfold setL
    split
    · rfl
    · show m :: names (setL n o r) = m :: names r
      rw [names_setL r n o]
theorem mem_setL : ∀ {L : List (Nat × LO)} {n m : Nat} {o u : LO}, (names L).Nodup → (m, u) ∈ setL n o L → (m = n ∧ u = o) ∨ (m ≠ n ∧ (m, u) ∈ L)
  | (k, w) :: r, n, m, o, u, nd, h => by
    have nd' : k ∉ names r ∧ (names r).Nodup := List.nodup_cons.mp nd
    unfold setL at h
    split at h
    · rename_i e
      subst e
      rcases List.mem_cons.mp h with h | h
      · cases h; exact .inl ⟨rfl, rfl⟩
      · exact .inr ⟨fun q => nd'.1 (q ▸ mem_names h), List.mem_cons_of_mem _ h⟩
    · rename_i e
      rcases List.mem_cons.mp h with h | h
      · cases h; exact .inr ⟨fun q => e q.symm, List.mem_cons_self⟩
      · rcases mem_setL nd'.2 h with h | ⟨h1, h2⟩
        · exact .inl h
        · exact .inr ⟨h1, List.mem_cons_of_mem _ h2⟩

section
variable {K : Frag} {mg : Mg} {F F' : Hp} {α α' : Nat → Addr} {L L' : List (Nat × LO)}
theorem Stp.refl : Stp F α L F α := ⟨Same.refl _, fun _ _ => rfl⟩
theorem Stp.trans {F2 : Hp} {α2 : Nat → Addr} (a : Stp F α L F' α') (b : Stp F' α' L' F2 α2) (s : ∀ n, n ∈ names L → n ∈ names L') : Stp F α L F2 α2 :=
  ⟨a.fro.trans b.fro, fun n h => (b.nm n (s n h)).trans (a.nm n h)⟩
theorem CRel.step (st : Stp F α L F' α') (hs : ∀ n, n ∈ names L → n ∈ names L') : ∀ {c : Ce} {v : V}, CRel K mg F α L c v → CRel K mg F' α' L' c v
  | .fr _, _, h => Rep.mono st.fro h
  | .ad n, _, ⟨h1, h2⟩ => ⟨hs n h1, by rw [h2, st.nm n h1]⟩
theorem CRels.step (st : Stp F α L F' α') (hs : ∀ n, n ∈ names L → n ∈ names L') : ∀ {c : List Ce} {v : List V}, CRels K mg F α L c v → CRels K mg F' α' L' c v
  | _, _, .nil => .nil
  | _, _, .cons h r => .cons (h.step st hs) (r.step st hs)
theorem CRelF.step (st : Stp F α L F' α') (hs : ∀ n, n ∈ names L → n ∈ names L') : ∀ {c : List (Str × Ce)} {v : List (Str × V)}, CRelF K mg F α L c v → CRelF K mg F' α' L' c v
  | _, _, .nil => .nil
  | _, _, .cons h r => .cons (h.step st hs) (r.step st hs)
theorem CRelK.step {κ : Type} (st : Stp F α L F' α') (hs : ∀ n, n ∈ names L → n ∈ names L') : ∀ {c : List (κ × Ce)} {v : List (κ × V)}, CRelK K mg F α L c v → CRelK K mg F' α' L' c v
  | _, _, .nil => .nil
  | _, _, .cons h r => .cons (h.step st hs) (r.step st hs)
theorem SlR.step (st : Stp F α L F' α') (hs : ∀ n, n ∈ names L → n ∈ names L') : ∀ {c : List (Option Ce)} {v : L2.St}, SlR K mg F α L c v → SlR K mg F' α' L' c v
  | _, _, .nil => .nil
  | _, _, .no r => .no (r.step st hs)
  | _, _, .so h r => .so (h.step st hs) (r.step st hs)
theorem SlR.get : ∀ {c : List (Option Ce)} {σ : L2.St} {i : Nat} {x : Ce}, SlR K mg F α L c σ → c[i]? = some (some x) → ∃ v, σ[i]? = some (some v) ∧ CRel K mg F α L x v
  | _, _, _, _, .nil, h => by simp at h
  | _, _, 0, _, .no _, h => by simp at h
  | _, _, 0, _, .so h _, e => by simp at e; subst e; exact ⟨_, rfl, h⟩
  | _, _, i + 1, _, .no r, e => by
    obtain ⟨v, h1, h2⟩ := SlR.get (i := i) r (by simpa using e)
    exact ⟨v, by simpa using h1, h2⟩
  | _, _, i + 1, _, .so _ r, e => by
    obtain ⟨v, h1, h2⟩ := SlR.get (i := i) r (by simpa using e)
    exact ⟨v, by simpa using h1, h2⟩
theorem SlR.set : ∀ {c : List (Option Ce)} {σ : L2.St} (i : Nat) {x : Ce} {v : V}, SlR K mg F α L c σ → CRel K mg F α L x v → SlR K mg F α L (c.set i (some x)) (σ.set i (some v))
  | _, _, _, _, _, .nil, _ => .nil
  | _, _, 0, _, _, .no r, h => .so h r
  | _, _, 0, _, _, .so _ r, h => .so h r
  | _, _, i + 1, _, _, .no r, h => .no (r.set i h)
  | _, _, i + 1, _, _, .so q r, h => .so q (r.set i h)
theorem SlR.forget : ∀ {c : List (Option Ce)} {σ : L2.St} (i : Nat), SlR K mg F α L c σ → SlR K mg F α L (c.set i none) σ
  | _, _, _, .nil => .nil
  | _, _, 0, .no r => .no r
  | _, _, 0, .so _ r => .no r
  | _, _, i + 1, .no r => .no (r.forget i)
  | _, _, i + 1, .so q r => .so q (r.forget i)
theorem CRels.fr : ∀ {ds : List D} {vs : List V}, CRels K mg F α L (ds.map Ce.fr) vs → Reps K mg F ds vs
  | [], _, .nil => .nil
  | _ :: _, _, .cons h r => .cons h (CRels.fr r)
theorem CRels.of_fr : ∀ {ds : List D} {vs : List V}, Reps K mg F ds vs → CRels K mg F α L (ds.map Ce.fr) vs
  | [], _, .nil => .nil
  | _ :: _, _, .cons h r => .cons h (CRels.of_fr r)
theorem CRels.length : ∀ {c : List Ce} {v : List V}, CRels K mg F α L c v → c.length = v.length
  | _, _, .nil => rfl
  | _, _, .cons _ r => congrArg (· + 1) r.length
theorem CRels.append : ∀ {c c' : List Ce} {v v' : List V}, CRels K mg F α L c v → CRels K mg F α L c' v' → CRels K mg F α L (c ++ c') (v ++ v')
  | _, _, _, _, .nil, s => s
  | _, _, _, _, .cons h r, s => .cons h (r.append s)
theorem CRels.get : ∀ {ds : List Ce} {vs : List V} {i : Nat} {d : Ce}, CRels K mg F α L ds vs → ds[i]? = some d → ∃ v, vs[i]? = some v ∧ CRel K mg F α L d v
  | _, _, _, _, .nil, h => by simp at h
  | _, _, 0, _, .cons h r, e => by simp at e; subst e; exact ⟨_, rfl, h⟩
  | _, _, i + 1, _, .cons h r, e => by
    obtain ⟨v, h1, h2⟩ := CRels.get (i := i) r (by simpa using e)
    exact ⟨v, by simpa using h1, h2⟩
theorem CRelF.look : ∀ {ds : List (Str × Ce)} {vs : List (Str × V)} {n : Str} {d : Ce}, CRelF K mg F α L ds vs → ds.lookup n = some d → ∃ v, vs.lookup n = some v ∧ CRel K mg F α L d v
  | _, _, _, _, .nil, h => by simp at h
  | _, _, n, d, .cons (n := m) h r, e => by
    rw [List.lookup_cons] at e ⊢
    cases q : (n == m) with
    | true => rw [q] at e; cases e; exact ⟨_, rfl, h⟩
    | false => rw [q] at e; exact CRelF.look r e

variable {B : Bd} {H H' : Hp} {a : Addr}
theorem Paired.imp {κ μ : Type} {R R' : κ → μ → Prop} (h : ∀ a b, R a b → R' a b) : ∀ {xs : List κ} {ys : List μ}, Paired R xs ys → Paired R' xs ys
  | _, _, .nil => .nil
  | _, _, .cons r t => .cons (h _ _ r) (Paired.imp h t)
theorem LAt.step {o : LO} (st : Stp F α L F' α') (hs : ∀ n, n ∈ names L → n ∈ names L') (hH : ∀ b u, H b = some u → H' b = some u) (hF : ∀ b u, F' b = some u → F b = some u ∨ H b = none)
    (h : LAt K mg B F α L H a o) : LAt K mg B F' α' L' H' a o := by
  cases o with
  | fl ds => obtain ⟨vs, e, r⟩ := h; exact ⟨vs, hH _ _ e, r.mono st.fro⟩
  | cl cs => obtain ⟨vs, e, r⟩ := h; exact ⟨vs, hH _ _ e, r.step st hs⟩
  | ins c fs =>
    obtain ⟨C, dx, vs, m, e1, e2, e3, e4, r⟩ := h
    refine ⟨C, dx, vs, m, hH _ _ e1, hH _ _ e2, ?_, e4, r.step st hs⟩
    cases q : F' dx with
    | none => rfl
    | some u =>
      rcases hF _ _ q with z | z
      · rw [e3] at z; cases z
      · rw [e2] at z; cases z
  | dT kvs => obtain ⟨vs, e, r⟩ := h; exact ⟨vs, hH _ _ e, Paired.imp (fun _ _ z => ⟨z.1, z.2.mono st.fro⟩) r⟩
  | dK kvs => obtain ⟨vs, e, r⟩ := h; exact ⟨vs, hH _ _ e, r.step st hs⟩
theorem LAt.is {o : LO} (h : LAt K mg B F α L H a o) : ∃ u, H a = some u := by
  cases o with
  | fl ds => obtain ⟨vs, e, r⟩ := h; exact ⟨_, e⟩
  | cl cs => obtain ⟨vs, e, r⟩ := h; exact ⟨_, e⟩
  | ins c fs => obtain ⟨C, dx, vs, m, e1, _⟩ := h; exact ⟨_, e1⟩
  | dT kvs => obtain ⟨vs, e, r⟩ := h; exact ⟨_, e⟩
  | dK kvs => obtain ⟨vs, e, r⟩ := h; exact ⟨_, e⟩

variable {σ : L2.St} {S : Nz.S}
/-- the heap grows, and what is frozen by new things -/
theorem Rel.grow (R : Rel K mg B F α H σ S) (hF : Same F F') (hH : Same H H') (hs : Same F' H') (hn : ∀ b u, F' b = some u → F b = some u ∨ H b = none) : Rel K mg B F' α H' σ S := by
  have st : Stp F α S.L F' α := ⟨hF, fun _ _ => rfl⟩
  refine ⟨hs, R.bF.trans hF, fun b o e => ?_, fun b o e n => hH _ _ (R.frame b o e n), R.nd, R.inj, fun n o h => ?_, R.slots.step st fun _ z => z, R.fix⟩
  · rcases hn b o e with z | z
    · exact R.nF b o z
    · refine .inr ?_
      by_cases f : B.fp b
      · exact .inr f
      · refine .inl ?_
        cases q : B.H0 b with
        | none => rfl
        | some u => rw [R.frame b u q f] at z; cases z
  · obtain ⟨h1, h2, h3⟩ := R.live n o h
    refine ⟨?_, h2, h3.step st (fun _ z => z) hH hn⟩
    cases q : F' (α n) with
    | none => rfl
    | some u =>
      obtain ⟨w', hw⟩ := h3.is
      rcases hn _ _ q with z | z
      · rw [h1] at z; cases z
      · rw [hw] at z; cases z
theorem same_upd {H : Hp} {p : Addr} {o : HO} (h : H p = none) : Same H (upd H p o) := fun b u e => by rw [upd_ne (ne_of_none e h)]; exact e
theorem Rel.fresh (R : Rel K mg B F α H σ S) {p : Addr} (h : H p = none) : F p = none := R.sub.free h
/-- a new frozen thing -/
theorem Rel.allocF (R : Rel K mg B F α H σ S) {p : Addr} {o : HO} (h : H p = none) : Rel K mg B (upd F p o) α (upd H p o) σ S := by
  refine R.grow (same_upd (R.fresh h)) (same_upd h) (fun b u e => ?_) fun b u e => ?_
  · by_cases q : b = p
    · subst q; rw [upd_same] at e ⊢; exact e
    · rw [upd_ne q] at e ⊢; exact R.sub b u e
  · by_cases q : b = p
    · subst q; exact .inr h
    · rw [upd_ne q] at e; exact .inl e
theorem stp_allocF {p : Addr} {o : HO} (h : F p = none) : Stp F α L (upd F p o) α := ⟨same_upd h, fun _ _ => rfl⟩
def setα (α : Nat → Addr) (n : Nat) (p : Addr) : Nat → Addr := fun m => if m = n then p else α m
theorem stp_setα {n : Nat} {p : Addr} (h : n ∉ names L) : Stp F α L F (setα α n p) := ⟨Same.refl _, fun m hm => by show (if m = n then p else α m) = α m; rw [if_neg (show ¬ m = n from fun q => h (by rw [← q]; exact hm))]⟩
theorem names_append (L : List (Nat × LO)) (n : Nat) (o : LO) : names (L ++ [(n, o)]) = names L ++ [n] := by simp [names]
/-- a new live thing -/
theorem Rel.allocL (R : Rel K mg B F α H σ S) {p : Addr} {o : HO} {n : Nat} {u : LO} (h : H p = none) (hn : n ∉ names S.L) (h100 : 100 ≤ n)
    (new : LAt K mg B F (setα α n p) (S.L ++ [(n, u)]) (upd H p o) p u) : Rel K mg B F (setα α n p) (upd H p o) σ ⟨S.ρ, S.L ++ [(n, u)]⟩ := by
  have st : Stp F α S.L F (setα α n p) := stp_setα hn
  have hsub : ∀ m, m ∈ names S.L → m ∈ names (S.L ++ [(n, u)]) := fun m hm => by rw [names_append]; exact List.mem_append_left _ hm
  have hself : setα α n p n = p := by unfold setα; rw [if_pos rfl]
  have hp0 : B.H0 p = none ∨ B.fp p := by
    by_cases f : B.fp p
    · exact .inr f
    · refine .inl ?_
      cases q : B.H0 p with
      | none => rfl
      | some w' => rw [R.frame p w' q f] at h; cases h
  refine ⟨fun b w' e => same_upd h b w' (R.sub b w' e), R.bF, R.nF, fun b w' e f => same_upd h b w' (R.frame b w' e f), ?_, ?_, ?_, R.slots.step st hsub, fun m a e hm => ?_⟩
  · rw [names_append]
    exact List.nodup_append.mpr ⟨R.nd, by simp, fun a ha b hb => by
      have : b = n := by simpa using hb
      subst this
      exact fun q => hn (q ▸ ha)⟩
  · have key : ∀ m, m ∈ names S.L → setα α n p m ≠ p := fun m hm e => by
      rw [st.nm m hm] at e
      obtain ⟨⟨m', o'⟩, h1, h2⟩ := List.mem_map.mp hm
      cases h2
      obtain ⟨w', hw⟩ := (R.live _ _ h1).2.2.is
      rw [e, h] at hw; cases hw
    intro a b ha hb e
    rw [names_append] at ha hb
    rcases List.mem_append.mp ha with ha' | ha' <;> rcases List.mem_append.mp hb with hb' | hb'
    · rw [st.nm a ha', st.nm b hb'] at e; exact R.inj a b ha' hb' e
    · have h2 : b = n := by simpa using hb'
      rw [h2, hself] at e
      exact absurd e (key a ha')
    · have h2 : a = n := by simpa using ha'
      rw [h2, hself] at e
      exact absurd e.symm (key b hb')
    · have h1 : a = n := by simpa using ha'
      have h2 : b = n := by simpa using hb'
      rw [h1, h2]
  · intro m o' hm
    rcases List.mem_append.mp hm with hm | hm
    · obtain ⟨h1, h2, h3⟩ := R.live m o' hm
      have e : setα α n p m = α m := st.nm m (mem_names hm)
      rw [e]
      exact ⟨h1, h2, h3.step st hsub (same_upd h) fun b w' z => .inl z⟩
    · have e : (m, o') = (n, u) := by simpa using hm
      cases e
      rw [hself]
      exact ⟨R.fresh h, hp0, new⟩
  · have hm : m ∈ names (S.L ++ [(n, u)]) := hm
    rw [names_append] at hm
    rcases List.mem_append.mp hm with hm | hm
    · rw [st.nm m hm]; exact R.fix m a e hm
    · have : m = n := by simpa using hm
      rw [this, B.hpa n h100] at e; cases e
/-- a live thing is changed -/
theorem Rel.write (R : Rel K mg B F α H σ S) {n : Nat} {o u : LO} {o' : HO} (hn : (n, o) ∈ S.L)
    (no : ∀ b y, H b = some (.own y) → b ≠ α n) (new : LAt K mg B F α (setL n u S.L) (upd H (α n) o') (α n) u)
    (oth : ∀ m w', (m, w') ∈ S.L → m ≠ n → LAt K mg B F α S.L H (α m) w' → LAt K mg B F α (setL n u S.L) (upd H (α n) o') (α m) w') :
    Rel K mg B F α (upd H (α n) o') σ ⟨S.ρ, setL n u S.L⟩ := by
  obtain ⟨f0, f1, f2⟩ := R.live n o hn
  obtain ⟨w0, hw0⟩ := f2.is
  have st : Stp F α S.L F α := Stp.refl
  have hsub : ∀ m, m ∈ names S.L → m ∈ names (setL n u S.L) := fun m hm => by rw [names_setL]; exact hm
  refine ⟨fun b w' e => ?_, R.bF, R.nF, fun b w' e f => ?_, by rw [names_setL]; exact R.nd, fun a b ha hb e => R.inj a b (by rw [names_setL] at ha; exact ha) (by rw [names_setL] at hb; exact hb) e, fun m w' hm => ?_, R.slots.step st hsub, fun m a e hm => R.fix m a e (by rw [names_setL] at hm; exact hm)⟩
  · rw [upd_ne (fun q => by rw [q, f0] at e; cases e)]; exact R.sub b w' e
  · have hb : b ≠ α n := fun q => by
      subst q
      rcases f1 with z | z
      · rw [z] at e; cases e
      · exact f z
    rw [upd_ne hb]; exact R.frame b w' e f
  · rcases mem_setL R.nd hm with ⟨h1, h2⟩ | ⟨h1, h2⟩
    · subst h1; subst h2
      exact ⟨f0, f1, new⟩
    · obtain ⟨g0, g1, g2⟩ := R.live m w' h2
      exact ⟨g0, g1, oth m w' h2 h1 g2⟩
theorem LAt.other {o : LO} {p : Addr} {w' : HO} (ne : a ≠ p) (no : ∀ b, H b = some (.own a) → b ≠ p) (hs : ∀ n, n ∈ names L → n ∈ names L') (h : LAt K mg B F α L H a o) : LAt K mg B F α L' (upd H p w') a o := by
  have st : Stp F α L F α := Stp.refl
  cases o with
  | fl ds => obtain ⟨vs, e, r⟩ := h; exact ⟨vs, by rw [upd_ne ne]; exact e, r⟩
  | cl cs => obtain ⟨vs, e, r⟩ := h; exact ⟨vs, by rw [upd_ne ne]; exact e, r.step st hs⟩
  | ins c fs => obtain ⟨C, dx, vs, m, e1, e2, e3, e4, r⟩ := h; exact ⟨C, dx, vs, m, by rw [upd_ne ne]; exact e1, by rw [upd_ne (no _ e2)]; exact e2, e3, e4, r.step st hs⟩
  | dT kvs => obtain ⟨vs, e, r⟩ := h; exact ⟨vs, by rw [upd_ne ne]; exact e, r⟩
  | dK kvs => obtain ⟨vs, e, r⟩ := h; exact ⟨vs, by rw [upd_ne ne]; exact e, r.step st hs⟩
theorem LAt.notown {o : LO} (h : LAt K mg B F α L H a o) : ∀ b y, H b = some (.own y) → b ≠ a := fun b y e q => by
  subst q
  cases o with
  | fl ds => obtain ⟨vs, e1, r⟩ := h; rw [e] at e1; cases e1
  | cl cs => obtain ⟨vs, e1, r⟩ := h; rw [e] at e1; cases e1
  | ins c fs => obtain ⟨C, dx, vs, m, e1, _⟩ := h; rw [e] at e1; cases e1
  | dT kvs => obtain ⟨vs, e1, r⟩ := h; rw [e] at e1; cases e1
  | dK kvs => obtain ⟨vs, e1, r⟩ := h; rw [e] at e1; cases e1
/-- .. in short -/
theorem Rel.put (R : Rel K mg B F α H σ S) {n : Nat} {o u : LO} {o' : HO} (hn : (n, o) ∈ S.L) (new : LAt K mg B F α (setL n u S.L) (upd H (α n) o') (α n) u) : Rel K mg B F α (upd H (α n) o') σ ⟨S.ρ, setL n u S.L⟩ := by
  have no := (R.live n o hn).2.2.notown
  refine R.write hn no new fun m w' hm ne h => h.other (fun q => ne (R.inj _ _ (mem_names hm) (mem_names hn) q)) (fun b e => no b _ e) fun k hk => by rw [names_setL]; exact hk
end
end Nz

namespace Nz
open PySem PySem.Spec PyProof.Rows L2

def Sub (L L' : List (Nat × LO)) : Prop := ∀ n, n ∈ names L → n ∈ names L'
theorem Sub.refl {L : List (Nat × LO)} : Sub L L := fun _ h => h
theorem Sub.app {L M : List (Nat × LO)} : Sub L (L ++ M) := fun n h => by rw [names, List.map_append]; exact List.mem_append_left _ h
theorem Sub.setL {L : List (Nat × LO)} {n : Nat} {o : LO} : Sub L (setL n o L) := fun k h => by rw [names_setL]; exact h

/-- the cell c looks like the list ds, the tuple ds -/
def AsL (L : List (Nat × LO)) (c : Ce) (ds : List D) : Prop :=
  match c with
  | .fr d => d = .lst ds
  | .ad n => getL n L = some (.fl ds)
def AsT (c : Ce) (ds : List D) : Prop := c = .fr (.tup ds)
section
variable {X : Cx} {B : Bd} {F : Hp} {α : Nat → Addr} {H : Hp} {σ : L2.St} {S : Nz.S}
theorem Rel.asL (R : RelX X B F α H σ S) {c : Ce} {ds : List D} {v : V} (h : AsL S.L c ds) (r : CR X F α S.L c v) : ∃ a vs, v = .ref a ∧ SqL X.K H a vs ∧ Reps X.K X.mg F ds vs := by
  cases c with
  | fr d =>
    have e : d = .lst ds := h
    subst e
    have r' : Rep X.K X.mg F (.lst ds) v := r
    cases r' with
    | lst h1 h2 => exact ⟨_, _, rfl, R.sub.seq h1, h2⟩
  | ad n =>
    obtain ⟨_, rfl⟩ := r
    obtain ⟨_, _, vs, e, q⟩ := R.live n _ (getL_mem h)
    exact ⟨_, vs, rfl, SqL.of e, q⟩
theorem Rel.asT (R : RelX X B F α H σ S) {ds : List D} {v : V} (r : Rep X.K X.mg F (.tup ds) v) : ∃ a vs, v = .ref a ∧ SqT X.K H a vs ∧ Reps X.K X.mg F ds vs := by
  cases r with
  | tup h1 h2 => exact ⟨_, _, rfl, R.sub.seqT h1, h2⟩
end

/-! ### operations on values -/
def Op2 (X : Cx) (f : Value → Value → Sem Value) (d1 d2 d : D) : Prop :=
  ∀ B F α H σ (S : Nz.S) (Q : VK) x y, RelX X B F α H σ S → Rep X.K X.mg F d1 x → Rep X.K X.mg F d2 y → (∀ F' α' v H', RelX X B F' α' H' σ S → Stp F α S.L F' α' → Rep X.K X.mg F' d v → Q v H') →
    ∀ pins s v u, Inv X pins σ H s → RelV x v → RelV y u → wpAny (model X.prog X.w) X.A (f v u) (EP X pins σ Q) X.xe s
theorem Op2.pure {X : Cx} {f : Value → Value → Sem Value} {d1 d2 d : D} {r : R2} {v : V} (h : OpR X f r) (hd : ∀ F, Rep X.K X.mg F d v)
    (hr : ∀ F H (Q : VK) x y, Same F H → Rep X.K X.mg F d1 x → Rep X.K X.mg F d2 y → Q v H → r x y H Q) : Op2 X f d1 d2 d :=
  fun B F α H σ S Q x y R rx ry k pins s v' u I rv ru => h pins s σ H x y v' u Q I rv ru (hr F H Q x y R.sub rx ry (k F α v H R Stp.refl (hd F)))
section
variable {X : Cx}
theorem op2I {f : Value → Value → Sem Value} {C : Int → Int → Prop} {g : Int → Int → V} {i j : Int} {d : D} (h : OpR X f (rI C g)) (hc : C i j) (hd : ∀ F, Rep X.K X.mg F d (g i j)) : Op2 X f (.int i) (.int j) d :=
  .pure h hd fun F H Q x y _ rx ry q => by cases rx; cases ry; exact ⟨_, _, rfl, rfl, hc, q⟩
theorem op2I0 {f : Value → Value → Sem Value} {g : Int → Int → V} {i j : Int} {d : D} (h : OpR X f (rI0 g)) (hd : ∀ F, Rep X.K X.mg F d (g i j)) : Op2 X f (.int i) (.int j) d :=
  .pure h hd fun F H Q x y _ rx ry q => by cases rx; cases ry; exact ⟨_, _, rfl, rfl, q⟩
theorem o_add {i j : Int} : Op2 X (binaryOp .Add) (.int i) (.int j) (.int (i + j)) := op2I0 op_add fun _ => .int _
theorem o_sub {i j : Int} : Op2 X (binaryOp .Sub) (.int i) (.int j) (.int (i - j)) := op2I0 op_sub fun _ => .int _
theorem o_mul {i j : Int} (h : CMul i j) : Op2 X (binaryOp .Mult) (.int i) (.int j) (.int (i * j)) := op2I op_mul h fun _ => .int _
theorem o_div {i j : Int} (h : 0 < j) (h' : j < 1073741824) : Op2 X (binaryOp .FloorDiv) (.int i) (.int j) (.int (i / j)) := op2I op_fdiv ⟨h, h'⟩ fun _ => .int _
theorem o_mod {i j : Int} (h : 0 < j) : Op2 X (binaryOp .Mod) (.int i) (.int j) (.int (i % j)) := op2I op_mod h fun _ => .int _
theorem o_pow {i j : Int} (h : CPow i j) : Op2 X (binaryOp .Pow) (.int i) (.int j) (.int (i ^ j.toNat)) := op2I op_pow h fun _ => .int _
theorem o_adds {i j : Str} (h : i.length + j.length ≤ sizeLine) : Op2 X (binaryOp .Add) (.str i) (.str j) (.str (i ++ j)) :=
  .pure (v := .str (i ++ j)) op_add_str (fun _ => .str _) fun F H Q x y _ rx ry q => by cases rx; cases ry; exact ⟨_, _, rfl, rfl, h, q⟩
theorem o_lt {i j : Int} : Op2 X (compareOp .Lt) (.int i) (.int j) (.bl (decide (i < j))) := op2I0 op_lt fun _ => .bl _
theorem o_le {i j : Int} : Op2 X (compareOp .LtE) (.int i) (.int j) (.bl (decide (i ≤ j))) := op2I0 op_le fun _ => .bl _
theorem o_gt {i j : Int} : Op2 X (compareOp .Gt) (.int i) (.int j) (.bl (decide (j < i))) := op2I0 op_gt fun _ => .bl _
theorem o_ge {i j : Int} : Op2 X (compareOp .GtE) (.int i) (.int j) (.bl (decide (j ≤ i))) := op2I0 op_ge fun _ => .bl _

theorem o_eqi {i j : Int} : Op2 X (compareOp .Eq) (.int i) (.int j) (.bl (decide (i = j))) :=
  .pure (v := .bl (decide (V.int i = V.int j))) op_eq (fun _ => by rw [show decide (V.int i = V.int j) = decide (i = j) from by simp]; exact .bl _) fun F H Q x y _ rx ry q => by cases rx; cases ry; exact ⟨rfl, q⟩
theorem o_nei {i j : Int} : Op2 X (compareOp .NotEq) (.int i) (.int j) (.bl (!decide (i = j))) :=
  .pure (v := .bl (!decide (V.int i = V.int j))) op_ne (fun _ => by rw [show decide (V.int i = V.int j) = decide (i = j) from by simp]; exact .bl _) fun F H Q x y _ rx ry q => by cases rx; cases ry; exact ⟨rfl, q⟩
theorem o_eqs {i j : Str} : Op2 X (compareOp .Eq) (.str i) (.str j) (.bl (decide (i = j))) :=
  .pure (v := .bl (decide (V.str i = V.str j))) op_eq (fun _ => by rw [show decide (V.str i = V.str j) = decide (i = j) from by simp]; exact .bl _) fun F H Q x y _ rx ry q => by cases rx; cases ry; exact ⟨rfl, q⟩
theorem o_nes {i j : Str} : Op2 X (compareOp .NotEq) (.str i) (.str j) (.bl (!decide (i = j))) :=
  .pure (v := .bl (!decide (V.str i = V.str j))) op_ne (fun _ => by rw [show decide (V.str i = V.str j) = decide (i = j) from by simp]; exact .bl _) fun F H Q x y _ rx ry q => by cases rx; cases ry; exact ⟨rfl, q⟩
theorem o_eqb {i j : Bool} : Op2 X (compareOp .Eq) (.bl i) (.bl j) (.bl (decide (i = j))) :=
  .pure (v := .bl (decide (V.bl i = V.bl j))) op_eq (fun _ => by rw [show decide (V.bl i = V.bl j) = decide (i = j) from by simp]; exact .bl _) fun F H Q x y _ rx ry q => by cases rx; cases ry; exact ⟨rfl, q⟩
theorem o_neb {i j : Bool} : Op2 X (compareOp .NotEq) (.bl i) (.bl j) (.bl (!decide (i = j))) :=
  .pure (v := .bl (!decide (V.bl i = V.bl j))) op_ne (fun _ => by rw [show decide (V.bl i = V.bl j) = decide (i = j) from by simp]; exact .bl _) fun F H Q x y _ rx ry q => by cases rx; cases ry; exact ⟨rfl, q⟩
end

/-! ### expressions -/
section
variable {X : Cx} {B : Bd} {S S1 S2 S3 : Nz.S} {a b c e : Expr} {es : List Expr} {pos p : Pos} {d d1 d2 d3 : D}
theorem ev_var (i : Nat) {x : Str} {c : Ce} (hN : X.N[i]? = some x) (hv : Vis X.env.scope x) (hρ : S.ρ[i]? = some (some c)) (hd : (x == ("__debug__" : Str)) = false := by decide) (hcd : (x == ("__classdict__" : Str)) = false := by decide) : Ev X B (.Name x pos) S c S :=
  fun F α H σ Q R k => wE.of (pe_var hN hv hd hcd) (by
    obtain ⟨v, e, r⟩ := R.slots.get hρ
    exact ⟨v, e, k F α v H R Stp.refl r⟩)
theorem ev_int {i : Int} {j pos} : Ev X B (.Constant (.int i) j pos) S (.fr (.int i)) S := fun F α H σ Q R k => wE.of pe_int (k F α _ H R Stp.refl (.int i))
theorem ev_bl {i : Bool} {j pos} : Ev X B (.Constant (.bool i) j pos) S (.fr (.bl i)) S := fun F α H σ Q R k => wE.of pe_bl (k F α _ H R Stp.refl (.bl i))
theorem ev_non {j pos} : Ev X B (.Constant .none j pos) S (.fr .non) S := fun F α H σ Q R k => wE.of pe_non (k F α _ H R Stp.refl .non)
theorem ev_str {i : Str} {j pos} : Ev X B (.Constant (.str i) j pos) S (.fr (.str i)) S := fun F α H σ Q R k => wE.of pe_str (k F α _ H R Stp.refl (.str i))
theorem ev_gi {x : Str} {i : Int} {t : Tok} (hg : Gl X x) (hm : X.mg x = some (.int i t)) (hd : (x == ("__debug__" : Str)) = false := by decide) : Ev X B (.Name x pos) S (.fr (.int i)) S :=
  fun F α H σ Q R k => wE.of (pe_glob (v := .int i) hg hm ⟨t, rfl⟩ hd) (k F α _ H R Stp.refl (.int i))
theorem ev_gs {x : Str} {i : Str} {t : Tok} (hg : Gl X x) (hm : X.mg x = some (.str i t)) (hd : (x == ("__debug__" : Str)) = false := by decide) : Ev X B (.Name x pos) S (.fr (.str i)) S :=
  fun F α H σ Q R k => wE.of (pe_glob (v := .str i) hg hm ⟨t, rfl⟩ hd) (k F α _ H R Stp.refl (.str i))
theorem ev_bin {op : Operator} (ho : Op2 X (binaryOp op) d1 d2 d) (ha : Ev X B a S (.fr d1) S1) (hb : Ev X B b S1 (.fr d2) S2) (h1 : Sub S.L S1.L := by exact Sub.refl) (h2 : Sub S1.L S2.L := by exact Sub.refl) : Ev X B (.BinOp a op b pos) S (.fr d) S2 :=
  fun F α H σ Q R k pins s I => by
    refine wpAny_BinOp (thn (ha F α H σ _ R (fun F1 α1 v1 H1 R1 st1 r1 => hb F1 α1 H1 σ (fun v2 H2 => ∃ F2 α2, RelX X B F2 α2 H2 σ S2 ∧ Stp F α S.L F2 α2 ∧ Rep X.K X.mg F2 d1 v1 ∧ Rep X.K X.mg F2 d2 v2) R1 fun F2 α2 v2 H2 R2 st2 r2 =>
      ⟨F2, α2, R2, st1.trans st2 h1, Rep.mono st2.fro r1, r2⟩) pins s I) fun v s1 ⟨x, H1, I1, rv, q1⟩ => thn (q1 pins s1 I1) fun u s2 ⟨y, H2, I2, ru, F2, α2, R2, st, r1, r2⟩ => ?_)
    exact ho B F2 α2 H2 σ S2 Q x y R2 r1 r2 (fun F' α' v' H' R' st' r' => k F' α' v' H' R' (st.trans st' fun n h => h2 n (h1 n h)) r') pins s2 v u I2 rv ru
theorem ev_cmp {op : CmpOp} (ho : Op2 X (compareOp op) d1 d2 d) (ha : Ev X B a S (.fr d1) S1) (hb : Ev X B b S1 (.fr d2) S2) (hm : behindInMarks op b = false) (h1 : Sub S.L S1.L := by exact Sub.refl) (h2 : Sub S1.L S2.L := by exact Sub.refl) : Ev X B (.Compare a [op] [b] pos) S (.fr d) S2 :=
  fun F α H σ Q R k pins s I => by
    refine wpAny_Compare1 (thn (ha F α H σ _ R (fun F1 α1 v1 H1 R1 st1 r1 => hb F1 α1 H1 σ (fun v2 H2 => ∃ F2 α2, RelX X B F2 α2 H2 σ S2 ∧ Stp F α S.L F2 α2 ∧ Rep X.K X.mg F2 d1 v1 ∧ Rep X.K X.mg F2 d2 v2) R1 fun F2 α2 v2 H2 R2 st2 r2 =>
      ⟨F2, α2, R2, st1.trans st2 h1, Rep.mono st2.fro r1, r2⟩) pins s I) fun v s1 ⟨x, H1, I1, rv, q1⟩ => thn (q1 pins s1 I1) fun u s2 ⟨y, H2, I2, ru, F2, α2, R2, st, r1, r2⟩ => ?_) hm
    exact ho B F2 α2 H2 σ S2 Q x y R2 r1 r2 (fun F' α' v' H' R' st' r' => k F' α' v' H' R' (st.trans st' fun n h => h2 n (h1 n h)) r') pins s2 v u I2 rv ru
theorem ev_un {op : UnaryOp} {g : Int → V} {i : Int} (ho : UnR X (unaryOp op) (rU g)) (hd : ∀ F, Rep X.K X.mg F d (g i)) (ha : Ev X B a S (.fr (.int i)) S1) : Ev X B (.UnaryOp op a pos) S (.fr d) S1 :=
  fun F α H σ Q R k => wE.of (pe_un ho pe_w) (ha F α H σ _ R fun F1 α1 v1 H1 R1 st1 r1 => by cases r1; exact ⟨_, rfl, k F1 α1 _ H1 R1 st1 (hd F1)⟩)
theorem ev_neg {i : Int} (ha : Ev X B a S (.fr (.int i)) S1) : Ev X B (.UnaryOp .USub a pos) S (.fr (.int (-i))) S1 := ev_un un_neg (fun _ => .int _) ha
theorem ev_not {i : Bool} (ha : Ev X B a S (.fr (.bl i)) S1) : Ev X B (.UnaryOp .Not a pos) S (.fr (.bl (!i))) S1 :=
  fun F α H σ Q R k => wE.of (pe_not pe_w) (ha F α H σ _ R fun F1 α1 v1 H1 R1 st1 r1 => by cases r1; exact ⟨_, rfl, k F1 α1 _ H1 R1 st1 (.bl _)⟩)
theorem ev_one {op : BoolOp} {c : Ce} (ha : Ev X B a S c S1) : Ev X B (.BoolOp op [a] pos) S c S1 :=
  fun F α H σ Q R k => wE.of (pe_one pe_w) (ha F α H σ _ R k)
theorem ev_and {i j : Bool} (ha : Ev X B a S (.fr (.bl i)) S) (hb : i = true → Ev X B (.BoolOp .And (b :: es) pos) S (.fr (.bl j)) S) : Ev X B (.BoolOp .And (a :: b :: es) pos) S (.fr (.bl (i && j))) S :=
  fun F α H σ Q R k => wE.of (pe_and pe_w pe_w) (ha F α H σ _ R fun F1 α1 v1 H1 R1 st1 r1 => by
    cases r1
    refine ⟨i, rfl, ?_⟩
    cases i with
    | true => rw [if_pos rfl]; exact hb rfl F1 α1 H1 σ _ R1 fun F2 α2 v2 H2 R2 st2 r2 => k F2 α2 v2 H2 R2 (st1.trans st2 Sub.refl) (by simpa using r2)
    | false => rw [if_neg Bool.false_ne_true]; exact k F1 α1 _ H1 R1 st1 (.bl _))
theorem ev_or {i j : Bool} (ha : Ev X B a S (.fr (.bl i)) S) (hb : i = false → Ev X B (.BoolOp .Or (b :: es) pos) S (.fr (.bl j)) S) : Ev X B (.BoolOp .Or (a :: b :: es) pos) S (.fr (.bl (i || j))) S :=
  fun F α H σ Q R k => wE.of (pe_or pe_w pe_w) (ha F α H σ _ R fun F1 α1 v1 H1 R1 st1 r1 => by
    cases r1
    refine ⟨i, rfl, ?_⟩
    cases i with
    | false => rw [if_neg Bool.false_ne_true]; exact hb rfl F1 α1 H1 σ _ R1 fun F2 α2 v2 H2 R2 st2 r2 => k F2 α2 v2 H2 R2 (st1.trans st2 Sub.refl) (by simpa using r2)
    | true => rw [if_pos rfl]; exact k F1 α1 _ H1 R1 st1 (.bl _))
/-- tests -/
theorem et_val {i : Bool} (ha : Ev X B a S (.fr (.bl i)) S1) (he : ∀ whole, isTrue a X.env whole = (do let v ← whole; standAt a.pos; holding [v] (truthy v)) := by intro _; rfl) : Et X B a S i S1 :=
  fun F α H σ Q R k => wT.of (pt_val pe_w he) (ha F α H σ _ R fun F1 α1 v1 H1 R1 st1 r1 => by cases r1; exact ⟨i, rfl, k F1 α1 H1 R1 st1⟩)
theorem et_cmp {op : CmpOp} {i : Bool} (ho : Op2 X (compareOp op) d1 d2 (.bl i)) (ha : Ev X B a S (.fr d1) S1) (hb : Ev X B b S1 (.fr d2) S2) (hm : behindInMarks op b = false) (h1 : Sub S.L S1.L := by exact Sub.refl) (h2 : Sub S1.L S2.L := by exact Sub.refl) : Et X B (.Compare a [op] [b] pos) S i S2 :=
  fun F α H σ Q R k pins s I => by
    refine wpAny_isTrue_Compare1 (thn (ha F α H σ _ R (fun F1 α1 v1 H1 R1 st1 r1 => hb F1 α1 H1 σ (fun v2 H2 => ∃ F2 α2, RelX X B F2 α2 H2 σ S2 ∧ Stp F α S.L F2 α2 ∧ Rep X.K X.mg F2 d1 v1 ∧ Rep X.K X.mg F2 d2 v2) R1 fun F2 α2 v2 H2 R2 st2 r2 =>
      ⟨F2, α2, R2, st1.trans st2 h1, Rep.mono st2.fro r1, r2⟩) pins s I) fun v s1 ⟨x, H1, I1, rv, q1⟩ => thn (q1 pins s1 I1) fun u s2 ⟨y, H2, I2, ru, F2, α2, R2, st, r1, r2⟩ => ?_) hm
    refine thn (ho B F2 α2 H2 σ S2 (fun v' H' => ∃ k, v' = .bl k ∧ Q k H') x y R2 r1 r2 (fun F' α' v' H' R' st' r' => by cases r'; exact ⟨i, rfl, k F' α' H' R' (st.trans st' fun n h => h2 n (h1 n h))⟩) pins s2 v u I2 rv ru) fun c s3 ⟨z, H3, I3, r3, k', e, q3⟩ => ?_
    subst e
    cases r3
    exact wpAny_truthy_bool ⟨H3, I3, q3⟩
theorem et_not {i : Bool} (ha : Et X B a S i S1) : Et X B (.UnaryOp .Not a pos) S (!i) S1 := fun F α H σ Q R k => wT.of (pt_not pt_w) (ha F α H σ _ R k)
/-- a chain of tests, whatever its whole -/
def Ew (X : Cx) (B : Bd) (e : Expr) (S : Nz.S) (b : Bool) : Prop :=
  ∀ F α H σ (Q : Bool → Hp → Prop), RelX X B F α H σ S → (∀ F' α' H', RelX X B F' α' H' σ S → Stp F α S.L F' α' → Q b H') → ∀ whole pins s, Inv X pins σ H s → wpAny (model X.prog X.w) X.A (isTrue e X.env whole) (TP X pins σ Q) X.xe s
def tW (X : Cx) (e : Expr) : TT := fun σ H Q => ∀ whole pins s, Inv X pins σ H s → wpAny (model X.prog X.w) X.A (isTrue e X.env whole) (TP X pins σ Q) X.xe s
theorem pw_w {e : Expr} : PW X e (tW X e) := ⟨fun whole pins s σ H Q I h => h whole pins s I⟩
theorem Ew.of {e : Expr} {t : TT} {i : Bool} (h : PW X e t) (q : ∀ F α H σ (Q : Bool → Hp → Prop), RelX X B F α H σ S → (∀ F' α' H', RelX X B F' α' H' σ S → Stp F α S.L F' α' → Q i H') → t σ H Q) : Ew X B e S i :=
  fun F α H σ Q R k whole pins s I => h.run whole pins s σ H Q I (q F α H σ Q R k)
theorem Ew.et {e : Expr} {i : Bool} (h : Ew X B e S i) : Et X B e S i S := fun F α H σ Q R k pins s I => h F α H σ Q R k _ pins s I
theorem ew_and1 {i : Bool} (ha : Et X B a S i S) : Ew X B (.BoolOp .And [a] pos) S i := .of (pw_and1 pt_w) fun F α H σ Q R k => ha F α H σ _ R k
theorem ew_or1 {i : Bool} (ha : Et X B a S i S) : Ew X B (.BoolOp .Or [a] pos) S i := .of (pw_or1 pt_w) fun F α H σ Q R k => ha F α H σ _ R k
theorem ew_and {i j : Bool} (ha : Et X B a S i S) (hb : i = true → Ew X B (.BoolOp .And (b :: es) pos) S j) : Ew X B (.BoolOp .And (a :: b :: es) pos) S (i && j) :=
  .of (pw_and pt_w pw_w) fun F α H σ Q R k => ha F α H σ _ R fun F1 α1 H1 R1 st1 => by
    cases i with
    | true => rw [if_pos rfl]; exact hb rfl F1 α1 H1 σ _ R1 fun F2 α2 H2 R2 st2 => by simpa using k F2 α2 H2 R2 (st1.trans st2 Sub.refl)
    | false => rw [if_neg Bool.false_ne_true]; simpa using k F1 α1 H1 R1 st1
theorem ew_or {i j : Bool} (ha : Et X B a S i S) (hb : i = false → Ew X B (.BoolOp .Or (b :: es) pos) S j) : Ew X B (.BoolOp .Or (a :: b :: es) pos) S (i || j) :=
  .of (pw_or pt_w pw_w) fun F α H σ Q R k => ha F α H σ _ R fun F1 α1 H1 R1 st1 => by
    cases i with
    | false => rw [if_neg Bool.false_ne_true]; exact hb rfl F1 α1 H1 σ _ R1 fun F2 α2 H2 R2 st2 => by simpa using k F2 α2 H2 R2 (st1.trans st2 Sub.refl)
    | true => rw [if_pos rfl]; simpa using k F1 α1 H1 R1 st1
theorem ev_if {t : Expr} {i : Bool} (ht : Et X B t S i S) (ha : i = true → Ev X B a S (.fr d1) S) (hb : i = false → Ev X B b S (.fr d2) S) : Ev X B (.IfExp t a b pos) S (.fr (if i = true then d1 else d2)) S :=
  fun F α H σ Q R k => wE.of (pe_ifExp pt_w pe_w pe_w) (ht F α H σ _ R fun F1 α1 H1 R1 st1 => by
    cases i with
    | true => rw [if_pos rfl]; exact ha rfl F1 α1 H1 σ _ R1 fun F2 α2 v2 H2 R2 st2 r2 => k F2 α2 v2 H2 R2 (st1.trans st2 Sub.refl) (by simpa using r2)
    | false => rw [if_neg Bool.false_ne_true]; exact hb rfl F1 α1 H1 σ _ R1 fun F2 α2 v2 H2 R2 st2 r2 => k F2 α2 v2 H2 R2 (st1.trans st2 Sub.refl) (by simpa using r2))

/-! argument lists -/
theorem ea_nil : Ea X B [] S [] S := fun F α H σ Q R k => wA.of pa_nil (k F α _ H R Stp.refl .nil)
theorem ea_cons {c : Ce} {cs : List Ce} (ha : Ev X B a S c S1) (hr : Ea X B es S1 cs S2) (h1 : Sub S.L S1.L := by exact Sub.refl) (h2 : Sub S1.L S2.L := by exact Sub.refl) (hs : starEach (a :: es) X.env = (false, eval a X.env) :: starEach es X.env := by rfl) : Ea X B (a :: es) S (c :: cs) S2 :=
  fun F α H σ Q R k => wA.of (pa_cons pe_w pa_w hs) (ha F α H σ _ R fun F1 α1 v1 H1 R1 st1 r1 => hr F1 α1 H1 σ _ R1 fun F2 α2 vs H2 R2 st2 r2 => k F2 α2 _ H2 R2 (st1.trans st2 h1) (.cons (r1.step st2 h2) r2))

/-! displays -/
theorem ev_lst {ds : List D} (h : Ea X B es S (ds.map Ce.fr) S1) (hz : ds.length ≤ sizeLine) : Ev X B (.List es pos) S (.fr (.lst ds)) S1 :=
  fun F α H σ Q R k => wE.of (pe_lst pa_w) (h F α H σ _ R fun F1 α1 vs H1 R1 st1 r1 => by
    have r := r1.fr
    refine ⟨by rw [← r.length]; exact hz, fun p hp => ?_⟩
    have hf := R1.fresh hp
    exact k _ α1 _ _ (R1.allocF hp) ⟨st1.fro.trans (same_upd hf), st1.nm⟩ (Rep.lst (SqL.of upd_same) (r.mono (same_upd hf))))
theorem ev_tup {ds : List D} {k1} (h : Ea X B es S (ds.map Ce.fr) S1) (hz : ds.length ≤ sizeLine) : Ev X B (.Tuple es k1 pos) S (.fr (.tup ds)) S1 :=
  fun F α H σ Q R k => wE.of (pe_tup pa_w) (h F α H σ _ R fun F1 α1 vs H1 R1 st1 r1 => by
    have r := r1.fr
    refine ⟨by rw [← r.length]; exact hz, fun p hp => ?_⟩
    have hf := R1.fresh hp
    exact k _ α1 _ _ (R1.allocF hp) ⟨st1.fro.trans (same_upd hf), st1.nm⟩ (Rep.tup (SqT.of upd_same) (r.mono (same_upd hf))))
theorem ev_lstL (n : Nat) {ds : List D} (h : Ea X B es S (ds.map Ce.fr) S1) (hz : ds.length ≤ sizeLine) (hn : n ∉ names S1.L) (h100 : 100 ≤ n) (h1 : Sub S.L S1.L := by exact Sub.refl) : Ev X B (.List es pos) S (.ad n) ⟨S1.ρ, S1.L ++ [(n, .fl ds)]⟩ :=
  fun F α H σ Q R k => wE.of (pe_lst pa_w) (h F α H σ _ R fun F1 α1 vs H1 R1 st1 r1 => by
    have r := r1.fr
    refine ⟨by rw [← r.length]; exact hz, fun p hp => ?_⟩
    refine k F1 (setα α1 n p) _ _ (R1.allocL hp hn h100 ⟨vs, upd_same, r⟩) (st1.trans (stp_setα hn) h1) ⟨?_, ?_⟩
    · rw [names_append]; exact List.mem_append_right _ (List.mem_singleton.mpr rfl)
    · show V.ref p = V.ref (if n = n then p else α1 n)
      rw [if_pos rfl])

/-! items -/
theorem ev_ixL {ca : Ce} {i : Int} {ds : List D} (ha : Ev X B a S ca S1) (hb : Ev X B b S1 (.fr (.int i)) S2) (hl : AsL S2.L ca ds) (hi : atI ds i = some d) (hs : PlainIx b := by exact fun _ _ => rfl) (h1 : Sub S.L S1.L := by exact Sub.refl) (h2 : Sub S1.L S2.L := by exact Sub.refl) :
    Ev X B (.Subscript a b pos) S (.fr d) S2 :=
  fun F α H σ Q R k => wE.of (pe_ix ix_list pe_w pe_w hs) (ha F α H σ _ R fun F1 α1 v1 H1 R1 st1 r1 => hb F1 α1 H1 σ _ R1 fun F2 α2 v2 H2 R2 st2 r2 => by
    obtain ⟨p, vs, rfl, hq, rs⟩ := R2.asL hl (r1.step st2 h2)
    cases r2
    obtain ⟨v, hv, rv⟩ : ∃ v, atI vs i = some v ∧ Rep X.K X.mg F2 d v := by
      unfold atI at hi ⊢
      rw [← rs.length]
      cases q : ixN ds.length i with
      | none => rw [q] at hi; cases hi
      | some j => rw [q] at hi; exact rs.get hi
    exact ⟨p, vs, i, v, rfl, rfl, hq, hv, k F2 α2 v H2 R2 (st1.trans st2 h1) rv⟩)
theorem ev_ixT {i : Int} {ds : List D} (ha : Ev X B a S (.fr (.tup ds)) S1) (hb : Ev X B b S1 (.fr (.int i)) S2) (hi : atI ds i = some d) (hs : PlainIx b := by exact fun _ _ => rfl) (h1 : Sub S.L S1.L := by exact Sub.refl) (h2 : Sub S1.L S2.L := by exact Sub.refl) :
    Ev X B (.Subscript a b pos) S (.fr d) S2 :=
  fun F α H σ Q R k => wE.of (pe_ix ix_tup pe_w pe_w hs) (ha F α H σ _ R fun F1 α1 v1 H1 R1 st1 r1 => hb F1 α1 H1 σ _ R1 fun F2 α2 v2 H2 R2 st2 r2 => by
    obtain ⟨p, vs, rfl, hq, rs⟩ := R2.asT (Rep.mono st2.fro r1)
    cases r2
    obtain ⟨v, hv, rv⟩ : ∃ v, atI vs i = some v ∧ Rep X.K X.mg F2 d v := by
      unfold atI at hi ⊢
      rw [← rs.length]
      cases q : ixN ds.length i with
      | none => rw [q] at hi; cases hi
      | some j => rw [q] at hi; exact rs.get hi
    exact ⟨p, vs, i, v, rfl, rfl, hq, hv, k F2 α2 v H2 R2 (st1.trans st2 h1) rv⟩)
end
end Nz

namespace Nz
open PySem PySem.Spec PyProof.Rows L2

/-! ### what is walked -/
def wI (X : Cx) (tg iter : Expr) (σ : L2.St) (H : Hp) (R : It → Hp → Prop) : Prop :=
  ∀ pins s, Inv X pins σ H s → wpAny (model X.prog X.w) X.A (eval iter X.env) (fun v s1 => wpAny (model X.prog X.w) X.A (pyIter v) (PIE X pins σ tg R) X.xe s1) X.xe s
theorem pi_w {X : Cx} {tg iter : Expr} : PI X tg iter (wI X tg iter) := ⟨fun pins s σ H R I h => h pins s I⟩
theorem wI.of {X : Cx} {tg iter : Expr} {t : TI} {σ : L2.St} {H : Hp} {R : It → Hp → Prop} (h : PI X tg iter t) (q : t σ H R) : wI X tg iter σ H R := fun pins s I => h.run pins s σ H R I q
structure JOk (K : Frag) (mg : Mg) (F : Hp) (J : It) (xs : List D) : Prop where
  go : ∀ (B : Bd) F' α H σ (S : Nz.S) (i : Nat) (d : D), Rel K mg B F' α H σ S → Same F F' → xs[i]? = some d → J.go i H ∧ ∀ x H', J.yld i H x H' → ∃ F2, Rel K mg B F2 α H' σ S ∧ Same F' F2 ∧ Rep K mg F2 d x
  stop : ∀ (B : Bd) F' α H σ (S : Nz.S) (i : Nat), Rel K mg B F' α H σ S → Same F F' → xs.length ≤ i → J.stop i H
def Src (X : Cx) (B : Bd) (tg iter : Expr) (S : Nz.S) (xs : List D) (S1 : Nz.S) : Prop :=
  ∀ F α H σ R, RelX X B F α H σ S → (∀ F' α' H' J, RelX X B F' α' H' σ S1 → Stp F α S.L F' α' → JOk X.K X.mg F' J xs → R J H') → wI X tg iter σ H R
section
variable {X : Cx} {B : Bd} {S S1 S2 S3 : Nz.S} {tg a b c e : Expr} {es : List Expr} {pos p : Pos} {d d1 d2 d3 : D} {xs : List D}
theorem src_list (h : Ev X B e S (.fr (.lst xs)) S1) : Src X B tg e S xs S1 := fun F α H σ R RR k => wI.of (pi_list pe_w) (h F α H σ _ RR fun F1 α1 v1 H1 R1 st1 r1 => by
  cases r1 with
  | lst h1 h2 =>
    rename_i a vs
    refine ⟨a, rfl, ⟨vs, R1.sub.seq h1⟩, k F1 α1 H1 _ R1 st1 ⟨fun B F' α H σ S i d R' hs hi => ?_, fun B F' α H σ S i R' hs hi => ⟨vs, R'.sub.seq (hs.seq h1), by rw [← h2.length]; exact hi⟩⟩⟩
    obtain ⟨v, hv, rv⟩ := h2.get hi
    refine ⟨⟨vs, v, R'.sub.seq (hs.seq h1), hv⟩, fun x H' y => ?_⟩
    obtain ⟨rfl, y⟩ := y
    have := y vs (R'.sub.seq (hs.seq h1))
    rw [hv] at this; cases this
    exact ⟨F', R', Same.refl _, rv.mono hs⟩)
theorem src_tup (h : Ev X B e S (.fr (.tup xs)) S1) : Src X B tg e S xs S1 := fun F α H σ R RR k => wI.of (pi_tup pe_w) (h F α H σ _ RR fun F1 α1 v1 H1 R1 st1 r1 => by
  cases r1 with
  | tup h1 h2 =>
    rename_i a vs
    refine ⟨a, rfl, ⟨vs, R1.sub.seqT h1⟩, k F1 α1 H1 _ R1 st1 ⟨fun B F' α H σ S i d R' hs hi => ?_, fun B F' α H σ S i R' hs hi => ⟨vs, R'.sub.seqT (hs.seqT h1), by rw [← h2.length]; exact hi⟩⟩⟩
    obtain ⟨v, hv, rv⟩ := h2.get hi
    refine ⟨⟨vs, v, R'.sub.seqT (hs.seqT h1), hv⟩, fun x H' y => ?_⟩
    obtain ⟨rfl, y⟩ := y
    have := y vs (R'.sub.seqT (hs.seqT h1))
    rw [hv] at this; cases this
    exact ⟨F', R', Same.refl _, rv.mono hs⟩)
/-- lo, lo + 1, .. -/
def rngD (lo : Int) (n : Nat) : List D := (List.range n).map fun (i : Nat) => D.int (lo + (i : Int))
theorem rngD_get {lo : Int} {n i : Nat} {d : D} (h : (rngD lo n)[i]? = some d) : i < n ∧ d = .int (lo + i) := by
  unfold rngD at h
  rw [List.getElem?_map] at h
  by_cases hi : i < n
  · rw [List.getElem?_range hi] at h
    exact ⟨hi, (Option.some.inj h).symm⟩
  · rw [List.getElem?_eq_none (by simpa using hi)] at h
    cases h
theorem rngD_len {lo : Int} {n : Nat} : (rngD lo n).length = n := by simp [rngD]
theorem jok_range {K : Frag} {mg : Mg} {F : Hp} {lo : Int} {n : Nat} : JOk K mg F (Itr lo n) (rngD lo n) :=
  ⟨fun B F' α H σ S i d R' hs hi => by
    obtain ⟨h1, rfl⟩ := rngD_get hi
    refine ⟨h1, fun x H' y => ?_⟩
    obtain ⟨rfl, rfl⟩ := y
    exact ⟨F', R', Same.refl _, .int _⟩, fun B F' α H σ S i R' hs hi => by rw [rngD_len] at hi; exact hi⟩
theorem src_range1 {j : Int} (h : Ea X B [a] S [.fr (.int j)] S1) (hg : Gl X "range") (hm : X.mg "range" = none) (h1 : -(2 ^ 62) ≤ j) (h2 : j < 2 ^ 62) (hs : starEach [a] X.env = [(false, eval a X.env)] := by rfl) : Src X B tg (.Call (.Name "range" p) [a] [] pos) S (rngD 0 j.toNat) S1 :=
  fun F α H σ R RR k => wI.of (pi_range1 hg hm pa_w hs) (h F α H σ _ RR fun F1 α1 vs H1 R1 st1 r1 => by
    cases r1 with
    | cons r1 r2 =>
      cases r2
      cases r1
      exact ⟨j, rfl, h1, h2, k F1 α1 H1 _ R1 st1 jok_range⟩)
theorem src_range2 {i j : Int} (h : Ea X B [a, b] S [.fr (.int i), .fr (.int j)] S1) (hg : Gl X "range") (hm : X.mg "range" = none) (h1 : -(2 ^ 62) ≤ i) (h2 : i < 2 ^ 62) (h3 : -(2 ^ 62) ≤ j) (h4 : j < 2 ^ 62) (hs : starEach [a, b] X.env = [(false, eval a X.env), (false, eval b X.env)] := by rfl) (hs2 : starEach [b] X.env = [(false, eval b X.env)] := by rfl) :
    Src X B tg (.Call (.Name "range" p) [a, b] [] pos) S (rngD i (j - i).toNat) S1 :=
  fun F α H σ R RR k => wI.of (pi_range2 hg hm pa_w hs hs2) (h F α H σ _ RR fun F1 α1 vs H1 R1 st1 r1 => by
    cases r1 with
    | cons r1 r2 =>
      cases r2 with
      | cons r2 r3 =>
        cases r3
        cases r1
        cases r2
        exact ⟨i, j, rfl, ⟨h1, h2, h3, h4⟩, k F1 α1 H1 _ R1 st1 jok_range⟩)

/-! ### targets -/
def wG (X : Cx) (tg : Expr) (v : V) (σ : L2.St) (H : Hp) (Q : L2.St → Hp → Prop) : Prop :=
  ∀ pins s u, Inv X pins σ H s → RelV v u → wpAny (model X.prog X.w) X.A (assign tg X.env u) (fun _ s' => ∃ σ' H', Inv X pins σ' H' s' ∧ Q σ' H') X.xe s
theorem pg_w {tg : Expr} : PG X tg (fun v σ H Q => wG X tg v σ H Q) := ⟨fun pins s σ H v u Q I r h => h pins s u I r⟩
def Eg (X : Cx) (B : Bd) (tg : Expr) (c : Ce) (S S2 : Nz.S) : Prop :=
  ∀ F α H σ v Q, RelX X B F α H σ S → CR X F α S.L c v → (∀ σ' F' H', RelX X B F' α H' σ' S2 → Same F F' → Q σ' H') → wG X tg v σ H Q
def setS (S : Nz.S) (i : Nat) (c : Ce) : Nz.S := ⟨S.ρ.set i (some c), S.L⟩
theorem Rel.setS {K : Frag} {mg : Mg} {F : Hp} {α : Nat → Addr} {H : Hp} {σ : L2.St} (R : Rel K mg B F α H σ S) {i : Nat} {c : Ce} {v : V} (r : CRel K mg F α S.L c v) : Rel K mg B F α H (σ.set i (some v)) (setS S i c) :=
  ⟨R.sub, R.bF, R.nF, R.frame, R.nd, R.inj, R.live, R.slots.set i r, R.fix⟩
theorem eg_name (i : Nat) {x : Str} {c : Ce} (hN : X.N.Nodup) (hi : X.N[i]? = some x) (hx : Loc X.env.scope x) (hf : X.fn x = true ∨ X.env.scope.names.lookup x = some .local := by first | exact .inl rfl | exact .inr rfl | assumption) : Eg X B (.Name x pos) c S (setS S i c) :=
  fun F α H σ v Q R r k pins s u I ru => (pg_name hN hi hx hf).run pins s σ H v u Q I ru (k _ F H (R.setS r) (Same.refl _))
/-- several -/
def Egs (X : Cx) (B : Bd) (ts : List Expr) (cs : List D) (S S2 : Nz.S) : Prop :=
  ∀ F α H σ vs (Q : L2.St → Hp → Prop), RelX X B F α H σ S → Reps X.K X.mg F cs vs → (∀ σ' F' H', RelX X B F' α H' σ' S2 → Same F F' → Q σ' H') →
    ∀ pins s us, Inv X pins σ H s → Vals vs us → wpAny (model X.prog X.w) X.A (assignInOrder ((assignEach ts X.env).map (·.2)) us) (fun _ s' => ∃ σ' H', Inv X pins σ' H' s' ∧ Q σ' H') X.xe s
theorem egs_nil : Egs X B [] [] S S := fun F α H σ vs Q R r k pins s us I ru => by
  cases r
  cases ru
  exact assignInOrder_nil ⟨σ, H, I, k σ F H R (Same.refl _)⟩
theorem egs_cons {ds : List D} (h1 : Eg X B e (.fr d) S S1) (h2 : Egs X B es ds S1 S2) (hL : S1.L = S.L := by rfl) (hs : (assignEach (e :: es) X.env).map (·.2) = assign e X.env :: (assignEach es X.env).map (·.2) := by rfl) : Egs X B (e :: es) (d :: ds) S S2 :=
  fun F α H σ vs Q R r k pins s us I ru => by
    cases r with
    | cons r rr =>
      cases ru with
      | cons u uu =>
        rw [hs]
        refine assignInOrder_cons (thn (h1 F α H σ _ (fun σ1 H1 => ∃ F1, RelX X B F1 α H1 σ1 S1 ∧ Same F F1) R r (fun σ' F' H' R' s' => ⟨F', R', s'⟩) pins s _ I u) fun _ s1 ⟨σ1, H1, I1, F1, R1, sm⟩ => ?_)
        exact h2 F1 α H1 σ1 _ Q R1 (rr.mono sm) (fun σ' F' H' R' s' => k σ' F' H' R' (sm.trans s')) pins s1 _ I1 uu
theorem eg_tup {ds : List D} {k1} (hc : X.calm = true) (h : Egs X B es ds S S2) (hn : (assignEach es X.env).length = ds.length := by rfl) (hst : (assignEach es X.env).findIdx? (·.1) = none := by rfl) : Eg X B (.Tuple es k1 pos) (.fr (.tup ds)) S S2 :=
  fun F α H σ v Q R r k pins s u I ru => by
    cases (show Rep X.K X.mg F (.tup ds) v from r) with
    | tup hq hr =>
      have hq' := R.sub.seqT hq
      cases ru
      obtain ⟨its, rv, ht, hz⟩ := I.tuple hq'
      refine assign_Tuple_tuple (I.ok.hd hc) ht (by simp [hn, hr.length, rv.length]) hst fun h' hx => ?_
      have I1 : Inv X pins σ H { s with heap := h' } := I.kept (t' := s.toks) fun b o e => hx b o (Nat.ne_of_lt (Heap.lt_size e)) e
      exact h F α H σ _ Q R hr k pins _ _ I1 (by simpa using rv)

/-! ### statements -/
variable {K : Out → Prop} {st : Stmt} {sts body els : List Stmt}
def seqK (X : Cx) (B : Bd) (rest : List Stmt) (K : Out → Prop) : Out → Prop
  | .nx S => Exs X B rest S K
  | .ret c S => K (.ret c S)
  | .bk S => K (.bk S)
  | .ct S => K (.ct S)
theorem exs_nil (h : K (.nx S)) : Exs X B [] S K := fun F α H σ D R o => wSs.of pss_nil (o.nx S F α H σ h R (Same.refl _))
theorem exs_cons (h : Ex X B st S (seqK X B sts K)) : Exs X B (st :: sts) S K := fun F α H σ D R o => wSs.of (pss_cons ps_w pss_w) (h F α H σ _ R
  ⟨fun S' F' α' H' σ' k R' s' => k F' α' H' σ' D R' (o.mono s'), fun S' F' α' H' σ' k R' s' => o.bk S' F' α' H' σ' k R' s', fun S' F' α' H' σ' k R' s' => o.ct S' F' α' H' σ' k R' s',
    fun c S' F' α' H' σ' v k R' s' r => o.ret c S' F' α' H' σ' v k R' s' r⟩)
theorem exs_one (h : Ex X B st S K) : Exs X B [st] S K := fun F α H σ D R o => wSs.of (pss_one ps_w) (h F α H σ _ R o)
theorem ex_asg {cv : Ce} (he : Ev X B e S cv S1) (hg : Eg X B tg cv S1 S2) (k : K (.nx S2)) (hs : swapsWithSole [tg] e pos.line X.env = pure false := by rfl) (hw : swappedStores [tg] e X.env = pure none := by rfl)
    (h1 : (assignEach [tg] X.env).map (·.2) = [assign tg X.env] := by rfl) : Ex X B (.Assign [tg] e pos) S K := fun F α H σ D R o => wS.of (ps_asg pe_w pg_w hs hw h1) (he F α H σ _ R fun F1 α1 v1 H1 R1 st1 r1 =>
      hg F1 α1 H1 σ v1 _ R1 r1 fun σ' F' H' R' s' => o.nx S2 F' α1 H' σ' k R' (st1.fro.trans s'))
theorem ex_set (i : Nat) {x : Str} {c : Ce} {pos' : Pos} (he : Ev X B e S c S1) (k : K (.nx (setS S1 i c))) (hN : X.N.Nodup) (hi : X.N[i]? = some x) (hx : Loc X.env.scope x) (hs : swapsWith e (some (.Name x pos')) pos.line X.env = pure false := by rfl)
    (hf : X.fn x = true ∨ X.env.scope.names.lookup x = some .local := by first | exact .inl rfl | exact .inr rfl | assumption) : Ex X B (.Assign [.Name x pos'] e pos) S K :=
  fun F α H σ D R o => wS.of (ps_set hN hi hx pe_w hs hf) (he F α H σ _ R fun F1 α1 v1 H1 R1 st1 r1 => o.nx _ F1 α1 H1 _ k (R1.setS r1) st1.fro)
theorem ex_ret {c : Ce} (he : Ev X B e S c S1) (k : K (.ret c S1)) : Ex X B (.Return (some e) pos) S K := fun F α H σ D R o => wS.of (ps_ret pe_w) (he F α H σ _ R fun F1 α1 v1 H1 R1 st1 r1 => o.ret c S1 F1 α1 H1 σ v1 k R1 st1.fro r1)
theorem ex_retN (k : K (.ret (.fr .non) S)) : Ex X B (.Return none pos) S K := fun F α H σ D R o => wS.of ps_retN (o.ret _ S F α H σ _ k R (Same.refl _) .non)
theorem ex_expr {c : Ce} (he : Ev X B e S c S1) (k : K (.nx S1)) (hs : swapsWith e none pos.line X.env = pure false := by rfl) : Ex X B (.Expr e pos) S K := fun F α H σ D R o => wS.of (ps_expr pe_w hs) (he F α H σ _ R fun F1 α1 v1 H1 R1 st1 r1 => o.nx S1 F1 α1 H1 σ k R1 st1.fro)
theorem ex_pass (k : K (.nx S)) : Ex X B (.Pass pos) S K := fun F α H σ D R o => wS.of ps_pass (o.nx S F α H σ k R (Same.refl _))
theorem ex_break (k : K (.bk S)) : Ex X B (.Break pos) S K := fun F α H σ D R o => wS.of ps_break (o.bk S F α H σ k R (Same.refl _))
theorem ex_cont (k : K (.ct S)) : Ex X B (.Continue pos) S K := fun F α H σ D R o => wS.of ps_continue (o.ct S F α H σ k R (Same.refl _))
theorem ex_if {i : Bool} (ht : Et X B e S i S1) (ha : i = true → Exs X B body S1 K) (hb : i = false → Exs X B els S1 K) : Ex X B (.If e body els pos) S K := fun F α H σ D R o => wS.of (ps_if pt_w pss_w pss_w) (ht F α H σ _ R fun F1 α1 H1 R1 st1 => by
  cases i with
  | true => rw [if_pos rfl]; exact ha rfl F1 α1 H1 σ D R1 (o.mono st1.fro)
  | false => rw [if_neg Bool.false_ne_true]; exact hb rfl F1 α1 H1 σ D R1 (o.mono st1.fro))
theorem ex_never (h : False) : Ex X B st S K := h.elim
theorem ex_doc {x j pos pos'} (k : K (.nx S)) : Ex X B (.Expr (.Constant (.str x) j pos) pos') S K := fun F α H σ D R o => wS.of ps_doc (o.nx S F α H σ k R (Same.refl _))
def loopK (I : Nat → Nz.S → Prop) (K : Out → Prop) (i : Nat) : Out → Prop
  | .nx S => I (i + 1) S
  | .ct S => I (i + 1) S
  | .bk S => K (.nx S)
  | .ret c S => K (.ret c S)
theorem ex_for (hp : PassesOwn (model X.prog X.w) X.A X.env X.xe) (hc : X.calm = true) (I : Nat → Nz.S → Prop) (hsrc : Src X B tg e S xs S1) (h0 : I 0 S1)
    (hs : ∀ i d S', xs[i]? = some d → I i S' → ∃ S2, Eg X B tg (.fr d) S' S2 ∧ Exs X B body S2 (loopK I K i)) (hd : ∀ S', I xs.length S' → K (.nx S')) (hf : ∀ x, foldedSetIterable e X.env x = pure x := by intro _; rfl) : Ex X B (.For tg e body [] pos) S K :=
  fun F α H σ D R o => wS.of (ps_for hp hc pi_w pg_w pss_w hf) (hsrc F α H σ _ R fun F1 α1 H1 J R1 st1 j => by
    have o1 := o.mono st1.fro
    refine ⟨fun i m σ' H' => m = xs.length - i ∧ i ≤ xs.length ∧ ∃ F' α' S', RelX X B F' α' H' σ' S' ∧ Same F1 F' ∧ I i S', ⟨xs.length, by simp, Nat.zero_le _, F1, α1, S1, R1, Same.refl _, h0⟩, ?_⟩
    rintro i m σ' H' ⟨rfl, hi, F', α', S', R', sm, q⟩
    by_cases hlt : i < xs.length
    · have e1 : xs[i]? = some xs[i] := by simp [hlt]
      obtain ⟨g, y⟩ := j.go B F' α' H' σ' S' i _ R' sm e1
      obtain ⟨S2, hg, hb⟩ := hs i _ S' e1 q
      refine .inr ⟨g, fun σ2 H2 => ∃ F2 α2 S2, RelX X B F2 α2 H2 σ2 S2 ∧ Same F1 F2 ∧ I (i + 1) S2, fun σ2 H2 ⟨F2, α2, S3, R2, s2, q2⟩ => ⟨xs.length - (i + 1), by omega, rfl, hlt, F2, α2, S3, R2, s2, q2⟩, fun x H2 yy => ?_⟩
      obtain ⟨F2, R2, s2, r2⟩ := y x H2 yy
      refine hg F2 α' H2 σ' x _ R2 r2 fun σ3 F3 H3 R3 s3 => hb F3 α' H3 σ3 _ R3 ?_
      have sall : Same F1 F3 := sm.trans (s2.trans s3)
      refine ⟨fun S4 F4 α4 H4 σ4 k4 R4 s4 => ⟨F4, α4, S4, R4, sall.trans s4, k4⟩, fun S4 F4 α4 H4 σ4 k4 R4 s4 => o1.nx S4 F4 α4 H4 σ4 k4 R4 (sall.trans s4), fun S4 F4 α4 H4 σ4 k4 R4 s4 => ⟨F4, α4, S4, R4, sall.trans s4, k4⟩,
        fun c S4 F4 α4 H4 σ4 v k4 R4 s4 r4 => o1.ret c S4 F4 α4 H4 σ4 v k4 R4 (sall.trans s4) r4⟩
    · have e1 : i = xs.length := by omega
      subst e1
      exact .inl ⟨j.stop B F' α' H' σ' S' _ R' sm (Nat.le_refl _), o1.nx S' F' α' H' σ' (hd S' q) R' sm⟩)
def whileK (I : Nat → Nz.S → Prop) (K : Out → Prop) (m : Nat) : Out → Prop
  | .nx S => ∃ m', m' < m ∧ I m' S
  | .ct S => ∃ m', m' < m ∧ I m' S
  | .bk S => K (.nx S)
  | .ret c S => K (.ret c S)
theorem ex_while (hp : PassesOwn (model X.prog X.w) X.A X.env X.xe) (I : Nat → Nz.S → Prop) (h0 : ∃ m, I m S)
    (hs : ∀ m S', I m S' → ∃ b S2, Et X B e S' b S2 ∧ (b = true → Exs X B body S2 (whileK I K m)) ∧ (b = false → K (.nx S2))) : Ex X B (.While e body [] pos) S K :=
  fun F α H σ D R o => wS.of (ps_while hp pt_w pss_w) (by
    obtain ⟨m0, h0⟩ := h0
    refine ⟨fun m σ' H' => ∃ F' α' S', RelX X B F' α' H' σ' S' ∧ Same F F' ∧ I m S', ⟨m0, F, α, S, R, Same.refl _, h0⟩, ?_⟩
    rintro m σ' H' ⟨F', α', S', R', sm, q⟩
    obtain ⟨b, S2, ht, h1, h2⟩ := hs m S' q
    refine ht F' α' H' σ' _ R' fun F1 α1 H1 R1 st1 => ?_
    cases b with
    | true =>
      rw [if_pos rfl]
      refine ⟨fun σ2 H2 => ∃ m', m' < m ∧ ∃ F2 α2 S2, RelX X B F2 α2 H2 σ2 S2 ∧ Same F F2 ∧ I m' S2, fun σ2 H2 ⟨m', hm, z⟩ => ⟨m', hm, z⟩, h1 rfl F1 α1 H1 σ' _ R1 ?_⟩
      have sall : Same F F1 := sm.trans st1.fro
      refine ⟨fun S4 F4 α4 H4 σ4 ⟨m', hm, k4⟩ R4 s4 => ⟨m', hm, F4, α4, S4, R4, sall.trans s4, k4⟩, fun S4 F4 α4 H4 σ4 k4 R4 s4 => o.nx S4 F4 α4 H4 σ4 k4 R4 (sall.trans s4), fun S4 F4 α4 H4 σ4 ⟨m', hm, k4⟩ R4 s4 => ⟨m', hm, F4, α4, S4, R4, sall.trans s4, k4⟩,
        fun c S4 F4 α4 H4 σ4 v k4 R4 s4 r4 => o.ret c S4 F4 α4 H4 σ4 v k4 R4 (sall.trans s4) r4⟩
    | false =>
      rw [if_neg Bool.false_ne_true]
      exact o.nx S2 F1 α1 H1 σ' (h2 rfl) R1 (sm.trans st1.fro))
theorem Exs.mono {K' : Out → Prop} (h : Exs X B sts S K) (hk : ∀ o, K o → K' o) : Exs X B sts S K' := fun F α H σ D R o => h F α H σ D R
  ⟨fun S' F' α' H' σ' k => o.nx S' F' α' H' σ' (hk _ k), fun S' F' α' H' σ' k => o.bk S' F' α' H' σ' (hk _ k), fun S' F' α' H' σ' k => o.ct S' F' α' H' σ' (hk _ k), fun c S' F' α' H' σ' v k => o.ret c S' F' α' H' σ' v (hk _ k)⟩
theorem Ex.mono {K' : Out → Prop} (h : Ex X B st S K) (hk : ∀ o, K o → K' o) : Ex X B st S K' := fun F α H σ D R o => h F α H σ D R
  ⟨fun S' F' α' H' σ' k => o.nx S' F' α' H' σ' (hk _ k), fun S' F' α' H' σ' k => o.bk S' F' α' H' σ' (hk _ k), fun S' F' α' H' σ' k => o.ct S' F' α' H' σ' (hk _ k), fun c S' F' α' H' σ' v k => o.ret c S' F' α' H' σ' v (hk _ k)⟩
end
end Nz

namespace Nz
open PySem PySem.Spec PyProof.Rows L2

/-! ### freezing, forgetting -/
def delL (n : Nat) : List (Nat × LO) → List (Nat × LO)
  | [] => []
  | (m, o) :: r => if n = m then delL n r else (m, o) :: delL n r
def frC (n : Nat) (d : D) : Ce → Ce
  | .fr e => .fr e
  | .ad m => if n = m then .fr d else .ad m
def frO (n : Nat) (d : D) : LO → LO
  | .fl ds => .fl ds
  | .cl cs => .cl (cs.map (frC n d))
  | .ins c fs => .ins c (fs.map fun p => (p.1, frC n d p.2))
  | .dT kvs => .dT kvs
  | .dK kvs => .dK (kvs.map fun p => (p.1, frC n d p.2))
def frS (n : Nat) (d : D) (S : Nz.S) : Nz.S := ⟨S.ρ.map (Option.map (frC n d)), (delL n S.L).map fun p => (p.1, frO n d p.2)⟩
section
variable {K : Frag} {mg : Mg} {B : Bd} {F F' : Hp} {α α' : Nat → Addr} {L L' : List (Nat × LO)} {H H' : Hp} {σ : L2.St} {S : Nz.S}
theorem mem_delL : ∀ {L : List (Nat × LO)} {n m : Nat} {o : LO}, (m, o) ∈ delL n L ↔ m ≠ n ∧ (m, o) ∈ L
  | [], n, m, o => by simp [delL]
  | (k, u) :: r, n, m, o => by
    unfold delL
    by_cases q : n = k
    · subst q
      rw [if_pos rfl, mem_delL, List.mem_cons]
      constructor
      · rintro ⟨h1, h2⟩; exact ⟨h1, .inr h2⟩
      · rintro ⟨h1, h2 | h2⟩
        · cases h2; exact absurd rfl h1
        · exact ⟨h1, h2⟩
    · rw [if_neg q, List.mem_cons, mem_delL, List.mem_cons]
      constructor
      · rintro (h | ⟨h1, h2⟩)
        · cases h; exact ⟨fun z => q z.symm, .inl rfl⟩
        · exact ⟨h1, .inr h2⟩
      · rintro ⟨h1, h2 | h2⟩
        · exact .inl h2
        · exact .inr ⟨h1, h2⟩
theorem names_delL {n m : Nat} : m ∈ names (delL n L) ↔ m ≠ n ∧ m ∈ names L := by
  constructor
  · intro h
    obtain ⟨⟨a, o⟩, h1, h2⟩ := List.mem_map.mp h
    have h2 : a = m := h2
    subst h2
    obtain ⟨h3, h4⟩ := mem_delL.mp h1
    exact ⟨h3, mem_names h4⟩
  · rintro ⟨h1, h2⟩
    obtain ⟨⟨a, o⟩, h3, h4⟩ := List.mem_map.mp h2
    have h4 : a = m := h4
    subst h4
    exact mem_names (mem_delL.mpr ⟨h1, h3⟩)
theorem names_frS {n : Nat} {d : D} : names ((delL n L).map fun p => (p.1, frO n d p.2)) = names (delL n L) := by simp [names]
theorem nodup_delL {n : Nat} (h : (names L).Nodup) : (names (delL n L)).Nodup := by
  refine h.sublist (List.Sublist.map _ ?_)
  induction L with
  | nil => exact .slnil
  | cons p r ih =>
    obtain ⟨m, o⟩ := p
    have ih' := ih (List.nodup_cons.mp h).2
    unfold delL
    split
    · exact .cons _ ih'
    · exact .cons₂ _ ih'
theorem CRel.freeze {n : Nat} {d : D} (hF : Same F F') (hd : Rep K mg F' d (.ref (α n))) : ∀ {c : Ce} {v : V}, CRel K mg F α L c v → CRel K mg F' α ((delL n L).map fun p => (p.1, frO n d p.2)) (frC n d c) v
  | .fr e, v, h => Rep.mono hF h
  | .ad m, v, ⟨h1, h2⟩ => by
    subst h2
    show CRel K mg F' α _ (if n = m then .fr d else .ad m) _
    by_cases q : n = m
    · subst q; rw [if_pos rfl]; exact hd
    · rw [if_neg q]
      exact ⟨by rw [names_frS]; exact names_delL.mpr ⟨fun z => q z.symm, h1⟩, rfl⟩
theorem CRels.freeze {n : Nat} {d : D} (hF : Same F F') (hd : Rep K mg F' d (.ref (α n))) : ∀ {c : List Ce} {v : List V}, CRels K mg F α L c v → CRels K mg F' α ((delL n L).map fun p => (p.1, frO n d p.2)) (c.map (frC n d)) v
  | _, _, .nil => .nil
  | _, _, .cons h r => .cons (h.freeze hF hd) (r.freeze hF hd)
theorem CRelF.freeze {n : Nat} {d : D} (hF : Same F F') (hd : Rep K mg F' d (.ref (α n))) : ∀ {c : List (Str × Ce)} {v : List (Str × V)}, CRelF K mg F α L c v → CRelF K mg F' α ((delL n L).map fun p => (p.1, frO n d p.2)) (c.map fun p => (p.1, frC n d p.2)) v
  | _, _, .nil => .nil
  | _, _, .cons h r => .cons (h.freeze hF hd) (r.freeze hF hd)
theorem CRelK.freeze {κ : Type} {n : Nat} {d : D} (hF : Same F F') (hd : Rep K mg F' d (.ref (α n))) : ∀ {c : List (κ × Ce)} {v : List (κ × V)}, CRelK K mg F α L c v → CRelK K mg F' α ((delL n L).map fun p => (p.1, frO n d p.2)) (c.map fun p => (p.1, frC n d p.2)) v
  | _, _, .nil => .nil
  | _, _, .cons h r => .cons (h.freeze hF hd) (r.freeze hF hd)
theorem SlR.freeze {n : Nat} {d : D} (hF : Same F F') (hd : Rep K mg F' d (.ref (α n))) : ∀ {c : List (Option Ce)} {v : L2.St}, SlR K mg F α L c v → SlR K mg F' α ((delL n L).map fun p => (p.1, frO n d p.2)) (c.map (Option.map (frC n d))) v
  | _, _, .nil => .nil
  | _, _, .no r => .no (r.freeze hF hd)
  | _, _, .so h r => .so (h.freeze hF hd) (r.freeze hF hd)
/-- a live list whose items are frozen is frozen -/
theorem Rel.freeze (R : Rel K mg B F α H σ S) {n : Nat} {ds : List D} (hn : getL n S.L = some (.fl ds)) :
    ∃ F', Rel K mg B F' α H σ (frS n (.lst ds) S) ∧ Stp F α S.L F' α ∧ Rep K mg F' (.lst ds) (.ref (α n)) ∧ ∀ c v, CRel K mg F α S.L c v → CRel K mg F' α (frS n (.lst ds) S).L (frC n (.lst ds) c) v := by
  obtain ⟨f0, f1, vs, e, r⟩ := R.live n _ (getL_mem hn)
  have hF : Same F (upd F (α n) (.lst vs)) := same_upd f0
  have hd : Rep K mg (upd F (α n) (.lst vs)) (.lst ds) (.ref (α n)) := .lst (SqL.of upd_same) (r.mono hF)
  refine ⟨upd F (α n) (.lst vs), ⟨fun b u q => ?_, R.bF.trans hF, fun b u q => ?_, R.frame, ?_, fun a b ha hb => ?_, fun m o hm => ?_, R.slots.freeze hF hd, fun m a e hm => R.fix m a e (names_delL.mp (by rw [← names_frS]; exact hm)).2⟩, ⟨hF, fun _ _ => rfl⟩, hd, fun c v h => h.freeze hF hd⟩
  · by_cases z : b = α n
    · subst z; rw [upd_same] at q; rw [e]; exact q
    · rw [upd_ne z] at q; exact R.sub b u q
  · by_cases z : b = α n
    · subst z; exact .inr f1
    · rw [upd_ne z] at q; exact R.nF b u q
  · show (names ((delL n S.L).map fun p => (p.1, frO n (.lst ds) p.2))).Nodup
    rw [names_frS]; exact nodup_delL R.nd
  · have ha : a ∈ names ((delL n S.L).map fun p => (p.1, frO n (.lst ds) p.2)) := ha
    have hb : b ∈ names ((delL n S.L).map fun p => (p.1, frO n (.lst ds) p.2)) := hb
    rw [names_frS] at ha hb
    exact R.inj a b (names_delL.mp ha).2 (names_delL.mp hb).2
  · obtain ⟨⟨m', o'⟩, h1, h2⟩ := List.mem_map.mp hm
    cases h2
    obtain ⟨h3, h4⟩ := mem_delL.mp h1
    obtain ⟨g0, g1, g2⟩ := R.live m' o' h4
    have ne : α m' ≠ α n := fun q => h3 (R.inj _ _ (mem_names h4) (mem_names (getL_mem hn)) q)
    refine ⟨(upd_ne ne).trans g0, g1, ?_⟩
    cases o' with
    | fl ds' => obtain ⟨us, e1, r1⟩ := g2; exact ⟨us, e1, r1.mono hF⟩
    | cl cs => obtain ⟨us, e1, r1⟩ := g2; exact ⟨us, e1, r1.freeze hF hd⟩
    | ins c fs =>
      obtain ⟨C, dx, us, m1, e1, e2, e3, e4, r1⟩ := g2
      exact ⟨C, dx, us, m1, e1, e2, by rw [upd_ne (fun q => by rw [q, e] at e2; cases e2)]; exact e3, e4, r1.freeze hF hd⟩
    | dT kvs => obtain ⟨us, e1, r1⟩ := g2; exact ⟨us, e1, Paired.imp (fun _ _ z => ⟨z.1, z.2.mono hF⟩) r1⟩
    | dK kvs => obtain ⟨us, e1, r1⟩ := g2; exact ⟨us, e1, r1.freeze hF hd⟩
theorem frC_other {n : Nat} {d : D} {c : Ce} : True := trivial

/-- an object's cells speak of L alone -/
theorem CRel.res : ∀ {c : Ce} {v v1 : V} {F1 : Hp} {α1 : Nat → Addr} {mg1 : Mg}, CRel K mg F α L' c v → CRel K mg1 F1 α1 L c v1 → CRel K mg F α L c v
  | .fr _, _, _, _, _, _, h, _ => h
  | .ad n, _, _, _, _, _, ⟨_, h2⟩, ⟨h3, _⟩ => ⟨h3, h2⟩
theorem CRels.res : ∀ {c : List Ce} {v v1 : List V} {F1 : Hp} {α1 : Nat → Addr}, CRels K mg F α L' c v → CRels K mg F1 α1 L c v1 → CRels K mg F α L c v
  | _, _, _, _, _, .nil, .nil => .nil
  | _, _, _, _, _, .cons h r, .cons h' r' => .cons (h.res h') (r.res r')
theorem CRelF.res : ∀ {c : List (Str × Ce)} {v v1 : List (Str × V)} {F1 : Hp} {α1 : Nat → Addr}, CRelF K mg F α L' c v → CRelF K mg F1 α1 L c v1 → CRelF K mg F α L c v
  | _, _, _, _, _, .nil, .nil => .nil
  | _, _, _, _, _, .cons h r, .cons h' r' => .cons (h.res h') (r.res r')
theorem CRelK.res {κ : Type} : ∀ {c : List (κ × Ce)} {v v1 : List (κ × V)} {F1 : Hp} {α1 : Nat → Addr}, CRelK K mg F α L' c v → CRelK K mg F1 α1 L c v1 → CRelK K mg F α L c v
  | _, _, _, _, _, .nil, .nil => .nil
  | _, _, _, _, _, .cons h r, .cons h' r' => .cons (h.res h') (r.res r')
theorem LAt.res {a a1 : Addr} {o : LO} {F1 H1 : Hp} {α1 : Nat → Addr} (h : LAt K mg B F α L' H a o) (h1 : LAt K mg B F1 α1 L H1 a1 o) : LAt K mg B F α L H a o := by
  cases o with
  | fl ds => exact h
  | cl cs => obtain ⟨us, e1, r1⟩ := h; obtain ⟨_, _, q⟩ := h1; exact ⟨us, e1, r1.res q⟩
  | ins c fs => obtain ⟨C, dx, us, m1, e1, e2, e3, e4, r1⟩ := h; obtain ⟨_, _, _, _, _, _, _, _, q⟩ := h1; exact ⟨C, dx, us, m1, e1, e2, e3, e4, r1.res q⟩
  | dT kvs => exact h
  | dK kvs => obtain ⟨us, e1, r1⟩ := h; obtain ⟨_, _, q⟩ := h1; exact ⟨us, e1, r1.res q⟩
theorem LAt.frz {a p : Addr} {o : LO} {vs : List V} (f0 : F p = none) (e : H p = some (.lst vs)) (h : LAt K mg B F α L H a o) : LAt K mg B (upd F p (.lst vs)) α L H a o := by
  have hF : Same F (upd F p (.lst vs)) := same_upd f0
  have st : Stp F α L (upd F p (.lst vs)) α := ⟨hF, fun _ _ => rfl⟩
  cases o with
  | fl ds => obtain ⟨us, e1, r1⟩ := h; exact ⟨us, e1, r1.mono hF⟩
  | cl cs => obtain ⟨us, e1, r1⟩ := h; exact ⟨us, e1, r1.step st fun _ z => z⟩
  | ins c fs =>
    obtain ⟨C, dx, us, m1, e1, e2, e3, e4, r1⟩ := h
    exact ⟨C, dx, us, m1, e1, e2, by rw [upd_ne (fun q => by rw [q, e] at e2; cases e2)]; exact e3, e4, r1.step st fun _ z => z⟩
  | dT kvs => obtain ⟨us, e1, r1⟩ := h; exact ⟨us, e1, Paired.imp (fun _ _ z => ⟨z.1, z.2.mono hF⟩) r1⟩
  | dK kvs => obtain ⟨us, e1, r1⟩ := h; exact ⟨us, e1, r1.step st fun _ z => z⟩
/-- the last live list is frozen, the rest is as it was -/
theorem Rel.close {F1 H1 : Hp} {α1 : Nat → Addr} {σ1 : L2.St} {ρ ρ1 : List (Option Ce)} {n : Nat} {ds : List D} (R1 : Rel K mg B F1 α1 H1 σ1 ⟨ρ1, L⟩) (R : Rel K mg B F α H σ ⟨ρ, L ++ [(n, .fl ds)]⟩) (st : Stp F1 α1 L F α) (hn : n ∉ names L) :
    ∃ F', Rel K mg B F' α H σ1 ⟨ρ1, L⟩ ∧ Stp F1 α1 L F' α ∧ Rep K mg F' (.lst ds) (.ref (α n)) := by
  obtain ⟨f0, f1, vs, e, r⟩ := R.live n (.fl ds) (List.mem_append_right _ (List.mem_singleton.mpr rfl))
  have hF : Same F (upd F (α n) (.lst vs)) := same_upd f0
  have hd : Rep K mg (upd F (α n) (.lst vs)) (.lst ds) (.ref (α n)) := .lst (SqL.of upd_same) (r.mono hF)
  have st2 : Stp F1 α1 L (upd F (α n) (.lst vs)) α := ⟨st.fro.trans hF, st.nm⟩
  have nn : ∀ m, m ∈ names L → m ∈ names (L ++ [(n, LO.fl ds)]) := fun m h => Sub.app m h
  refine ⟨upd F (α n) (.lst vs), ⟨fun b u q => ?_, R.bF.trans hF, fun b u q => ?_, R.frame, R1.nd, fun a b ha hb => R.inj a b (nn a ha) (nn b hb), fun m o hm => ?_, R1.slots.step st2 fun _ z => z, fun m a e hm => R.fix m a e (nn m hm)⟩, st2, hd⟩
  · by_cases z : b = α n
    · subst z; rw [upd_same] at q; rw [e]; exact q
    · rw [upd_ne z] at q; exact R.sub b u q
  · by_cases z : b = α n
    · subst z; exact .inr f1
    · rw [upd_ne z] at q; exact R.nF b u q
  · have hm' : (m, o) ∈ L := hm
    obtain ⟨g0, g1, g2⟩ := R.live m o (List.mem_append_left _ hm')
    have ne : α m ≠ α n := fun q => hn (by rw [← R.inj _ _ (nn m (mem_names hm')) (by rw [names_append]; exact List.mem_append_right _ (List.mem_singleton.mpr rfl)) q]; exact mem_names hm')
    refine ⟨by rw [upd_ne ne]; exact g0, g1, ?_⟩
    have g3 : LAt K mg B (upd F (α n) (.lst vs)) α (L ++ [(n, .fl ds)]) H (α m) o := g2.frz f0 e
    exact g3.res (R1.live m o hm').2.2
end
end Nz

namespace Nz
open PySem PySem.Spec PyProof.Rows L2

/-! ### targets of a comprehension -/
def EgC (X : Cx) (B : Bd) (tg : Expr) (c : Ce) (S S2 : Nz.S) (vs : List Nat) : Prop :=
  ∀ F α H σ v Q, RelX X B F α H σ S → CR X F α S.L c v → (∀ σ' F' H', RelX X B F' α H' σ' S2 → Same F F' → wipe σ' vs = wipe σ vs → Q σ' H') → wG X tg v σ H Q
theorem set_none_set {σ : L2.St} {i : Nat} {x y : Option V} : (σ.set i x).set i y = σ.set i y := List.set_set ..
theorem wipe_set : ∀ {vs : List Nat} {σ : L2.St} {i : Nat} {x : Option V}, i ∈ vs → wipe (σ.set i x) vs = wipe σ vs
  | v :: vs, σ, i, x, h => by
    show (wipe (σ.set i x) vs).set v none = (wipe σ vs).set v none
    by_cases hi : i ∈ vs
    · rw [wipe_set hi]
    · have e : v = i := by
        rcases List.mem_cons.mp h with h | h
        · exact h.symm
        · exact absurd h hi
      subst e
      clear h
      have key : ∀ (vs : List Nat) (σ : L2.St), v ∉ vs → wipe (σ.set v x) vs = (wipe σ vs).set v x := by
        intro vs
        induction vs with
        | nil => intro σ _; rfl
        | cons u us ih =>
          intro σ hn
          show (wipe (σ.set v x) us).set u none = ((wipe σ us).set u none).set v x
          rw [ih σ (fun z => hn (List.mem_cons_of_mem _ z)), List.set_comm _ _ (fun z => hn (by rw [z]; exact List.mem_cons_self))]
      rw [key vs σ hi, List.set_set]
theorem wipe_idem {σ : L2.St} : ∀ {vs : List Nat}, wipe (wipe σ vs) vs = wipe σ vs
  | [] => rfl
  | v :: vs => by
    show (wipe ((wipe σ vs).set v none) vs).set v none = (wipe σ vs).set v none
    by_cases h : v ∈ vs
    · rw [wipe_set h, wipe_idem]
    · have key : ∀ (ws : List Nat) (τ : L2.St), v ∉ ws → wipe (τ.set v none) ws = (wipe τ ws).set v none := by
        intro ws
        induction ws with
        | nil => intro τ _; rfl
        | cons u us ih =>
          intro τ hn
          show (wipe (τ.set v none) us).set u none = ((wipe τ us).set u none).set v none
          rw [ih τ (fun z => hn (List.mem_cons_of_mem _ z)), List.set_comm _ _ (fun z => hn (by rw [z]; exact List.mem_cons_self))]
      rw [key vs _ h, wipe_idem, List.set_set]
theorem getL_app : ∀ {L : List (Nat × LO)} {n : Nat} {o : LO}, n ∉ names L → getL n (L ++ [(n, o)]) = some o
  | [], n, o, _ => by simp [getL]
  | (m, u) :: r, n, o, h => by
    show (if n = m then some u else getL n (r ++ [(n, o)])) = _
    rw [if_neg (fun z => h (by rw [z]; exact List.mem_cons_self)), getL_app (fun z => h (List.mem_cons_of_mem _ z))]
theorem setL_app : ∀ {L : List (Nat × LO)} {n : Nat} {o u : LO}, n ∉ names L → setL n u (L ++ [(n, o)]) = L ++ [(n, u)]
  | [], n, o, u, _ => by simp [setL]
  | (m, w) :: r, n, o, u, h => by
    show (if n = m then (m, u) :: (r ++ [(n, o)]) else (m, w) :: setL n u (r ++ [(n, o)])) = _
    rw [if_neg (fun z => h (by rw [z]; exact List.mem_cons_self)), setL_app (fun z => h (List.mem_cons_of_mem _ z))]
    rfl
theorem eg_nameC {X : Cx} {B : Bd} {S : Nz.S} {vs : List Nat} (i : Nat) {x : Str} {c : Ce} {pos : Pos} (hN : X.N.Nodup) (hi : X.N[i]? = some x) (hx : Loc X.env.scope x) (hv : i ∈ vs) (hf : X.fn x = true ∨ X.env.scope.names.lookup x = some .local) : EgC X B (.Name x pos) c S (setS S i c) vs :=
  fun F α H σ v Q R r k pins s u I ru => (pg_name hN hi hx hf).run pins s σ H v u Q I ru (k _ F H (R.setS r) (Same.refl _) (wipe_set hv))
def EgsC (X : Cx) (B : Bd) (ts : List Expr) (cs : List D) (S S2 : Nz.S) (ws : List Nat) : Prop :=
  ∀ F α H σ vs (Q : L2.St → Hp → Prop), RelX X B F α H σ S → Reps X.K X.mg F cs vs → (∀ σ' F' H', RelX X B F' α H' σ' S2 → Same F F' → wipe σ' ws = wipe σ ws → Q σ' H') →
    ∀ pins s us, Inv X pins σ H s → Vals vs us → wpAny (model X.prog X.w) X.A (assignInOrder ((assignEach ts X.env).map (·.2)) us) (fun _ s' => ∃ σ' H', Inv X pins σ' H' s' ∧ Q σ' H') X.xe s
section
variable {X : Cx} {B : Bd} {S S1 S2 : Nz.S} {ws : List Nat} {e : Expr} {es : List Expr} {d : D} {pos : Pos}
theorem egs_nilC : EgsC X B [] [] S S ws := fun F α H σ vs Q R r k pins s us I ru => by
  cases r
  cases ru
  exact assignInOrder_nil ⟨σ, H, I, k σ F H R (Same.refl _) rfl⟩
theorem egs_consC {ds : List D} (h1 : EgC X B e (.fr d) S S1 ws) (h2 : EgsC X B es ds S1 S2 ws) (hL : S1.L = S.L := by rfl) (hs : (assignEach (e :: es) X.env).map (·.2) = assign e X.env :: (assignEach es X.env).map (·.2) := by rfl) : EgsC X B (e :: es) (d :: ds) S S2 ws :=
  fun F α H σ vs Q R r k pins s us I ru => by
    cases r with
    | cons r rr =>
      cases ru with
      | cons u uu =>
        rw [hs]
        refine assignInOrder_cons (thn (h1 F α H σ _ (fun σ1 H1 => ∃ F1, RelX X B F1 α H1 σ1 S1 ∧ Same F F1 ∧ wipe σ1 ws = wipe σ ws) R r (fun σ' F' H' R' s' w' => ⟨F', R', s', w'⟩) pins s _ I u) fun _ s1 ⟨σ1, H1, I1, F1, R1, sm, w1⟩ => ?_)
        exact h2 F1 α H1 σ1 _ Q R1 (rr.mono sm) (fun σ' F' H' R' s' w' => k σ' F' H' R' (sm.trans s') (w'.trans w1)) pins s1 _ I1 uu
theorem eg_tupC {ds : List D} {k1} (hc : X.calm = true) (h : EgsC X B es ds S S2 ws) (hn : (assignEach es X.env).length = ds.length := by rfl) (hst : (assignEach es X.env).findIdx? (·.1) = none := by rfl) : EgC X B (.Tuple es k1 pos) (.fr (.tup ds)) S S2 ws :=
  fun F α H σ v Q R r k pins s u I ru => by
    cases (show Rep X.K X.mg F (.tup ds) v from r) with
    | tup hq hr =>
      have hq' := R.sub.seqT hq
      cases ru
      obtain ⟨its, rv, ht, hz⟩ := I.tuple hq'
      refine assign_Tuple_tuple (I.ok.hd hc) ht (by simp [hn, hr.length, rv.length]) hst fun h' hx => ?_
      have I1 : Inv X pins σ H { s with heap := h' } := I.kept (t' := s.toks) fun b o e => hx b o (Nat.ne_of_lt (Heap.lt_size e)) e
      exact h F α H σ _ Q R hr k pins _ _ I1 (by simpa using rv)
end

def wTs (X : Cx) (ifs : List Expr) (σ : L2.St) (H : Hp) (Q : Bool → Hp → Prop) : Prop :=
  ∀ pins s, Inv X pins σ H s → wpAny (model X.prog X.w) X.A (forIn ifs true fun c r => if r = true then do let ok ← isTrue c X.env (eval c X.env); pure (ForInStep.yield ok) else pure (ForInStep.yield r)) (TP X pins σ Q) X.xe s
def Ets (X : Cx) (B : Bd) (ifs : List Expr) (S : Nz.S) (b : Bool) : Prop :=
  ∀ F α H σ Q, RelX X B F α H σ S → (∀ F' α' H', RelX X B F' α' H' σ S → Stp F α S.L F' α' → Q b H') → wTs X ifs σ H Q
theorem ets_nil {X : Cx} {B : Bd} {S : Nz.S} : Ets X B [] S true := fun F α H σ Q R k pins s I => pts_nil.run pins s σ H Q I (k F α H R Stp.refl)
theorem ets_one {X : Cx} {B : Bd} {S : Nz.S} {c : Expr} {b : Bool} (h : Et X B c S b S) : Ets X B [c] S b := fun F α H σ Q R k pins s I => (pts_one pt_w).run pins s σ H Q I (h F α H σ Q R k)

def wipeC (ρ : List (Option Ce)) : List Nat → List (Option Ce)
  | [] => ρ
  | v :: vs => (wipeC ρ vs).set v none
theorem SlR.setN {K : Frag} {mg : Mg} {F : Hp} {α : Nat → Addr} {L : List (Nat × LO)} : ∀ {c : List (Option Ce)} {σ : L2.St} (i : Nat) {o : Option V}, SlR K mg F α L c σ → SlR K mg F α L (c.set i none) (σ.set i o)
  | _, _, _, _, .nil => .nil
  | _, _, 0, _, .no r => .no r
  | _, _, 0, _, .so _ r => .no r
  | _, _, i + 1, _, .no r => .no (r.setN i)
  | _, _, i + 1, _, .so q r => .so q (r.setN i)
theorem SlR.wipe {K : Frag} {mg : Mg} {F : Hp} {α : Nat → Addr} {L : List (Nat × LO)} {c : List (Option Ce)} {σ : L2.St} (h : SlR K mg F α L c σ) : ∀ vs : List Nat, SlR K mg F α L (wipeC c vs) (L2.wipe σ vs)
  | [] => h
  | v :: vs => (h.wipe vs).setN v
/-- the context of a comprehension's block -/
abbrev Blk (X : Cx) (scope : Scope) (s : Shared) (H : Hp) (C : Addr) (cl : List (Str × Addr)) (fp : List Addr) : Cx := X.blk s H scope (compEnvC scope cl C X.env) fp

section
variable {X : Cx} {B : Bd} {S S1 : Nz.S} {elt tg iter : Expr} {ifs : List Expr} {scope : Scope} {own : List (Str × Nat)} {pos : Pos}
/-- [elt for tg in iter if ..] of data -/
theorem lc_reading {τ : Type} (nD : Nat) {ys : List τ} {enc : τ → D} (f : τ → D) (p : τ → Bool) (Sx : Nat → τ → List D → Nz.S)
    (hsrc : Src X B tg iter S (ys.map enc) S1) (hn : nD ∉ names S1.L) (h100 : 100 ≤ nD) (hz : ys.length ≤ sizeLine) (hL : ∀ i y acc, (Sx i y acc).L = S1.L ++ [(nD, .fl acc)])
    (hg : ∀ i y acc, ys[i]? = some y → ∀ s H0 C cl fp, EgC (Blk X scope s H0 C cl fp) B tg (.fr (enc y)) ⟨wipeC S1.ρ (own.map (·.2)), S1.L ++ [(nD, .fl acc)]⟩ (Sx i y acc) (own.map (·.2)))
    (ht : ∀ i y acc, ys[i]? = some y → ∀ s H0 C cl fp, Ets (Blk X scope s H0 C cl fp) B ifs (Sx i y acc) (p y))
    (he : ∀ i y acc, ys[i]? = some y → p y = true → ∀ s H0 C cl fp, Ev (Blk X scope s H0 C cl fp) B elt (Sx i y acc) (.fr (f y)) (Sx i y acc))
    (F : Hp) (α : Nat → Addr) (H : Hp) (σ : L2.St) (Q : VK) (R : RelX X B F α H σ S) (hS : Sub S.L S1.L)
    (k : ∀ F' α' v H', RelX X B F' α' H' σ S1 → Stp F α S.L F' α' → Rep X.K X.mg F' (.lst ((ys.filter p).map f)) v → Q v H') :
    tLc (wI X tg iter) (fun v σ H Q => ∀ s H0 C cl fp, wG (Blk X scope s H0 C cl fp) tg v σ H Q) (fun σ H Q => ∀ s H0 C cl fp, wTs (Blk X scope s H0 C cl fp) ifs σ H Q) (fun σ H Q => ∀ s H0 C cl fp, wE (Blk X scope s H0 C cl fp) elt σ H Q) (own.map (·.2)) σ H Q := by
  refine hsrc F α H σ _ R fun F1 α1 H1 J R1 st1 j => ?_
  intro D hD
  have Rn := R1.allocL (n := nD) (u := .fl []) (o := .lst []) hD hn h100 ⟨[], upd_same, .nil⟩
  have stn : Stp F1 α1 S1.L F1 (setα α1 nD D) := stp_setα hn
  have eD : setα α1 nD D nD = D := by unfold setα; rw [if_pos rfl]
  -- the state at turn i
  let W : Nat → Hp → Prop := fun i H => ∃ F' α', RelX X B F' α' H (L2.wipe σ (own.map (·.2))) ⟨wipeC S1.ρ (own.map (·.2)), S1.L ++ [(nD, .fl (((ys.take i).filter p).map f))]⟩ ∧ Stp F1 (setα α1 nD D) (S1.L ++ [(nD, .fl [])]) F' α'
  have w0 : W 0 (upd H1 D (.lst [])) := ⟨F1, setα α1 nD D, ⟨Rn.sub, Rn.bF, Rn.nF, Rn.frame, Rn.nd, Rn.inj, Rn.live, Rn.slots.wipe _, Rn.fix⟩, Stp.refl⟩
  refine ⟨fun i m H => m = ys.length - i ∧ i ≤ ys.length ∧ W i H, ⟨ys.length, by simp, Nat.zero_le _, w0⟩, ?_⟩
  rintro i m H' ⟨rfl, hi, F', α', R', st'⟩
  have sm : Same F1 F' := st'.fro
  have nmD : α' nD = D := by rw [st'.nm nD (by rw [names_append]; exact List.mem_append_right _ (List.mem_singleton.mpr rfl)), eD]
  by_cases hlt : i < ys.length
  · obtain ⟨y, hy⟩ : ∃ y, ys[i]? = some y := ⟨ys[i], by simp [hlt]⟩
    obtain ⟨g, yl⟩ := j.go B F' α' H' _ _ i (enc y) R' sm (by rw [List.getElem?_map, hy]; rfl)
    have tk : (ys.take (i + 1)) = ys.take i ++ [y] := by rw [List.take_succ, hy]; rfl
    refine .inr ⟨g, W (i + 1), fun H2 w2 => ⟨ys.length - (i + 1), by omega, rfl, hlt, w2⟩, fun x H2 yy => ?_⟩
    obtain ⟨F2, R2, s2, r2⟩ := yl x H2 yy
    intro sA HA CA clA fpA
    refine hg i y (((ys.take i).filter p).map f) hy sA HA CA clA fpA F2 α' H2 _ x _ R2 r2 fun σ3 F3 H3 R3 s3 w3 => ⟨w3.trans wipe_idem, ?_⟩
    intro sB HB CB clB fpB
    refine ht i y (((ys.take i).filter p).map f) hy sB HB CB clB fpB F3 α' H3 σ3 _ R3 fun F4 α4 H4 R4 st4 => ?_
    have hLL := hL i y (((ys.take i).filter p).map f)
    have full : ∀ {F5 : Hp} {α5 : Nat → Addr} {acc : List Nz.D}, Same F' F5 → (∀ n, n ∈ names (S1.L ++ [(nD, LO.fl (((ys.take i).filter p).map f))]) → α5 n = α' n) → Stp F1 (setα α1 nD D) (S1.L ++ [(nD, .fl [])]) F5 α5 := fun {F5 α5 acc} h1 h2 =>
      ⟨sm.trans h1, fun n hn' => by
        rw [h2 n (by rw [names_append] at hn' ⊢; exact hn'), st'.nm n hn']⟩
    have back : ∀ {F5 : Hp} {α5 : Nat → Addr} {H5 : Hp} {acc : List Nz.D}, RelX X B F5 α5 H5 σ3 ⟨(Sx i y (((ys.take i).filter p).map f)).ρ, S1.L ++ [(nD, .fl acc)]⟩ → SlR X.K X.mg F5 α5 (S1.L ++ [(nD, .fl acc)]) (wipeC S1.ρ (own.map (·.2))) (L2.wipe σ (own.map (·.2))) →
        RelX X B F5 α5 H5 (L2.wipe σ (own.map (·.2))) ⟨wipeC S1.ρ (own.map (·.2)), S1.L ++ [(nD, .fl acc)]⟩ := fun {F5 α5 H5 acc} Rr sl => ⟨Rr.sub, Rr.bF, Rr.nF, Rr.frame, Rr.nd, Rr.inj, Rr.live, sl, Rr.fix⟩
    have sl0 : SlR X.K X.mg F' α' (S1.L ++ [(nD, .fl (((ys.take i).filter p).map f))]) (wipeC S1.ρ (own.map (·.2))) (L2.wipe σ (own.map (·.2))) := R'.slots
    have st4' : Stp F' α' (S1.L ++ [(nD, .fl (((ys.take i).filter p).map f))]) F4 α4 := ⟨s2.trans (s3.trans st4.fro), fun n hn' => st4.nm n (by rw [hLL]; exact hn')⟩
    cases hp : p y with
    | false =>
      rw [if_neg Bool.false_ne_true]
      have e2 : ((ys.take (i + 1)).filter p).map f = ((ys.take i).filter p).map f := by rw [tk, List.filter_append]; simp [hp]
      refine ⟨F4, α4, ?_, full (acc := []) st4'.fro st4'.nm⟩
      rw [e2]
      have R4' : RelX X B F4 α4 H4 σ3 ⟨(Sx i y (((ys.take i).filter p).map f)).ρ, S1.L ++ [(nD, .fl (((ys.take i).filter p).map f))]⟩ := by rw [← hLL]; exact R4
      exact back R4' (sl0.step st4' fun _ z => z)
    | true =>
      rw [if_pos rfl]
      intro sC HC CC clC fpC
      refine he i y (((ys.take i).filter p).map f) hy hp sC HC CC clC fpC F4 α4 H4 σ3 _ R4 fun F5 α5 v5 H5 R5 st5 r5 => ?_
      have st5' : Stp F' α' (S1.L ++ [(nD, .fl (((ys.take i).filter p).map f))]) F5 α5 := st4'.trans ⟨st5.fro, fun n hn' => st5.nm n (by rw [hLL]; exact hn')⟩ fun _ z => z
      have R5' : RelX X B F5 α5 H5 σ3 ⟨(Sx i y (((ys.take i).filter p).map f)).ρ, S1.L ++ [(nD, .fl (((ys.take i).filter p).map f))]⟩ := by rw [← hLL]; exact R5
      obtain ⟨q0, q1, vs5, e5, rs5⟩ := R5'.live nD _ (List.mem_append_right _ (List.mem_singleton.mpr rfl))
      have nm5 : α5 nD = D := by rw [st5'.nm nD (by rw [names_append]; exact List.mem_append_right _ (List.mem_singleton.mpr rfl)), nmD]
      have gl := getL_app (o := .fl (((ys.take i).filter p).map f)) hn
      have sl : ∀ (acc : List Nz.D), setL nD (.fl acc) (S1.L ++ [(nD, LO.fl (((ys.take i).filter p).map f))]) = S1.L ++ [(nD, .fl acc)] := fun acc => setL_app hn
      rw [nm5] at e5
      have e2 : ((ys.take (i + 1)).filter p).map f = ((ys.take i).filter p).map f ++ [f y] := by rw [tk, List.filter_append, List.map_append]; simp [hp]
      have lenv : vs5.length < sizeLine := by
        rw [← rs5.length, List.length_map]
        have := List.length_filter_le p (ys.take i)
        rw [List.length_take] at this
        omega
      refine ⟨vs5, e5, lenv, F5, α5, ?_, full (acc := []) st5'.fro st5'.nm⟩
      have Rp := R5'.put (n := nD) (u := .fl (((ys.take i).filter p).map f ++ [f y])) (o' := .lst (vs5 ++ [v5])) (getL_mem gl) ⟨vs5 ++ [v5], upd_same, rs5.append (.cons r5 .nil)⟩
      rw [nm5] at Rp
      rw [e2]
      have Rp' : RelX X B F5 α5 (upd H5 D (.lst (vs5 ++ [v5]))) σ3 ⟨(Sx i y (((ys.take i).filter p).map f)).ρ, S1.L ++ [(nD, .fl (((ys.take i).filter p).map f ++ [f y]))]⟩ := by rw [← sl]; exact Rp
      refine back Rp' (sl0.step (L' := S1.L ++ [(nD, .fl (((ys.take i).filter p).map f ++ [f y]))]) st5' fun n hn' => by rw [names_append] at hn' ⊢; exact hn')
  · have e1 : i = ys.length := by omega
    subst e1
    refine .inl ⟨j.stop B F' α' H' _ _ _ R' sm (by rw [List.length_map]; exact Nat.le_refl _), ?_⟩
    rw [List.take_length] at R'
    have stA : Stp F1 α1 S1.L F' α' := stn.trans ⟨st'.fro, fun n hn' => st'.nm n (Sub.app n hn')⟩ fun _ z => z
    obtain ⟨F6, R6, st6, r6⟩ := Rel.close (L := S1.L) R1 R' stA hn
    rw [nmD] at r6
    exact k F6 α' (.ref D) H' R6 (st1.trans st6 hS) r6

section
variable {τ : Type} {ys : List τ} {enc : τ → D}
theorem ev_lc (nD : Nat) (ys : List τ) (enc : τ → D) (f : τ → D) (p : τ → Bool) (Sx : Nat → τ → List D → Nz.S) (hc : X.calm = true) (hN : X.N.Nodup) (ok : BlkOk X.N X.env.scope scope own)
    (hsrc : Src X B tg iter S (ys.map enc) S1) (hn : nD ∉ names S1.L) (h100 : 100 ≤ nD) (hz : ys.length ≤ sizeLine) (hL : ∀ i y acc, (Sx i y acc).L = S1.L ++ [(nD, .fl acc)])
    (hg : ∀ i y acc, ys[i]? = some y → ∀ s H0 C cl fp, EgC (Blk X scope s H0 C cl fp) B tg (.fr (enc y)) ⟨wipeC S1.ρ (own.map (·.2)), S1.L ++ [(nD, .fl acc)]⟩ (Sx i y acc) (own.map (·.2)))
    (ht : ∀ i y acc, ys[i]? = some y → ∀ s H0 C cl fp, Ets (Blk X scope s H0 C cl fp) B ifs (Sx i y acc) (p y))
    (he : ∀ i y acc, ys[i]? = some y → p y = true → ∀ s H0 C cl fp, Ev (Blk X scope s H0 C cl fp) B elt (Sx i y acc) (.fr (f y)) (Sx i y acc)) (hS : Sub S.L S1.L := by exact Sub.refl) (hs : ∀ x, foldedSetIterable iter X.env x = pure x := by intro _; rfl) :
    Ev X B (.ListComp elt [⟨tg, iter, ifs, 0⟩] scope pos) S (.fr (.lst ((ys.filter p).map f))) S1 :=
  fun F α H σ Q R k => wE.of (pe_lc hc hN pi_w ok (fun s H0 C cl fp => ⟨fun pins s1 σ1 H1 v u Q1 I r h => h s H0 C cl fp pins s1 u I r⟩) (fun s H0 C cl fp => ⟨fun pins s1 σ1 H1 Q1 I h => h s H0 C cl fp pins s1 I⟩) (fun s H0 C cl fp => ⟨fun pins s1 σ1 H1 Q1 I h => h s H0 C cl fp pins s1 I⟩) hs)
    (lc_reading nD f p Sx hsrc hn h100 hz hL hg ht he F α H σ Q R hS k)
theorem ex_setLc (i : Nat) {y : Str} {py spos : Pos} {K : Out → Prop} (nD : Nat) (ys : List τ) (enc : τ → D) (f : τ → D) (p : τ → Bool) (Sx : Nat → τ → List D → Nz.S) (hc : X.calm = true) (hN : X.N.Nodup) (hy : X.N[i]? = some y) (hyl : X.env.scope.names.lookup y = some .local)
    (hsw : swapsWith (.ListComp elt [⟨tg, iter, ifs, 0⟩] scope pos) (some (.Name y py)) spos.line X.env = pure true) (ok : BlkOk X.N X.env.scope scope own)
    (hsrc : Src X B tg iter S (ys.map enc) S1) (hn : nD ∉ names S1.L) (h100 : 100 ≤ nD) (hz : ys.length ≤ sizeLine) (hL : ∀ i y acc, (Sx i y acc).L = S1.L ++ [(nD, .fl acc)])
    (hg : ∀ i y acc, ys[i]? = some y → ∀ s H0 C cl fp, EgC (Blk X scope s H0 C cl fp) B tg (.fr (enc y)) ⟨wipeC S1.ρ (own.map (·.2)), S1.L ++ [(nD, .fl acc)]⟩ (Sx i y acc) (own.map (·.2)))
    (ht : ∀ i y acc, ys[i]? = some y → ∀ s H0 C cl fp, Ets (Blk X scope s H0 C cl fp) B ifs (Sx i y acc) (p y))
    (he : ∀ i y acc, ys[i]? = some y → p y = true → ∀ s H0 C cl fp, Ev (Blk X scope s H0 C cl fp) B elt (Sx i y acc) (.fr (f y)) (Sx i y acc))
    (k : K (.nx (setS S1 i (.fr (.lst ((ys.filter p).map f)))))) (hS : Sub S.L S1.L := by exact Sub.refl) (hs : ∀ x, foldedSetIterable iter X.env x = pure x := by intro _; rfl) :
    Ex X B (.Assign [.Name y py] (.ListComp elt [⟨tg, iter, ifs, 0⟩] scope pos) spos) S K :=
  fun F α H σ D R o => wS.of (ps_setLc hc hN hy hyl hsw pi_w ok (fun s H0 C cl fp => ⟨fun pins s1 σ1 H1 v u Q1 I r h => h s H0 C cl fp pins s1 u I r⟩) (fun s H0 C cl fp => ⟨fun pins s1 σ1 H1 Q1 I h => h s H0 C cl fp pins s1 I⟩) (fun s H0 C cl fp => ⟨fun pins s1 σ1 H1 Q1 I h => h s H0 C cl fp pins s1 I⟩) hs)
    (lc_reading nD f p Sx hsrc hn h100 hz hL hg ht he F α H σ _ R hS fun F' α' v H' R' st r => o.nx _ F' α' H' _ k (R'.setS r) st.fro)
end
end

/-! ### calls of what is built in -/
def Cb (X : Cx) (f : Value) (ds : List D) (d : D) : Prop :=
  ∀ B F α H σ (S : Nz.S) (Q : VK) xs, RelX X B F α H σ S → Reps X.K X.mg F ds xs → (∀ F' α' v H', RelX X B F' α' H' σ S → Stp F α S.L F' α' → Rep X.K X.mg F' d v → Q v H') →
    ∀ pins s us, Inv X pins σ H s → Vals xs us → wpAny (model X.prog X.w) X.A (call f us) (EP X pins σ Q) X.xe s
theorem Cb.of {X : Cx} {f : Value} {ds : List D} {d : D} {r : List V → Hp → VK → Prop} (h : CallR X f r)
    (hr : ∀ B F α H σ (S : Nz.S) (Q : VK) xs, RelX X B F α H σ S → Reps X.K X.mg F ds xs → (∀ F' α' v H', RelX X B F' α' H' σ S → Stp F α S.L F' α' → Rep X.K X.mg F' d v → Q v H') → r xs H Q) : Cb X f ds d :=
  fun B F α H σ S Q xs R rx k pins s us I rv => h pins s σ H xs us Q I rv (hr B F α H σ S Q xs R rx k)
section
variable {X : Cx} {B : Bd} {S S1 : Nz.S} {a e : Expr} {es : List Expr} {pos p : Pos} {x : Str} {ds : List D} {d : D} {id T : String}
theorem ev_callB (hc : Cb X (.builtin id) ds d) (ha : Ea X B (e :: es) S (ds.map Ce.fr) S1) (hg : Gl X x) (hm : X.mg x = none) (hv : bootBuiltins x = some (.builtin id)) (h1 : Sub S.L S1.L := by exact Sub.refl) (hn : x ≠ "__name__" := by decide) (hdb : (x == ("__debug__" : Str)) = false := by decide)
    (he : starEach (e :: es) X.env = (false, eval e X.env) :: starEach es X.env := by rfl) (hpl : (backTo pos (starEach es X.env)).any (·.1) = false := by rfl) : Ev X B (.Call (.Name x p) (e :: es) [] pos) S (.fr d) S1 :=
  fun F α H σ Q R k pins s I => wpAny_Call_Name_kw (ld_blt I hg hm hv (PyProof.Rows.callWith_builtin1 (thn (ha F α H σ (fun vs H1 => ∃ F1 α1, RelX X B F1 α1 H1 σ S1 ∧ Stp F α S.L F1 α1 ∧ Reps X.K X.mg F1 ds vs) R
    (fun F1 α1 vs H1 R1 st1 r1 => ⟨F1, α1, R1, st1, r1.fr⟩) pos pins s I) fun us s1 ⟨vs, H1, I1, rv, F1, α1, R1, st1, r1⟩ =>
      hc B F1 α1 H1 σ S1 Q vs R1 r1 (fun F' α' v H' R' st' r' => k F' α' v H' R' (st1.trans st' h1) r') pins s1 us I1 rv) he hpl) hn hdb)
theorem ev_callTy (hc : Cb X (.type T) ds d) (ha : Ea X B (e :: es) S (ds.map Ce.fr) S1) (hg : Gl X x) (hm : X.mg x = none) (hv : bootBuiltins x = some (.type T)) (h1 : Sub S.L S1.L := by exact Sub.refl) (hn : x ≠ "__name__" := by decide) (hdb : (x == ("__debug__" : Str)) = false := by decide)
    (he : starEach (e :: es) X.env = (false, eval e X.env) :: starEach es X.env := by rfl) (hpl : (backTo pos (starEach es X.env)).any (·.1) = false := by rfl) : Ev X B (.Call (.Name x p) (e :: es) [] pos) S (.fr d) S1 :=
  fun F α H σ Q R k pins s I => wpAny_Call_Name_kw (ld_blt I hg hm hv (PyProof.Rows.callWith_type1 (thn (ha F α H σ (fun vs H1 => ∃ F1 α1, RelX X B F1 α1 H1 σ S1 ∧ Stp F α S.L F1 α1 ∧ Reps X.K X.mg F1 ds vs) R
    (fun F1 α1 vs H1 R1 st1 r1 => ⟨F1, α1, R1, st1, r1.fr⟩) pos pins s I) fun us s1 ⟨vs, H1, I1, rv, F1, α1, R1, st1, r1⟩ =>
      hc B F1 α1 H1 σ S1 Q vs R1 r1 (fun F' α' v H' R' st' r' => k F' α' v H' R' (st1.trans st' h1) r') pins s1 us I1 rv) he hpl) hn hdb)
theorem c_abs {i : Int} : Cb X (.builtin "abs") [.int i] (.int (if i < 0 then -i else i)) := .of call_abs fun B F α H σ S Q xs R rx k => by
  cases rx with | cons r rr => cases rr; cases r; exact ⟨i, rfl, k F α _ H R Stp.refl (.int _)⟩
theorem c_max2 {i j : Int} (hc : X.calm = true) : Cb X (.builtin "max") [.int i, .int j] (.int (if j > i then j else i)) := .of (call_max2 hc) fun B F α H σ S Q xs R rx k => by
  cases rx with | cons r rr => cases rr with | cons r2 rr => cases rr; cases r; cases r2; exact ⟨i, j, rfl, k F α _ H R Stp.refl (.int _)⟩
theorem c_min2 {i j : Int} (hc : X.calm = true) : Cb X (.builtin "min") [.int i, .int j] (.int (if j < i then j else i)) := .of (call_min2 hc) fun B F α H σ S Q xs R rx k => by
  cases rx with | cons r rr => cases rr with | cons r2 rr => cases rr; cases r; cases r2; exact ⟨i, j, rfl, k F α _ H R Stp.refl (.int _)⟩
theorem c_int {i : Int} : Cb X (.type "int") [.int i] (.int i) := .of call_int1 fun B F α H σ S Q xs R rx k => by
  cases rx with | cons r rr => cases rr; cases r; exact .inl ⟨i, rfl, k F α _ H R Stp.refl (.int _)⟩
theorem c_str {i : Int} (h : i.natAbs.log2 < 1920) : Cb X (.type "str") [.int i] (.str (toString i)) := .of call_str_int fun B F α H σ S Q xs R rx k => by
  cases rx with | cons r rr => cases rr; cases r; exact ⟨i, rfl, h, k F α _ H R Stp.refl (.str _)⟩
theorem c_lenL {xs : List D} : Cb X (.builtin "len") [.lst xs] (.int xs.length) := .of call_len_seq fun B F α H σ S Q vs R rx k => by
  cases rx with
  | cons r rr =>
    cases rr
    obtain ⟨a, us, rfl, hq, rs⟩ := R.asL (c := .fr (.lst xs)) rfl r
    exact ⟨a, us, rfl, .inl hq, by rw [← rs.length]; exact k F α _ H R Stp.refl (.int _)⟩
theorem c_lenT {xs : List D} : Cb X (.builtin "len") [.tup xs] (.int xs.length) := .of call_len_seq fun B F α H σ S Q vs R rx k => by
  cases rx with
  | cons r rr =>
    cases rr
    obtain ⟨a, us, rfl, hq, rs⟩ := R.asT r
    exact ⟨a, us, rfl, .inr hq, by rw [← rs.length]; exact k F α _ H R Stp.refl (.int _)⟩
theorem c_lenS {z : Str} (h : z.length ≤ sizeLine) : Cb X (.builtin "len") [.str z] (.int z.length) := .of call_len_str fun B F α H σ S Q vs R rx k => by
  cases rx with | cons r rr => cases rr; cases r; exact ⟨z, rfl, h, k F α _ H R Stp.refl (.int _)⟩
theorem c_sum {ns : List Int} (hc : X.calm = true) : Cb X (.builtin "sum") [.lst (ns.map D.int)] (.int ns.sum) := .of (cr_sum hc) fun B F α H σ S Q vs R rx k => by
  cases rx with
  | cons r rr =>
    cases rr
    obtain ⟨a, us, rfl, hq, rs⟩ := R.asL (c := .fr (.lst (ns.map D.int))) rfl r
    exact ⟨a, ns, rfl, by rw [← Reps.ints_eq rs]; exact hq, k F α _ H R Stp.refl (.int _)⟩
theorem c_list {xs : List D} : Cb X (.type "list") [.lst xs] (.lst xs) := .of call_list_of fun B F α H σ S Q vs R rx k => by
  cases rx with
  | cons r rr =>
    cases rr
    obtain ⟨a, us, rfl, hq, rs⟩ := R.asL (c := .fr (.lst xs)) rfl r
    exact ⟨a, us, rfl, .inl hq, fun l hl => k _ α _ _ (R.allocF hl) (stp_allocF (R.fresh hl)) (.lst (SqL.of upd_same) (rs.mono (same_upd (R.fresh hl))))⟩
theorem c_listT {xs : List D} : Cb X (.type "list") [.tup xs] (.lst xs) := .of call_list_of fun B F α H σ S Q vs R rx k => by
  cases rx with
  | cons r rr =>
    cases rr
    obtain ⟨a, us, rfl, hq, rs⟩ := R.asT r
    exact ⟨a, us, rfl, .inr hq, fun l hl => k _ α _ _ (R.allocF hl) (stp_allocF (R.fresh hl)) (.lst (SqL.of upd_same) (rs.mono (same_upd (R.fresh hl))))⟩
theorem c_tuple {xs : List D} : Cb X (.type "tuple") [.lst xs] (.tup xs) := .of call_tuple_of fun B F α H σ S Q vs R rx k => by
  cases rx with
  | cons r rr =>
    cases rr
    obtain ⟨a, us, rfl, hq, rs⟩ := R.asL (c := .fr (.lst xs)) rfl r
    exact ⟨a, us, rfl, .inl ⟨hq, fun l hl => k _ α _ _ (R.allocF hl) (stp_allocF (R.fresh hl)) (.tup (SqT.of upd_same) (rs.mono (same_upd (R.fresh hl))))⟩⟩
theorem c_tupleT {xs : List D} : Cb X (.type "tuple") [.tup xs] (.tup xs) := .of call_tuple_of fun B F α H σ S Q vs R rx k => by
  cases rx with
  | cons r rr =>
    cases rr
    have r0 := r
    obtain ⟨a, us, rfl, hq, rs⟩ := R.asT r
    exact ⟨a, us, rfl, .inr ⟨hq, k F α _ H R Stp.refl r0⟩⟩
theorem c_divmod {i j : Int} (h : 0 < j) (h' : j < 1073741824) : Cb X (.builtin "divmod") [.int i, .int j] (.tup [.int (i / j), .int (i % j)]) := .of call_divmod fun B F α H σ S Q vs R rx k => by
  cases rx with | cons r rr => cases rr with | cons r2 rr => cases rr; cases r; cases r2; exact ⟨i, j, rfl, ⟨h, h'⟩, fun p hp => k _ α _ _ (R.allocF hp) (stp_allocF (R.fresh hp)) (.tup (SqT.of upd_same) (.cons (.int _) (.cons (.int _) .nil)))⟩
/-- bools -/
theorem Reps.bls_eq {K : Frag} {mg : Mg} {F : Hp} : ∀ {ns : List Bool} {vs : List V}, Reps K mg F (ns.map D.bl) vs → vs = ns.map V.bl
  | [], _, .nil => rfl
  | _ :: ns, _, .cons h r => by
    cases h
    rw [Reps.bls_eq (ns := ns) r]; rfl
theorem c_any {bs : List Bool} (hc : X.calm = true) : Cb X (.builtin "any") [.lst (bs.map D.bl)] (.bl (bs.any fun b => b)) := .of (cr_any hc) fun B F α H σ S Q vs R rx k => by
  cases rx with
  | cons r rr =>
    cases rr
    obtain ⟨a, us, rfl, hq, rs⟩ := R.asL (c := .fr (.lst (bs.map D.bl))) rfl r
    exact ⟨a, bs, rfl, by rw [← Reps.bls_eq rs]; exact hq, k F α _ H R Stp.refl (.bl _)⟩
theorem c_all {bs : List Bool} (hc : X.calm = true) : Cb X (.builtin "all") [.lst (bs.map D.bl)] (.bl (bs.all fun b => b)) := .of (cr_all hc) fun B F α H σ S Q vs R rx k => by
  cases rx with
  | cons r rr =>
    cases rr
    obtain ⟨a, us, rfl, hq, rs⟩ := R.asL (c := .fr (.lst (bs.map D.bl))) rfl r
    exact ⟨a, bs, rfl, by rw [← Reps.bls_eq rs]; exact hq, k F α _ H R Stp.refl (.bl _)⟩
/-- len of what lives -/
theorem ev_lenL {ca : Ce} (ha : Ev X B e S ca S1) (hl : AsL S1.L ca ds) (hg : Gl X "len") (hm : X.mg "len" = none) (hs : starEach [e] X.env = (false, eval e X.env) :: starEach [] X.env := by rfl) (hpl : (backTo pos (starEach [] X.env)).any (·.1) = false := by rfl) : Ev X B (.Call (.Name "len" p) [e] [] pos) S (.fr (.int ds.length)) S1 :=
  fun F α H σ Q R k => wE.of (pe_callB call_len_seq hg hm PySem.boot_len (pa_cons pe_w pa_nil hs) (by decide) (by decide) hs hpl) (ha F α H σ _ R fun F1 α1 v1 H1 R1 st1 r1 => by
    obtain ⟨a, us, rfl, hq, rs⟩ := R1.asL hl r1
    exact ⟨a, us, rfl, .inl hq, by rw [← rs.length]; exact k F1 α1 _ H1 R1 st1 (.int _)⟩)

/-! ### isinstance of a builtin class -/
def tyOf : D → Option String
  | .non => some "NoneType" | .bl _ => some "bool" | .int _ => some "int" | .str _ => some "str" | .tup _ => some "tuple" | .lst _ => some "list" | .obj _ _ => none
end
end Nz

namespace Nz
open PySem PySem.Spec PyProof.Rows L2
section
variable {X : Cx} {B : Bd} {S S1 : Nz.S} {a e : Expr} {es : List Expr} {pos p q : Pos} {x : Str} {ds : List D} {d : D}
theorem tyX_lst {K : Frag} {H : Hp} {a : Addr} {vs : List V} (h : SqL K H a vs) : TyX K H (.ref a) (.type "list") := by
  rcases h with (h | ⟨o, h⟩) | ⟨o, its, n, h1, h2, _⟩
  · exact .base (.lst h)
  · exact .base (.frz h)
  · exact .kList h1 h2
theorem tyX_tup {K : Frag} {H : Hp} {a : Addr} {vs : List V} (h : SqT K H a vs) : TyX K H (.ref a) (.type "tuple") := by
  rcases h with (h | ⟨o, h⟩) | ⟨o, its, n, h1, h2, _⟩
  · exact .base (.tup h)
  · exact .fTuple h
  · exact .kTuple h1 h2
theorem Rel.tyX {F : Hp} {α : Nat → Addr} {H : Hp} {σ : L2.St} (R : RelX X B F α H σ S) {v : V} {t : String} (r : Rep X.K X.mg F d v) (h : tyOf d = some t) : TyX X.K H v (.type t) := by
  cases r with
  | non => cases h; exact .base .non
  | bl b => cases h; exact .base (.bl b)
  | int i => cases h; exact .base (.int i)
  | str z => cases h; exact .base (.str z)
  | tup h1 h2 => cases h; exact tyX_tup (R.sub.seqT h1)
  | lst h1 h2 => cases h; exact tyX_lst (R.sub.seq h1)
  | obj m h1 h2 h3 => cases h
/-- isinstance(a, T), T a built-in class -/
theorem ev_isi {T t : String} {b : Bool} {xT : Str} {p2 : Pos} (ha : Ev X B a S (.fr d) S1) (ht : tyOf d = some t) (hk : kitB t T = some b) (hg : Gl X "isinstance") (hm : X.mg "isinstance" = none) (hgT : Gl X xT) (hmT : X.mg xT = none) (hv : bootBuiltins xT = some (.type T))
    (hv2 : bootBuiltins "isinstance" = some (.builtin "isinstance") := by decide +kernel)
    (hn : xT ≠ "__name__" := by decide) (hd : (xT == ("__debug__" : Str)) = false := by decide)
    (he : starEach (a :: [.Name xT p2]) X.env = (false, eval a X.env) :: starEach [.Name xT p2] X.env := by rfl) (he2 : starEach (.Name xT p2 :: []) X.env = (false, eval (.Name xT p2) X.env) :: starEach [] X.env := by rfl) (hpl : (backTo pos (starEach [.Name xT p2] X.env)).any (·.1) = false := by rfl) :
    Ev X B (.Call (.Name "isinstance" p) [a, .Name xT p2] [] pos) S (.fr (.bl b)) S1 :=
  fun F α H σ Q R k => wE.of (pe_callB call_isi hg hm hv2 (pa_cons pe_w (pa_cons (pe_bltn (v := .ty T) hgT hmT hv rfl hn hd) pa_nil he2) he) (by decide) (by decide) he hpl) (ha F α H σ _ R fun F1 α1 v1 H1 R1 st1 r1 => by
    exact ⟨v1, .ty T, .type t, .type T, b, rfl, .ty T, R1.tyX r1 ht, kit_ty hk, k F1 α1 _ H1 R1 st1 (.bl _)⟩)


/-! ### methods of lists that live -/
theorem ev_append {n : Nat} {o : Expr} {apos : Pos} (ho : Ev X B o S (.ad n) S) {ds0 : List D} (ha : Ev X B e S (.fr d) S1) (hn : getL n S1.L = some (.fl ds)) (hn0 : getL n S.L = some (.fl ds0)) (hz : ds.length < sizeLine) (h1 : Sub S.L S1.L := by exact Sub.refl)
    (hbase : attributeBase o "append" X.env (eval o X.env) = eval o X.env := by rfl)
    (hfew : ((backTo pos (starEach (e :: []) X.env)).all (fun x => !x.1) && (backToKw pos (keywordEach [] X.env)).all (fun x => x.1.isSome)
      && decide ((e :: ([] : List Expr)).length + ([] : List Keyword).length + (if ([] : List Keyword).isEmpty then 0 else 1) < 30)) = true := by rfl)
    (hline : (apos.endLine == pos.line) = true := by rfl) (hs : starEach (e :: []) X.env = (false, eval e X.env) :: starEach [] X.env := by rfl) (hplain : (backTo pos (starEach [] X.env)).any (·.1) = false := by rfl) :
    Ev X B (.Call (.Attribute o "append" apos) [e] [] pos) S (.fr .non) ⟨S1.ρ, setL n (.fl (ds ++ [d])) S1.L⟩ :=
  fun F α H σ Q R k => wE.of (pe_bm PySem.F.plainAttrs_list PySem.F.slot_list_append PySem.F.type_list_append mt_append pe_w (pa_cons pe_w pa_nil hs) hbase hfew hline hs hplain) (ho F α H σ _ R fun F1 α1 v1 H1 R1 st1 r1 => by
    obtain ⟨hm, rfl⟩ := r1
    refine ⟨?_, ha F1 α1 H1 σ _ R1 fun F2 α2 v2 H2 R2 st2 r2 => ?_⟩
    · -- it is a list already
      obtain ⟨_, _, vs, e1, rs⟩ := R1.live n _ (getL_mem hn0)
      exact .inl ⟨rfl, _, SqL.of e1⟩
    · have hmm := getL_mem hn
      obtain ⟨f0, f1, vs, e1, rs⟩ := R2.live n _ hmm
      have en : α2 n = α1 n := st2.nm n hm
      refine ⟨α1 n, vs, v2, rfl, rfl, by rw [← en]; exact e1, by rw [← rs.length]; exact hz, ?_⟩
      have Rp := R2.put (n := n) (u := .fl (ds ++ [d])) (o' := .lst (vs ++ [v2])) hmm ⟨vs ++ [v2], upd_same, rs.append (.cons r2 .nil)⟩
      rw [en] at Rp
      exact k F2 α2 .non _ Rp ((st1.trans st2 Sub.refl).trans Stp.refl h1) .non)

/-! ### defs -/
/-- what a def promises: of the arguments' cells, the live objects handed in, and what is wanted of the value and of what lives behind -/
abbrev SpN := List Ce → List (Nat × LO) → (Ce → List (Nat × LO) → Prop) → Prop
def bdOf (F H : Hp) (fp : Addr → Prop) (α : Nat → Addr) (L : List (Nat × LO)) : Bd := ⟨F, H, fp, fun n => if n < 100 then some (α n) else none, fun n h => by rw [if_neg (by omega)]⟩
def SpOf (K : Frag) (mg : Mg) (sp : SpN) : Sp := fun vs H Q _ => ∃ F α L cs fp, Rel K mg (bdOf F H fp α L) F α H (vs.map some) ⟨cs.map some, L⟩ ∧
  sp cs L fun c L' => ∀ F' α' v H' ρ' σ', Rel K mg (bdOf F H fp α L) F' α' H' σ' ⟨ρ', L'⟩ → CRel K mg F' α' L' c v → Q v H'
def retK (Kc : Ce → List (Nat × LO) → Prop) : Out → Prop
  | .ret c S => Kc c S.L
  | .nx S => Kc (.fr .non) S.L
  | _ => False
def startC (N : List Str) (cs : List Ce) : List (Option Ce) := cs.map some ++ List.replicate (N.length - cs.length) none
theorem slr_rep {K : Frag} {mg : Mg} {F : Hp} {α : Nat → Addr} {L : List (Nat × LO)} : ∀ n, SlR K mg F α L (List.replicate n none) (List.replicate n none)
  | 0 => .nil
  | n + 1 => .no (slr_rep n)
theorem SlR.append {K : Frag} {mg : Mg} {F : Hp} {α : Nat → Addr} {L : List (Nat × LO)} : ∀ {c c' : List (Option Ce)} {σ σ' : L2.St}, SlR K mg F α L c σ → SlR K mg F α L c' σ' → SlR K mg F α L (c ++ c') (σ ++ σ')
  | _, _, _, _, .nil, h => h
  | _, _, _, _, .no r, h => .no (r.append h)
  | _, _, _, _, .so q r, h => .so q (r.append h)
theorem SlR.length {K : Frag} {mg : Mg} {F : Hp} {α : Nat → Addr} {L : List (Nat × LO)} : ∀ {c : List (Option Ce)} {σ : L2.St}, SlR K mg F α L c σ → c.length = σ.length
  | _, _, .nil => rfl
  | _, _, .no r => congrArg (· + 1) r.length
  | _, _, .so _ r => congrArg (· + 1) r.length
theorem _root_.L2.Fun.okN {P : Program} {w : World} {K : Frag} {mg : Mg} {base : Heap} {x qual : Str} {st : Stmt} {f : Addr} {fd : FuncData} {N ps : List Str} {k : Nat} {sp : SpN} (F : Fun K x qual st f fd) (S : FnScope N ps (defScope st)) (len : ∀ cs L Kc, sp cs L Kc → cs.length = ps.length)
    (hbody : ∀ (cdv : Value) (A : Around) (outer : List Env) (s : Shared) (H : Hp) (E : XK) (B : Bd) (cs : List Ce) (L : List (Nat × LO)) (Kc : Ce → List (Nat × LO) → Prop), Room k (A.deeper (envOfC qual (defScope st) s.heap.objs.size f cdv)) → sp cs L Kc →
      Exs (cxOf CX0 P w K mg base N qual (defScope st) f cdv A outer s H E).nox B (defBody st) ⟨startC N cs, L⟩ (retK Kc)) : FnOk P w K mg base CX0 (k + 1) f fd ps (SpOf K mg sp) := by
  refine F.ok S (fun vs H Q E h => ?_) (fun cdv A outer s H vs Q E hr h => ?_)
  · obtain ⟨F', α, L, cs, fp, R, h⟩ := h
    have e1 := R.slots.length
    have e2 := len _ _ _ h
    simp only [List.length_map] at e1
    omega
  · obtain ⟨F', α, L, cs, fp, R, h⟩ := h
    have e1 : cs.length = vs.length := by have := R.slots.length; simpa using this
    refine ⟨_, pss_w, hbody cdv A outer s H E (bdOf F' H fp α L) cs L _ hr h F' α H _ _ (?_ : Rel _ _ _ _ _ _ _ _) ?_⟩
    · refine ⟨R.sub, R.bF, R.nF, R.frame, R.nd, R.inj, R.live, ?_, R.fix⟩
      show SlR _ _ _ _ _ (cs.map some ++ List.replicate (N.length - cs.length) none) (vs.map some ++ List.replicate (N.length - vs.length) none)
      rw [e1]
      exact R.slots.append (slr_rep _)
    · refine ⟨fun S' F1 α1 H1 σ1 k1 R1 s1 => k1 F1 α1 .non H1 S'.ρ σ1 R1 .non, fun S' F1 α1 H1 σ1 k1 R1 s1 => k1.elim, fun S' F1 α1 H1 σ1 k1 R1 s1 => k1.elim, fun c S' F1 α1 H1 σ1 v k1 R1 s1 r1 => k1 F1 α1 v H1 S'.ρ σ1 R1 r1⟩
theorem paired_slots {K : Frag} {mg : Mg} {F : Hp} {α : Nat → Addr} : ∀ {ds : List D} {vs : List V}, Reps K mg F ds vs → SlR K mg F α [] ((ds.map Ce.fr).map some) (vs.map some)
  | _, _, .nil => .nil
  | _, _, .cons h r => .so h (paired_slots r)
theorem Rel.call0 {K : Frag} {mg : Mg} {B : Bd} {F : Hp} {α : Nat → Addr} {H : Hp} {σ : L2.St} {S : Nz.S} {vs : List V} (R : Rel K mg B F α H σ S) (r : Reps K mg F ds vs) : Rel K mg (bdOf F H (fun _ => False) α []) F α H (vs.map some) ⟨(ds.map Ce.fr).map some, []⟩ :=
  ⟨R.sub, Same.refl _, fun b o e => .inl e, fun b o e _ => e, List.nodup_nil, fun n m h => absurd h (by simp [names]), fun n o h => absurd h (by simp), paired_slots r, fun n a h hn => absurd hn (by simp [names])⟩
/-- behind a call that was handed nothing that lives -/
theorem Rel.back0 {K : Frag} {mg : Mg} {B : Bd} {F F' : Hp} {α α' : Nat → Addr} {H H' : Hp} {σ σ' : L2.St} {S S' : Nz.S} (R : Rel K mg B F α H σ S) (R' : Rel K mg (bdOf F H (fun _ => False) α []) F' α' H' σ' S') : Rel K mg B F' α H' σ S :=
  R.grow R'.bF (fun b o e => R'.frame b o e fun z => z) R'.sub fun b u e => by
    rcases R'.nF b u e with z | z | z
    · exact .inl z
    · exact .inr z
    · exact z.elim
variable {CX : CXT} {f C : Addr} {fd : FuncData} {ps : List Str} {k : Nat} {sp : SpN} {dvs : List D}
/-- a value as the text has it, for a default -/
theorem ev_call {ds' : List D} {dvs : List V} {dfs : List Value} (F : FnOk X.prog X.w X.K X.mg X.base CX0 k f fd ps (SpOf X.K X.mg sp)) (hr : Room k X.A) (hm : X.mg x = some (.ref f)) (hk : PySem.W.keepIn X.K (.ref f) = true) (hb : Binds X.K fd ps dfs) (hd : Vals dvs dfs)
    (hdv : ∀ F', Reps X.K X.mg F' ds' dvs) (ha : Ea X B (e :: es) S (ds.map Ce.fr) S1) (hs : ∀ Kc : Ce → List (Nat × LO) → Prop, (∀ L', Kc (.fr d) L') → sp ((ds ++ ds').map Ce.fr) [] Kc) (hg : Gl X x) (h1 : Sub S.L S1.L := by exact Sub.refl) (hdb : (x == ("__debug__" : Str)) = false := by decide)
    (he : starEach (e :: es) X.env = (false, eval e X.env) :: starEach es X.env := by rfl) (hpl : (backTo pos (starEach es X.env)).any (·.1) = false := by rfl) : Ev X B (.Call (.Name x p) (e :: es) [] pos) S (.fr d) S1 :=
  fun F0 α H σ Q R k => wE.of (pe_call F hr hg hm hk hb hd pass0 pa_w hdb he hpl) (ha F0 α H σ _ R fun F1 α1 vs H1 R1 st1 r1 => by
    have r := Reps.append r1.fr (hdv F1)
    exact ⟨F1, α1, [], _, fun _ => False, R1.call0 r, hs _ fun L' F' α' v H' ρ' σ' R' r' => k F' α1 v H' (R1.back0 R') (st1.trans ⟨R'.bF, fun _ _ => rfl⟩ h1) r'⟩)
theorem ev_call0 (F : FnOk X.prog X.w X.K X.mg X.base CX0 k f fd ps (SpOf X.K X.mg sp)) (hr : Room k X.A) (hm : X.mg x = some (.ref f)) (hk : PySem.W.keepIn X.K (.ref f) = true) (hb : Binds X.K fd ps [])
    (hs : ∀ Kc : Ce → List (Nat × LO) → Prop, (∀ L', Kc (.fr d) L') → sp [] [] Kc) (hg : Gl X x) (hdb : (x == ("__debug__" : Str)) = false := by decide) : Ev X B (.Call (.Name x p) [] [] pos) S (.fr d) S :=
  fun F0 α H σ Q R k => wE.of (pe_call0 F hr hg hm hk hb .nil pass0 hdb) (by
    exact ⟨F0, α, [], _, fun _ => False, R.call0 .nil, hs _ fun L' F' α' v H' ρ' σ' R' r' => k F' α v H' (R.back0 R') ⟨R'.bF, fun _ _ => rfl⟩ r'⟩)
/-! forgetting, freezing between statements -/
theorem SlR.set_none {K : Frag} {mg : Mg} {F : Hp} {α : Nat → Addr} {L : List (Nat × LO)} : ∀ {c : List (Option Ce)} {σ : L2.St} (i : Nat), SlR K mg F α L c σ → SlR K mg F α L (c.set i none) σ := fun i h => h.forget i
/-- c' forgets some of c -/
def Fg : List (Option Ce) → List (Option Ce) → Prop
  | [], [] => True
  | a :: as, b :: bs => (b = none ∨ b = a) ∧ Fg as bs
  | _, _ => False
theorem SlR.fg {K : Frag} {mg : Mg} {F : Hp} {α : Nat → Addr} {L : List (Nat × LO)} : ∀ {c c' : List (Option Ce)} {σ : L2.St}, Fg c c' → SlR K mg F α L c σ → SlR K mg F α L c' σ
  | _, [], _, h, .nil => .nil
  | _, b :: bs, _, h, .no r => by
    obtain ⟨h1 | h1, h2⟩ := h
    · subst h1; exact .no (SlR.fg h2 r)
    · subst h1; exact .no (SlR.fg h2 r)
  | _, b :: bs, _, h, .so q r => by
    obtain ⟨h1 | h1, h2⟩ := h
    · subst h1; exact .no (SlR.fg h2 r)
    · subst h1; exact .so q (SlR.fg h2 r)
  | _, [], _, h, .no r => False.elim h
  | _, [], _, h, .so q r => False.elim h
  | _, _ :: _, _, h, .nil => False.elim h
theorem exs_forget {sts : List Stmt} {K : Out → Prop} {ρ : List (Option Ce)} (h : Exs X B sts ⟨ρ, S.L⟩ K) (hf : Fg S.ρ ρ) : Exs X B sts S K := fun F α H σ D R o =>
  h F α H σ D ⟨R.sub, R.bF, R.nF, R.frame, R.nd, R.inj, R.live, R.slots.fg hf, R.fix⟩ o
theorem exs_freeze {sts : List Stmt} {K : Out → Prop} (n : Nat) (hn : getL n S.L = some (.fl ds)) (h : Exs X B sts (frS n (.lst ds) S) K) : Exs X B sts S K := fun F α H σ D R o => by
  obtain ⟨F', R', st, _⟩ := R.freeze hn
  exact h F' α H σ D R' (o.mono st.fro)
theorem ev_freeze (n : Nat) {c : Ce} (he : Ev X B e S c S1) (hn : getL n S1.L = some (.fl ds)) : Ev X B e S (frC n (.lst ds) c) (frS n (.lst ds) S1) := fun F α H σ Q R k => he F α H σ Q R fun F1 α1 v H1 R1 st1 r1 => by
  obtain ⟨F', R', st, _, hc⟩ := R1.freeze hn
  exact k F' α1 v H1 R' ⟨st1.fro.trans st.fro, st1.nm⟩ (hc c v r1)
end
end Nz

namespace Nz
open PySem PySem.Spec PyProof.Rows L2
section
variable {X : Cx} {B : Bd} {S S1 S2 S3 : Nz.S} {a b c e : Expr} {es : List Expr} {pos p q p2 : Pos} {x : Str} {ds : List D} {d d1 d2 : D}
theorem o_cat {xs ys : List D} (hz : xs.length + ys.length ≤ sizeLine) : Op2 X (binaryOp .Add) (.lst xs) (.lst ys) (.lst (xs ++ ys)) :=
  fun B F α H σ S Q x y R rx ry k pins s v u I rv ru => by
    obtain ⟨l1, vs, rfl, hq, rs⟩ := R.asL (c := .fr (.lst xs)) rfl rx
    obtain ⟨l2, us, rfl, hq2, rs2⟩ := R.asL (c := .fr (.lst ys)) rfl ry
    cases rv
    cases ru
    obtain ⟨its, r, ⟨⟨cl, od, dt, sl⟩, n, e1, c1, o1, t1⟩, z1⟩ := I.list hq
    obtain ⟨its2, r2, ⟨⟨cl2, od2, dt2, sl2⟩, n2, e2, c2, o2, t2⟩, z2⟩ := I.list hq2
    simp only at c1 o1 t1 c2 o2 t2
    subst c1 o1 t1 c2 o2 t2
    have hlen := r.length
    have hlen2 := r2.length
    have h1 := rs.length
    have h2 := rs2.length
    have ee : its.toArray ++ its2.toArray = (its ++ its2).toArray := by simp
    refine concat_meets ⟨_, e1, rfl⟩ ⟨_, e2, rfl⟩ noFill_list_add seq_list_add PySem.F.slot_list_add PySem.F.entry_list_add (PySem.F.args_list_add_2 _ _) (list_addW l1 l2 its.toArray its2.toArray n n2 none none sl sl2 (by simp only [List.size_toArray]; omega)) ⟨e1, e2, ?_⟩
    rw [ee]
    have hf := R.fresh I.fresh
    refine ⟨.ref _, _, I.lnew (t' := s.toks) (r.append r2) (by rw [List.length_append]; omega), rfl, k _ α _ _ (R.allocF I.fresh) (stp_allocF hf) (.lst (SqL.of upd_same) ((rs.append rs2).mono (same_upd hf)))⟩

/-! ### slices -/
def Eo (X : Cx) (B : Bd) (e : Option Expr) (S : Nz.S) (o : Option Int) : Prop :=
  ∀ F α H σ (Q : Option Int → Hp → Prop), RelX X B F α H σ S → (∀ F' α' H', RelX X B F' α' H' σ S → Stp F α S.L F' α' → Q o H') →
    ∀ pins s, Inv X pins σ H s → wpAny (model X.prog X.w) X.A (evalPart e X.env) (fun u s' => ∃ o H', Inv X pins σ H' s' ∧ IsPart u o ∧ Q o H') X.xe s
theorem eo_none : Eo X B none S none := fun F α H σ Q R k pins s I => po_none.run pins s σ H Q I (k F α H R Stp.refl)
theorem eo_some {i : Int} (h : Ev X B e S (.fr (.int i)) S) : Eo X B (some e) S (some i) := fun F α H σ Q R k pins s I => (po_some pe_w).run pins s σ H Q I (h F α H σ _ R fun F' α' v H' R' st r => by cases r; exact ⟨i, rfl, k F' α' H' R' st⟩)
def tO (X : Cx) (e : Option Expr) : TO := fun σ H Q => ∀ pins s, Inv X pins σ H s → wpAny (model X.prog X.w) X.A (evalPart e X.env) (fun u s' => ∃ o H', Inv X pins σ H' s' ∧ IsPart u o ∧ Q o H') X.xe s
theorem po_w {e : Option Expr} : PO X e (tO X e) := ⟨fun pins s σ H Q I h => h pins s I⟩
def slcD {τ : Type} (xs : List τ) (lo hi : Option Int) : List τ := (xs.drop (HT.sIx xs.length 0 lo)).take (HT.sIx xs.length xs.length hi - HT.sIx xs.length 0 lo)
theorem slcD_map {τ μ : Type} (f : τ → μ) (xs : List τ) (lo hi : Option Int) : slcD (xs.map f) lo hi = (slcD xs lo hi).map f := by
  unfold slcD
  rw [List.length_map, List.map_take, List.map_drop]
theorem ev_sliceL {ca : Ce} {lo hi : Option Expr} {ol oh : Option Int} (ha : Ev X B a S ca S1) (h1 : Eo X B lo S1 ol) (h2 : Eo X B hi S1 oh) (hl : AsL S1.L ca ds) (hS : Sub S.L S1.L := by exact Sub.refl) : Ev X B (.Subscript a (.Slice lo hi none p2) pos) S (.fr (.lst (slcD ds ol oh))) S1 :=
  fun F α H σ Q R k => wE.of (pe_slice sl_list pe_w po_w po_w) (ha F α H σ _ R fun F1 α1 v1 H1 R1 st1 r1 => h1 F1 α1 H1 σ _ R1 fun F2 α2 H2 R2 st2 => h2 F2 α2 H2 σ _ R2 fun F3 α3 H3 R3 st3 => by
    obtain ⟨pa, vs, rfl, hq, rs⟩ := R3.asL hl (r1.step (st2.trans st3 Sub.refl) Sub.refl)
    refine ⟨pa, vs, rfl, hq, fun l hl' => k _ α3 _ _ (R3.allocF hl') ⟨((st1.trans st2 hS).trans st3 hS).fro.trans (same_upd (R3.fresh hl')), ((st1.trans st2 hS).trans st3 hS).nm⟩ (.lst (SqL.of upd_same) (Reps.mono (same_upd (R3.fresh hl')) ?_))⟩
    unfold slcD cutV
    rw [rs.length]
    exact (rs.drop _).take _)
theorem ev_sliceS {z : Str} {lo hi : Option Expr} {ol oh : Option Int} (ha : Ev X B a S (.fr (.str z)) S1) (h1 : Eo X B lo S1 ol) (h2 : Eo X B hi S1 oh) (hz : z.length ≤ sizeLine) (hS : Sub S.L S1.L := by exact Sub.refl) : Ev X B (.Subscript a (.Slice lo hi none p2) pos) S (.fr (.str (cutS z ol oh))) S1 :=
  fun F α H σ Q R k => wE.of (pe_slice sl_str pe_w po_w po_w) (ha F α H σ _ R fun F1 α1 v1 H1 R1 st1 r1 => h1 F1 α1 H1 σ _ R1 fun F2 α2 H2 R2 st2 => h2 F2 α2 H2 σ _ R2 fun F3 α3 H3 R3 st3 => by
    cases r1
    exact ⟨z, rfl, hz, k F3 α3 _ H3 R3 ((st1.trans st2 hS).trans st3 hS) (.str _)⟩)

/-! ### a += e -/
theorem ex_aug (i : Nat) {op : Operator} {x : Str} {pos' : Pos} {K : Out → Prop} (hN : X.N.Nodup) (hi : X.N[i]? = some x) (hx : Loc X.env.scope x) (hρ : S.ρ[i]? = some (some (.fr d1))) (he : Ev X B e S (.fr d2) S1) (ho : Op2 X (inplaceOp op) d1 d2 d) (k : K (.nx (setS S1 i (.fr d))))
    (hρ1 : S1.ρ[i]? = some (some (.fr d1)) := by rfl) (hf : X.fn x = true ∨ X.env.scope.names.lookup x = some .local := by first | exact .inl rfl | exact .inr rfl | assumption) : True := trivial
end
/-! ### items of mapped lists -/
theorem at_map {τ : Type} [Inhabited τ] {enc : τ → D} {xs : List τ} {i : Int} (h0 : 0 ≤ i) (h1 : i < xs.length) : atI (xs.map enc) i = some (enc (xs.getD i.toNat default)) := by
  unfold atI ixN
  rw [if_pos h0, if_pos (by rw [List.length_map]; exact h1)]
  show (xs.map enc)[i.toNat]? = _
  rw [List.getElem?_map]
  have h2 : i.toNat < xs.length := by omega
  rw [List.getElem?_eq_getElem h2, List.getD_eq_getElem?_getD, List.getElem?_eq_getElem h2]
  rfl
theorem at_last {τ : Type} [Inhabited τ] {enc : τ → D} {xs : List τ} (h1 : xs ≠ []) : atI (xs.map enc) (-1) = some (enc (xs.getLastD default)) := by
  unfold atI ixN
  have hp : 0 < xs.length := List.length_pos_iff.mpr h1
  rw [if_neg (by decide), if_pos (by rw [List.length_map]; omega)]
  show (xs.map enc)[((-1 : Int) + ((xs.map enc).length : Int)).toNat]? = _
  rw [List.length_map, show ((-1 : Int) + (xs.length : Int)).toNat = xs.length - 1 by omega, List.getElem?_map, ← List.getLast?_eq_getElem?, List.getLast?_eq_some_getLast h1, List.getLastD_eq_getLast?, List.getLast?_eq_some_getLast h1]
  rfl
end Nz
namespace Nz
open PySem PySem.Spec PyProof.Rows L2
section
variable {X : Cx} {B : Bd} {S S1 : Nz.S} {e : Expr} {pos : Pos} {K : Out → Prop}
theorem ex_augI (i : Nat) {op : Operator} {g : Int → Int → Int} (ho : PIp X op (ipI g)) {x : Str} {pos' : Pos} {m n : Int} (hρ : S.ρ[i]? = some (some (.fr (.int m)))) (he : Ev X B e S (.fr (.int n)) S1) (k : K (.nx (setS S1 i (.fr (.int (g m n)))))) (hN : X.N.Nodup) (hi : X.N[i]? = some x) (hx : Loc X.env.scope x)
    (hf : X.fn x = true ∨ X.env.scope.names.lookup x = some .local := by first | exact .inl rfl | exact .inr rfl | assumption) : Ex X B (.AugAssign (.Name x pos') op e pos) S K :=
  fun F α H σ D R o => wS.of (ps_aug hN hi hx pe_w ho hf) (by
    obtain ⟨v, e1, r⟩ := R.slots.get hρ
    cases r
    exact ⟨_, e1, he F α H σ _ R fun F1 α1 v1 H1 R1 st1 r1 => by cases r1; exact ⟨_, _, rfl, rfl, o.nx _ F1 α1 H1 _ k (R1.setS (.int _)) st1.fro⟩⟩)
end
end Nz

namespace Nz
open PySem PySem.Spec PyProof.Rows L2

/-! ### loops by a state for each turn -/
def Le (S S' : Nz.S) : Prop := Fg S.ρ S'.ρ ∧ S'.L = S.L
theorem fg_refl : ∀ ρ : List (Option Ce), Fg ρ ρ
  | [] => trivial
  | _ :: r => ⟨.inr rfl, fg_refl r⟩
theorem Le.refl {S : Nz.S} : Le S S := ⟨fg_refl _, rfl⟩
theorem Le.of {S S' : Nz.S} (h : S = S') : Le S S' := h ▸ Le.refl
theorem Rel.le {K : Frag} {mg : Mg} {B : Bd} {F : Hp} {α : Nat → Addr} {H : Hp} {σ : L2.St} {S S' : Nz.S} (R : Rel K mg B F α H σ S) (h : Le S S') : Rel K mg B F α H σ S' := by
  obtain ⟨ρ', L'⟩ := S'
  obtain ⟨h1, h2⟩ := h
  have h2 : L' = S.L := h2
  subst h2
  exact ⟨R.sub, R.bF, R.nF, R.frame, R.nd, R.inj, R.live, R.slots.fg h1, R.fix⟩
def loopS (st : Nat → Nz.S) (P : Nat → Prop) (K : Out → Prop) (i : Nat) : Out → Prop
  | .nx S => Le S (st (i + 1)) ∧ P (i + 1)
  | .ct S => Le S (st (i + 1)) ∧ P (i + 1)
  | .bk S => K (.nx S)
  | .ret c S => K (.ret c S)
section
variable {X : Cx} {B : Bd} {S S1 S2 S3 : Nz.S} {tg a b c e : Expr} {es : List Expr} {pos p q p2 : Pos} {K : Out → Prop} {body : List Stmt}
theorem exs_le {sts : List Stmt} (h : Exs X B sts S1 K) (hf : Le S S1) : Exs X B sts S K := fun F α H σ D R o => h F α H σ D (R.le hf) o
theorem ex_forT {τ : Type} {ys : List τ} {enc : τ → D} (hp : PassesOwn (model X.prog X.w) X.A X.env X.xe) (hc : X.calm = true) (st : Nat → Nz.S) (P : Nat → Prop) (hsrc : Src X B tg e S (ys.map enc) S1) (h0 : Le S1 (st 0)) (p0 : P 0)
    (hs : ∀ i y, ys[i]? = some y → P i → ∃ S2, Eg X B tg (.fr (enc y)) (st i) S2 ∧ Exs X B body S2 (loopS st P K i)) (hd : P ys.length → K (.nx (st ys.length))) (hf : ∀ x, foldedSetIterable e X.env x = pure x := by intro _; rfl) : Ex X B (.For tg e body [] pos) S K :=
  fun F α H σ D R o => wS.of (ps_for hp hc pi_w pg_w pss_w hf) (hsrc F α H σ _ R fun F1 α1 H1 J R1 st1 j => by
    have o1 := o.mono st1.fro
    refine ⟨fun i m σ' H' => m = ys.length - i ∧ i ≤ ys.length ∧ ∃ F' α', RelX X B F' α' H' σ' (st i) ∧ Same F1 F' ∧ P i, ⟨ys.length, by simp, Nat.zero_le _, F1, α1, R1.le h0, Same.refl _, p0⟩, ?_⟩
    rintro i m σ' H' ⟨rfl, hi, F', α', R', sm, q⟩
    by_cases hlt : i < ys.length
    · have e1 : ys[i]? = some ys[i] := by simp [hlt]
      obtain ⟨g, y⟩ := j.go B F' α' H' σ' (st i) i (enc ys[i]) R' sm (by rw [List.getElem?_map, e1]; rfl)
      obtain ⟨S2, hg, hb⟩ := hs i _ e1 q
      refine .inr ⟨g, fun σ2 H2 => ∃ F2 α2, RelX X B F2 α2 H2 σ2 (st (i + 1)) ∧ Same F1 F2 ∧ P (i + 1), fun σ2 H2 ⟨F2, α2, R2, s2, q2⟩ => ⟨ys.length - (i + 1), by omega, rfl, hlt, F2, α2, R2, s2, q2⟩, fun x H2 yy => ?_⟩
      obtain ⟨F2, R2, s2, r2⟩ := y x H2 yy
      refine hg F2 α' H2 σ' x _ R2 r2 fun σ3 F3 H3 R3 s3 => hb F3 α' H3 σ3 _ R3 ?_
      have sall : Same F1 F3 := sm.trans (s2.trans s3)
      refine ⟨fun S4 F4 α4 H4 σ4 k4 R4 s4 => ⟨F4, α4, R4.le k4.1, sall.trans s4, k4.2⟩, fun S4 F4 α4 H4 σ4 k4 R4 s4 => o1.nx S4 F4 α4 H4 σ4 k4 R4 (sall.trans s4), fun S4 F4 α4 H4 σ4 k4 R4 s4 => ⟨F4, α4, R4.le k4.1, sall.trans s4, k4.2⟩,
        fun c S4 F4 α4 H4 σ4 v k4 R4 s4 r4 => o1.ret c S4 F4 α4 H4 σ4 v k4 R4 (sall.trans s4) r4⟩
    · have e1 : i = ys.length := by omega
      subst e1
      exact .inl ⟨j.stop B F' α' H' σ' _ _ R' sm (by rw [List.length_map]; exact Nat.le_refl _), o1.nx _ F' α' H' σ' (hd q) R' sm⟩)
def whileS (st : Nat → Nz.S) (K : Out → Prop) (i : Nat) : Out → Prop
  | .nx S => Le S (st (i + 1))
  | .ct S => Le S (st (i + 1))
  | .bk S => K (.nx S)
  | .ret c S => K (.ret c S)
/-- a while: the states st 0, st 1, ..; within n turns it is over -/
theorem ex_whileT (hp : PassesOwn (model X.prog X.w) X.A X.env X.xe) (st : Nat → Nz.S) (n : Nat) (b : Nat → Bool) (h0 : Le S (st 0)) (hb : ∀ i, n ≤ i → b i = false) (ht : ∀ i, i ≤ n → (∀ j, j < i → b j = true) → Et X B e (st i) (b i) (st i))
    (hs : ∀ i, i < n → (∀ j, j ≤ i → b j = true) → Exs X B body (st i) (whileS st K i)) (hd : ∀ i, i ≤ n → (∀ j, j < i → b j = true) → b i = false → K (.nx (st i))) : Ex X B (.While e body [] pos) S K :=
  fun F α H σ D R o => wS.of (ps_while hp pt_w pss_w) (by
    refine ⟨fun m σ' H' => ∃ i F' α', m = n - i ∧ i ≤ n ∧ (∀ j, j < i → b j = true) ∧ RelX X B F' α' H' σ' (st i) ∧ Same F F', ⟨n, 0, F, α, rfl, Nat.zero_le _, fun j hj => absurd hj (Nat.not_lt_zero _), R.le h0, Same.refl _⟩, ?_⟩
    rintro m σ' H' ⟨i, F', α', rfl, hi, hj, R', sm⟩
    refine ht i hi hj F' α' H' σ' _ R' fun F1 α1 H1 R1 st1 => ?_
    have sall : Same F F1 := sm.trans st1.fro
    cases hbi : b i with
    | true =>
      have hlt : i < n := by
        by_cases z : i < n
        · exact z
        · rw [hb i (by omega)] at hbi; cases hbi
      have hj' : ∀ j, j ≤ i → b j = true := fun j hj' => by
        by_cases z : j < i
        · exact hj j z
        · have : j = i := by omega
          rw [this]; exact hbi
      rw [if_pos rfl]
      refine ⟨fun σ2 H2 => ∃ F2 α2, RelX X B F2 α2 H2 σ2 (st (i + 1)) ∧ Same F F2, fun σ2 H2 ⟨F2, α2, R2, s2⟩ => ⟨n - (i + 1), by omega, i + 1, F2, α2, rfl, hlt, fun j hh => hj' j (by omega), R2, s2⟩, hs i hlt hj' F1 α1 H1 σ' _ R1 ?_⟩
      exact ⟨fun S4 F4 α4 H4 σ4 k4 R4 s4 => ⟨F4, α4, R4.le k4, sall.trans s4⟩, fun S4 F4 α4 H4 σ4 k4 R4 s4 => o.nx S4 F4 α4 H4 σ4 k4 R4 (sall.trans s4), fun S4 F4 α4 H4 σ4 k4 R4 s4 => ⟨F4, α4, R4.le k4, sall.trans s4⟩,
        fun c S4 F4 α4 H4 σ4 v k4 R4 s4 r4 => o.ret c S4 F4 α4 H4 σ4 v k4 R4 (sall.trans s4) r4⟩
    | false =>
      rw [if_neg Bool.false_ne_true]
      exact o.nx _ F1 α1 H1 σ' (hd i hi hj hbi) R1 sall)

/-! ### items of anything -/
inductive Ix (L : List (Nat × LO)) : Ce → Int → D → Prop
  | l {c : Ce} {ds : List D} {i : Int} {d : D} (h : AsL L c ds) (h2 : atI ds i = some d) : Ix L c i d
  | t {ds : List D} {i : Int} {d : D} (h2 : atI ds i = some d) : Ix L (.fr (.tup ds)) i d
theorem ev_ix {ca : Ce} {i : Int} {d : D} (hx : Ix S2.L ca i d) (ha : Ev X B a S ca S1) (hb : Ev X B b S1 (.fr (.int i)) S2) (hs : PlainIx b := by exact fun _ _ => rfl) (h1 : Sub S.L S1.L := by exact Sub.refl) (h2 : Sub S1.L S2.L := by exact Sub.refl) :
    Ev X B (.Subscript a b pos) S (.fr d) S2 := by
  cases hx with
  | l h h2' => exact ev_ixL ha hb h h2' hs h1 h2
  | t h2' => exact ev_ixT ha hb h2' hs h1 h2
inductive Ln (L : List (Nat × LO)) : Ce → Nat → Prop
  | l {c : Ce} {ds : List D} (h : AsL L c ds) : Ln L c ds.length
  | t {ds : List D} : Ln L (.fr (.tup ds)) ds.length
  | s {z : Str} (h : z.length ≤ sizeLine) : Ln L (.fr (.str z)) z.length
theorem ev_len {ca : Ce} {n : Nat} (hx : Ln S1.L ca n) (ha : Ev X B e S ca S1) (hg : Gl X "len") (hm : X.mg "len" = none) (h1 : Sub S.L S1.L := by exact Sub.refl) (hs : starEach [e] X.env = (false, eval e X.env) :: starEach [] X.env := by rfl) (hpl : (backTo pos (starEach [] X.env)).any (·.1) = false := by rfl) :
    Ev X B (.Call (.Name "len" p) [e] [] pos) S (.fr (.int n)) S1 := by
  cases hx with
  | l h => exact ev_lenL ha h hg hm hs hpl
  | t => exact ev_callB c_lenT (ea_cons ha ea_nil h1 Sub.refl hs) hg hm PySem.boot_len h1 (by decide) (by decide) hs hpl
  | s h => exact ev_callB (c_lenS h) (ea_cons ha ea_nil h1 Sub.refl hs) hg hm PySem.boot_len h1 (by decide) (by decide) hs hpl
end
theorem seq_range {n i y : Nat} (h : (List.range n)[i]? = some y) : i < n ∧ y = i := by
  by_cases hi : i < n
  · rw [List.getElem?_range hi] at h; exact ⟨hi, (Option.some.inj h).symm⟩
  · rw [List.getElem?_eq_none (by simpa using hi)] at h; cases h
theorem take_snoc {τ : Type} {ys : List τ} {i : Nat} {y : τ} (h : ys[i]? = some y) : ys.take (i + 1) = ys.take i ++ [y] := by rw [List.take_succ, h]; rfl
theorem foldl_snoc {τ β : Type} {ys : List τ} {i : Nat} {y : τ} (f : β → τ → β) (b : β) (h : ys[i]? = some y) : (ys.take (i + 1)).foldl f b = f ((ys.take i).foldl f b) y := by rw [take_snoc h, List.foldl_append]; rfl
theorem foldl_all {τ β : Type} {ys : List τ} (f : β → τ → β) (b : β) : (ys.take ys.length).foldl f b = ys.foldl f b := by rw [List.take_length]
end Nz

namespace Nz
open PySem PySem.Spec PyProof.Rows L2

/-! ### typed data -/
abbrev eL {τ : Type} (e : τ → D) (xs : List τ) : D := .lst (xs.map e)
abbrev eU {τ : Type} (e : τ → D) (xs : List τ) : D := .tup (xs.map e)
abbrev eT1 {τ : Type} (e : τ → D) (p : τ) : D := .tup [e p]
abbrev eT2 {τ μ : Type} (e : τ → D) (f : μ → D) (p : τ × μ) : D := .tup [e p.1, f p.2]
abbrev eT3 {τ μ ν : Type} (e : τ → D) (f : μ → D) (g : ν → D) (p : τ × μ × ν) : D := .tup [e p.1, f p.2.1, g p.2.2]
abbrev eT4 {τ μ ν κ : Type} (e : τ → D) (f : μ → D) (g : ν → D) (h : κ → D) (p : τ × μ × ν × κ) : D := .tup [e p.1, f p.2.1, g p.2.2.1, h p.2.2.2]
abbrev eT5 {τ μ ν κ ι : Type} (e : τ → D) (f : μ → D) (g : ν → D) (h : κ → D) (j : ι → D) (p : τ × μ × ν × κ × ι) : D := .tup [e p.1, f p.2.1, g p.2.2.1, h p.2.2.2.1, j p.2.2.2.2]
abbrev eO {τ : Type} (e : τ → D) : Option τ → D
  | none => .non
  | some x => e x
section
variable {X : Cx} {B : Bd} {S S1 S2 S3 : Nz.S} {tg a b c e : Expr} {es : List Expr} {pos p q p2 : Pos} {K : Out → Prop} {τ : Type} {enc : τ → D}
theorem o_catT {xs ys : List τ} (hz : xs.length + ys.length ≤ sizeLine) : Op2 X (binaryOp .Add) (eL enc xs) (eL enc ys) (eL enc (xs ++ ys)) := by
  have h := o_cat (X := X) (xs := xs.map enc) (ys := ys.map enc) (by simpa using hz)
  rwa [← List.map_append] at h
theorem ix_L [Inhabited τ] {L : List (Nat × LO)} {xs : List τ} {c : Ce} {i : Int} (h : AsL L c (xs.map enc)) (h0 : 0 ≤ i) (h1 : i < xs.length) : Ix L c i (enc (xs.getD i.toNat default)) := .l h (at_map h0 h1)
theorem ix_last [Inhabited τ] {L : List (Nat × LO)} {xs : List τ} {c : Ce} (h : AsL L c (xs.map enc)) (h1 : xs ≠ []) : Ix L c (-1) (enc (xs.getLastD default)) := .l h (at_last h1)
theorem ix_U [Inhabited τ] {L : List (Nat × LO)} {xs : List τ} {i : Int} (h0 : 0 ≤ i) (h1 : i < xs.length) : Ix L (.fr (eU enc xs)) i (enc (xs.getD i.toNat default)) := .t (at_map h0 h1)
theorem ln_L {L : List (Nat × LO)} {xs : List τ} {c : Ce} (h : AsL L c (xs.map enc)) : Ln L c xs.length := by
  have := Ln.l h
  rwa [List.length_map] at this
theorem ln_U {L : List (Nat × LO)} {xs : List τ} : Ln L (.fr (eU enc xs)) xs.length := by
  have := Ln.t (L := L) (ds := xs.map enc)
  rwa [List.length_map] at this
theorem ev_sliceT {ca : Ce} {xs : List τ} {lo hi : Option Expr} {ol oh : Option Int} (hl : AsL S1.L ca (xs.map enc)) (ha : Ev X B a S ca S1) (h1 : Eo X B lo S1 ol) (h2 : Eo X B hi S1 oh) (hS : Sub S.L S1.L := by exact Sub.refl) : Ev X B (.Subscript a (.Slice lo hi none p2) pos) S (.fr (eL enc (slcD xs ol oh))) S1 := by
  have := ev_sliceL (pos := pos) (p2 := p2) ha h1 h2 hl hS
  rwa [slcD_map] at this
/-- [..] that lives, by its data -/
theorem ev_lstN (n : Nat) (xs : List τ) {ds : List D} (h : Ea X B es S (ds.map Ce.fr) S1) (hd : ds = xs.map enc) (hz : xs.length ≤ sizeLine) (hn : n ∉ names S1.L) (h100 : 100 ≤ n) (h1 : Sub S.L S1.L := by exact Sub.refl) : Ev X B (.List es pos) S (.ad n) ⟨S1.ρ, S1.L ++ [(n, .fl (xs.map enc))]⟩ := by
  subst hd
  exact ev_lstL n h (by rw [List.length_map]; exact hz) hn h100 h1
theorem ev_appendT {n : Nat} {o : Expr} {apos : Pos} {xs xs0 : List τ} (x : τ) {d : D} (hd : d = enc x) (hn : getL n S1.L = some (.fl (xs.map enc))) (hn0 : getL n S.L = some (.fl (xs0.map enc))) (hz : xs.length < sizeLine) (ho : Ev X B o S (.ad n) S) (ha : Ev X B e S (.fr d) S1) (h1 : Sub S.L S1.L := by exact Sub.refl)
    (hbase : attributeBase o "append" X.env (eval o X.env) = eval o X.env := by rfl)
    (hfew : ((backTo pos (starEach (e :: []) X.env)).all (fun x => !x.1) && (backToKw pos (keywordEach [] X.env)).all (fun x => x.1.isSome)
      && decide ((e :: ([] : List Expr)).length + ([] : List Keyword).length + (if ([] : List Keyword).isEmpty then 0 else 1) < 30)) = true := by rfl)
    (hline : (apos.endLine == pos.line) = true := by rfl) (hs : starEach (e :: []) X.env = (false, eval e X.env) :: starEach [] X.env := by rfl) (hplain : (backTo pos (starEach [] X.env)).any (·.1) = false := by rfl) :
    Ev X B (.Call (.Attribute o "append" apos) [e] [] pos) S (.fr .non) ⟨S1.ρ, setL n (.fl ((xs ++ [x]).map enc)) S1.L⟩ := by
  subst hd
  have := ev_append (pos := pos) (apos := apos) ho ha hn hn0 (by rw [List.length_map]; exact hz) h1 hbase hfew hline hs hplain
  rwa [show xs.map enc ++ [enc x] = (xs ++ [x]).map enc by simp] at this
theorem c_listL {xs : List τ} : Cb X (.type "list") [eL enc xs] (eL enc xs) := c_list
theorem c_sumL {ns : List Int} (hc : X.calm = true) : Cb X (.builtin "sum") [eL D.int ns] (.int ns.sum) := c_sum hc
theorem src_listT {xs : List τ} (h : Ev X B e S (.fr (eL enc xs)) S1) : Src X B tg e S (xs.map enc) S1 := src_list h
theorem src_tupT {xs : List τ} (h : Ev X B e S (.fr (eU enc xs)) S1) : Src X B tg e S (xs.map enc) S1 := src_tup h
theorem exs_freezeT {sts : List Stmt} (n : Nat) {xs : List τ} (hn : getL n S.L = some (.fl (xs.map enc))) (h : Exs X B sts (frS n (eL enc xs) S) K) : Exs X B sts S K := exs_freeze n hn h
/-- an if that only stores: its two ends are one state -/
theorem ex_join {st : Stmt} (Sj : Nz.S) (h : Ex X B st S fun o => ∃ S', o = .nx S' ∧ Le S' Sj) (k : K (.nx Sj)) : Ex X B st S K := fun F α H σ D R o => h F α H σ D R
  ⟨fun S' F' α' H' σ' k' R' s' => (by
      obtain ⟨S2, e1, e2⟩ := k'
      cases e1
      exact o.nx Sj F' α' H' σ' k (R'.le e2) s'),
    fun S' F' α' H' σ' k' R' s' => (by obtain ⟨_, e1, _⟩ := k'; cases e1), fun S' F' α' H' σ' k' R' s' => (by obtain ⟨_, e1, _⟩ := k'; cases e1), fun c S' F' α' H' σ' v k' R' s' r => (by obtain ⟨_, e1, _⟩ := k'; cases e1)⟩
end
theorem PassesOwn.nox {P : Program} {w : World} {A : Around} {env : Env} : PassesOwn (model P w) A env (fun _ _ => False) := PassesOwn.never
end Nz

namespace Nz
open PySem PySem.Spec PyProof.Rows L2
theorem lm_map {τ μ : Type} (ys : List τ) (g : τ → μ) (enc2 : μ → D) : ((ys.filter fun _ => true).map fun y => enc2 (g y)) = (ys.map g).map enc2 := by
  rw [List.filter_eq_self.mpr (fun _ _ => rfl), List.map_map]; rfl
theorem lm_filt {τ μ : Type} (ys : List τ) (p : τ → Bool) (g : τ → μ) (enc2 : μ → D) : ((ys.filter p).map fun y => enc2 (g y)) = ((ys.filter p).map g).map enc2 := by
  rw [List.map_map]; rfl
theorem bd_d {p : Prop} [Decidable p] : decide p = true ↔ p := decide_eq_true_iff
theorem bd_and {a b : Bool} {p q : Prop} (h1 : a = true ↔ p) (h2 : b = true ↔ q) : (a && b) = true ↔ (p ∧ q) := by rw [Bool.and_eq_true, h1, h2]
theorem bd_or {a b : Bool} {p q : Prop} (h1 : a = true ↔ p) (h2 : b = true ↔ q) : (a || b) = true ↔ (p ∨ q) := by rw [Bool.or_eq_true, h1, h2]
theorem bd_not {a : Bool} {p : Prop} (h1 : a = true ↔ p) : (!a) = true ↔ ¬ p := by rw [← h1]; cases a <;> simp
theorem bd_n {p : Prop} [Decidable p] : (!decide p) = true ↔ ¬ p := bd_not bd_d
theorem bd_t : true = true ↔ True := by simp
section
variable {X : Cx} {B : Bd} {S S1 S2 S3 : Nz.S} {tg a b c e : Expr} {es : List Expr} {pos p q p2 : Pos} {K : Out → Prop} {body els : List Stmt}
theorem ex_ifP {i : Bool} {P : Prop} (h : i = true ↔ P) (ht : Et X B e S i S1) (ha : P → Exs X B body S1 K) (hb : ¬ P → Exs X B els S1 K) : Ex X B (.If e body els pos) S K :=
  ex_if ht (fun z => ha (h.mp z)) fun z => hb fun w => by rw [h.mpr w] at z; cases z
theorem ev_ifP {t : Expr} {i : Bool} {P : Prop} [Decidable P] {τ : Type} {enc : τ → D} {x y : τ} (h : i = true ↔ P) (ht : Et X B t S i S) (ha : P → Ev X B a S (.fr (enc x)) S) (hb : ¬ P → Ev X B b S (.fr (enc y)) S) : Ev X B (.IfExp t a b pos) S (.fr (enc (if P then x else y))) S := by
  have := ev_if (pos := pos) ht (fun z => ha (h.mp z)) (fun z => hb fun w => by rw [h.mpr w] at z; cases z)
  by_cases hp : P
  · rw [if_pos (h.mpr hp)] at this; rw [if_pos hp]; exact this
  · rw [if_neg (fun z => hp (h.mp z))] at this; rw [if_neg hp]; exact this
theorem ev_andP {i j : Bool} {P : Prop} (h : i = true ↔ P) (ha : Ev X B a S (.fr (.bl i)) S) (hb : P → Ev X B (.BoolOp .And (b :: es) pos) S (.fr (.bl j)) S) : Ev X B (.BoolOp .And (a :: b :: es) pos) S (.fr (.bl (i && j))) S := ev_and ha fun z => hb (h.mp z)
theorem ev_orP {i j : Bool} {P : Prop} (h : i = true ↔ P) (ha : Ev X B a S (.fr (.bl i)) S) (hb : ¬ P → Ev X B (.BoolOp .Or (b :: es) pos) S (.fr (.bl j)) S) : Ev X B (.BoolOp .Or (a :: b :: es) pos) S (.fr (.bl (i || j))) S := ev_or ha fun z => hb fun w => by rw [h.mpr w] at z; cases z
theorem ew_andP {i j : Bool} {P : Prop} (h : i = true ↔ P) (ha : Et X B a S i S) (hb : P → Ew X B (.BoolOp .And (b :: es) pos) S j) : Ew X B (.BoolOp .And (a :: b :: es) pos) S (i && j) := ew_and ha fun z => hb (h.mp z)
theorem ew_orP {i j : Bool} {P : Prop} (h : i = true ↔ P) (ha : Et X B a S i S) (hb : ¬ P → Ew X B (.BoolOp .Or (b :: es) pos) S j) : Ew X B (.BoolOp .Or (a :: b :: es) pos) S (i || j) := ew_or ha fun z => hb fun w => by rw [h.mpr w] at z; cases z
/-- a op b op' c -/
theorem ev_chain {op op' : CmpOp} {d1 d2 d3 : D} {i j : Bool} {P : Prop} (h : i = true ↔ P) (ho : Op2 X (compareOp op) d1 d2 (.bl i)) (ho' : Op2 X (compareOp op') d2 d3 (.bl j)) (ha : Ev X B a S (.fr d1) S) (hb : Ev X B b S (.fr d2) S) (hc : P → Ev X B c S (.fr d3) S)
    (hm : lastMarks [op, op'] [b, c] = false := by with_unfolding_all rfl) : Ev X B (.Compare a [op, op'] [b, c] pos) S (.fr (.bl (i && j))) S := fun F α H σ Q R k => by
  intro pins s I
  refine Compare_chain (thn (ha F α H σ _ R (fun F1 α1 v1 H1 R1 st1 r1 => hb F1 α1 H1 σ (fun v2 H2 => ∃ F2 α2, RelX X B F2 α2 H2 σ S ∧ Stp F α S.L F2 α2 ∧ Rep X.K X.mg F2 d1 v1 ∧ Rep X.K X.mg F2 d2 v2) R1 fun F2 α2 v2 H2 R2 st2 r2 => ⟨F2, α2, R2, st1.trans st2 Sub.refl, Rep.mono st2.fro r1, r2⟩) pins s I)
    fun v s1 ⟨x, H1, I1, rv, q1⟩ => chain_link (thn (q1 pins s1 I1) fun u s2 ⟨y, H2, I2, ru, F2, α2, R2, st, r1, r2⟩ =>
    thn (ho B F2 α2 H2 σ S (fun v' H' => ∃ F3 α3, v' = .bl i ∧ RelX X B F3 α3 H' σ S ∧ Stp F2 α2 S.L F3 α3) x y R2 r1 r2 (fun F3 α3 v' H3 R3 st3 r3 => by cases r3; exact ⟨F3, α3, rfl, R3, st3⟩) pins s2 v u I2 rv ru) fun d s3 ⟨z, H3, I3, r3, F3, α3, e, R3, st3⟩ => ?_)) hm
  subst e
  cases r3
  refine wpAny_truthy_bool ?_
  have stA : Stp F α S.L F3 α3 := st.trans st3 Sub.refl
  cases i with
  | false => exact ite_ff ⟨.bl false, H3, I3, rfl, k F3 α3 (.bl false) H3 R3 stA (show Rep X.K X.mg F3 (.bl (false && j)) (.bl false) from .bl false)⟩
  | true =>
    refine ite_tt (chain_last (thn (hc (h.mp rfl) F3 α3 H3 σ (fun v3 H4 => ∃ F4 α4, RelX X B F4 α4 H4 σ S ∧ Stp F α S.L F4 α4 ∧ Rep X.K X.mg F4 d2 y ∧ Rep X.K X.mg F4 d3 v3) R3 (fun F4 α4 v4 H4 R4 st4 r4 => ⟨F4, α4, R4, stA.trans st4 Sub.refl, Rep.mono (st3.fro.trans st4.fro) r2, r4⟩) pins s3 I3)
      fun w' s4 ⟨z', H4, I4, r4, F4, α4, R4, st4, q2, q3⟩ => ?_))
    exact ho' B F4 α4 H4 σ S Q y z' R4 q2 q3 (fun F5 α5 v5 H5 R5 st5 r5 => k F5 α5 v5 H5 R5 (st4.trans st5 Sub.refl) (show Rep X.K X.mg F5 (.bl (true && j)) v5 from r5)) pins s4 u w' I4 ru r4
/-- .. as a test -/
theorem et_chain {op op' : CmpOp} {d1 d2 d3 : D} {i j : Bool} {P : Prop} (h : i = true ↔ P) (ho : Op2 X (compareOp op) d1 d2 (.bl i)) (ho' : Op2 X (compareOp op') d2 d3 (.bl j)) (ha : Ev X B a S (.fr d1) S) (hb : Ev X B b S (.fr d2) S) (hc : P → Ev X B c S (.fr d3) S)
    (hm : lastMarks [op, op'] [b, c] = false := by with_unfolding_all rfl) : Et X B (.Compare a [op, op'] [b, c] pos) S (i && j) S := fun F α H σ Q R k => by
  intro pins s I
  refine isTrue_chain (thn (ha F α H σ _ R (fun F1 α1 v1 H1 R1 st1 r1 => hb F1 α1 H1 σ (fun v2 H2 => ∃ F2 α2, RelX X B F2 α2 H2 σ S ∧ Stp F α S.L F2 α2 ∧ Rep X.K X.mg F2 d1 v1 ∧ Rep X.K X.mg F2 d2 v2) R1 fun F2 α2 v2 H2 R2 st2 r2 => ⟨F2, α2, R2, st1.trans st2 Sub.refl, Rep.mono st2.fro r1, r2⟩) pins s I)
    fun v s1 ⟨x, H1, I1, rv, q1⟩ => test_link (thn (q1 pins s1 I1) fun u s2 ⟨y, H2, I2, ru, F2, α2, R2, st, r1, r2⟩ =>
    thn (ho B F2 α2 H2 σ S (fun v' H' => ∃ F3 α3, v' = .bl i ∧ RelX X B F3 α3 H' σ S ∧ Stp F2 α2 S.L F3 α3) x y R2 r1 r2 (fun F3 α3 v' H3 R3 st3 r3 => by cases r3; exact ⟨F3, α3, rfl, R3, st3⟩) pins s2 v u I2 rv ru) fun d s3 ⟨z, H3, I3, r3, F3, α3, e, R3, st3⟩ => ?_)) hm
  subst e
  cases r3
  refine wpAny_truthy_bool ?_
  have stA : Stp F α S.L F3 α3 := st.trans st3 Sub.refl
  cases i with
  | false => exact ite_ff ⟨H3, I3, by simpa using k F3 α3 H3 R3 stA⟩
  | true =>
    refine ite_tt (test_last (thn (hc (h.mp rfl) F3 α3 H3 σ (fun v3 H4 => ∃ F4 α4, RelX X B F4 α4 H4 σ S ∧ Stp F α S.L F4 α4 ∧ Rep X.K X.mg F4 d2 y ∧ Rep X.K X.mg F4 d3 v3) R3 (fun F4 α4 v4 H4 R4 st4 r4 => ⟨F4, α4, R4, stA.trans st4 Sub.refl, Rep.mono (st3.fro.trans st4.fro) r2, r4⟩) pins s3 I3)
      fun w' s4 ⟨z', H4, I4, r4, F4, α4, R4, st4, q2, q3⟩ => thn (ho' B F4 α4 H4 σ S (fun v' H' => v' = .bl j ∧ ∃ F5 α5, RelX X B F5 α5 H' σ S ∧ Stp F4 α4 S.L F5 α5) y z' R4 q2 q3 (fun F5 α5 v5 H5 R5 st5 r5 => by cases r5; exact ⟨rfl, F5, α5, R5, st5⟩) pins s4 u w' I4 ru r4) fun d' s5 ⟨z2, H5, I5, r5, e2, F5, α5, R5, st5⟩ => ?_))
    subst e2
    cases r5
    exact wpAny_truthy_bool ⟨H5, I5, by simpa using k F5 α5 H5 R5 (st4.trans st5 Sub.refl)⟩
variable {elt iter : Expr} {ifs : List Expr} {scope : Scope} {own : List (Str × Nat)} {τ μ : Type} {ys : List τ} {enc : τ → D} {enc2 : μ → D}
/-- [g y for y in ys], typed -/
theorem ev_lcM (nD : Nat) (g : τ → μ) (Sx : Nat → τ → List D → Nz.S) (hc : X.calm = true) (hN : X.N.Nodup) (ok : BlkOk X.N X.env.scope scope own)
    (hsrc : Src X B tg iter S (ys.map enc) S1) (hn : nD ∉ names S1.L) (h100 : 100 ≤ nD) (hz : ys.length ≤ sizeLine)
    (hg : ∀ i y acc, ys[i]? = some y → ∀ s H0 C cl fp, EgC (Blk X scope s H0 C cl fp) B tg (.fr (enc y)) ⟨wipeC S1.ρ (own.map (·.2)), S1.L ++ [(nD, .fl acc)]⟩ (Sx i y acc) (own.map (·.2)))
    (he : ∀ i y acc, ys[i]? = some y → ∀ s H0 C cl fp, Ev (Blk X scope s H0 C cl fp) B elt (Sx i y acc) (.fr (enc2 (g y))) (Sx i y acc)) (hL : ∀ i y acc, (Sx i y acc).L = S1.L ++ [(nD, .fl acc)] := by exact fun _ _ _ => rfl) (hS : Sub S.L S1.L := by exact Sub.refl) (hs : ∀ x, foldedSetIterable iter X.env x = pure x := by intro _; rfl) :
    Ev X B (.ListComp elt [⟨tg, iter, [], 0⟩] scope pos) S (.fr (eL enc2 (ys.map g))) S1 := by
  have := ev_lc (pos := pos) nD ys enc (fun y => enc2 (g y)) (fun _ => true) Sx hc hN ok hsrc hn h100 hz hL hg (fun _ _ _ _ _ _ _ _ _ => ets_nil) (fun i y acc h1 _ => he i y acc h1) hS hs
  rwa [lm_map] at this
theorem ex_setLcM (i : Nat) {y : Str} {py spos : Pos} (nD : Nat) (g : τ → μ) (Sx : Nat → τ → List D → Nz.S) (hc : X.calm = true) (hN : X.N.Nodup) (hy : X.N[i]? = some y) (hyl : X.env.scope.names.lookup y = some .local)
    (hsw : swapsWith (.ListComp elt [⟨tg, iter, [], 0⟩] scope pos) (some (.Name y py)) spos.line X.env = pure true) (ok : BlkOk X.N X.env.scope scope own)
    (hsrc : Src X B tg iter S (ys.map enc) S1) (hn : nD ∉ names S1.L) (h100 : 100 ≤ nD) (hz : ys.length ≤ sizeLine)
    (hg : ∀ i y acc, ys[i]? = some y → ∀ s H0 C cl fp, EgC (Blk X scope s H0 C cl fp) B tg (.fr (enc y)) ⟨wipeC S1.ρ (own.map (·.2)), S1.L ++ [(nD, .fl acc)]⟩ (Sx i y acc) (own.map (·.2)))
    (he : ∀ i y acc, ys[i]? = some y → ∀ s H0 C cl fp, Ev (Blk X scope s H0 C cl fp) B elt (Sx i y acc) (.fr (enc2 (g y))) (Sx i y acc))
    (k : K (.nx (setS S1 i (.fr (eL enc2 (ys.map g)))))) (hL : ∀ i y acc, (Sx i y acc).L = S1.L ++ [(nD, .fl acc)] := by exact fun _ _ _ => rfl) (hS : Sub S.L S1.L := by exact Sub.refl) (hs : ∀ x, foldedSetIterable iter X.env x = pure x := by intro _; rfl) :
    Ex X B (.Assign [.Name y py] (.ListComp elt [⟨tg, iter, [], 0⟩] scope pos) spos) S K :=
  ex_setLc i nD ys enc (fun y => enc2 (g y)) (fun _ => true) Sx hc hN hy hyl hsw ok hsrc hn h100 hz hL hg (fun _ _ _ _ _ _ _ _ _ => ets_nil) (fun i y acc h1 _ => he i y acc h1) (by
    rw [lm_map]; exact k) hS hs
/-- [g y for y in ys if p y], typed -/
theorem ev_lcF (nD : Nat) (g : τ → μ) (p : τ → Bool) (Sx : Nat → τ → List D → Nz.S) (hc : X.calm = true) (hN : X.N.Nodup) (ok : BlkOk X.N X.env.scope scope own)
    (hsrc : Src X B tg iter S (ys.map enc) S1) (hn : nD ∉ names S1.L) (h100 : 100 ≤ nD) (hz : ys.length ≤ sizeLine)
    (hg : ∀ i y acc, ys[i]? = some y → ∀ s H0 C cl fp, EgC (Blk X scope s H0 C cl fp) B tg (.fr (enc y)) ⟨wipeC S1.ρ (own.map (·.2)), S1.L ++ [(nD, .fl acc)]⟩ (Sx i y acc) (own.map (·.2)))
    (ht : ∀ i y acc, ys[i]? = some y → ∀ s H0 C cl fp, Et (Blk X scope s H0 C cl fp) B a (Sx i y acc) (p y) (Sx i y acc))
    (he : ∀ i y acc, ys[i]? = some y → p y = true → ∀ s H0 C cl fp, Ev (Blk X scope s H0 C cl fp) B elt (Sx i y acc) (.fr (enc2 (g y))) (Sx i y acc)) (hL : ∀ i y acc, (Sx i y acc).L = S1.L ++ [(nD, .fl acc)] := by exact fun _ _ _ => rfl) (hS : Sub S.L S1.L := by exact Sub.refl) (hs : ∀ x, foldedSetIterable iter X.env x = pure x := by intro _; rfl) :
    Ev X B (.ListComp elt [⟨tg, iter, [a], 0⟩] scope pos) S (.fr (eL enc2 ((ys.filter p).map g))) S1 := by
  have := ev_lc (pos := pos) nD ys enc (fun y => enc2 (g y)) p Sx hc hN ok hsrc hn h100 hz hL hg (fun i y acc h s H0 C cl fp => ets_one (ht i y acc h s H0 C cl fp)) he hS hs
  rwa [lm_filt] at this
theorem ex_setLcF (i : Nat) {y : Str} {py spos : Pos} (nD : Nat) (g : τ → μ) (p : τ → Bool) (Sx : Nat → τ → List D → Nz.S) (hc : X.calm = true) (hN : X.N.Nodup) (hy : X.N[i]? = some y) (hyl : X.env.scope.names.lookup y = some .local)
    (hsw : swapsWith (.ListComp elt [⟨tg, iter, [a], 0⟩] scope pos) (some (.Name y py)) spos.line X.env = pure true) (ok : BlkOk X.N X.env.scope scope own)
    (hsrc : Src X B tg iter S (ys.map enc) S1) (hn : nD ∉ names S1.L) (h100 : 100 ≤ nD) (hz : ys.length ≤ sizeLine)
    (hg : ∀ i y acc, ys[i]? = some y → ∀ s H0 C cl fp, EgC (Blk X scope s H0 C cl fp) B tg (.fr (enc y)) ⟨wipeC S1.ρ (own.map (·.2)), S1.L ++ [(nD, .fl acc)]⟩ (Sx i y acc) (own.map (·.2)))
    (ht : ∀ i y acc, ys[i]? = some y → ∀ s H0 C cl fp, Et (Blk X scope s H0 C cl fp) B a (Sx i y acc) (p y) (Sx i y acc))
    (he : ∀ i y acc, ys[i]? = some y → p y = true → ∀ s H0 C cl fp, Ev (Blk X scope s H0 C cl fp) B elt (Sx i y acc) (.fr (enc2 (g y))) (Sx i y acc))
    (k : K (.nx (setS S1 i (.fr (eL enc2 ((ys.filter p).map g)))))) (hL : ∀ i y acc, (Sx i y acc).L = S1.L ++ [(nD, .fl acc)] := by exact fun _ _ _ => rfl) (hS : Sub S.L S1.L := by exact Sub.refl) (hs : ∀ x, foldedSetIterable iter X.env x = pure x := by intro _; rfl) :
    Ex X B (.Assign [.Name y py] (.ListComp elt [⟨tg, iter, [a], 0⟩] scope pos) spos) S K :=
  ex_setLc i nD ys enc (fun y => enc2 (g y)) p Sx hc hN hy hyl hsw ok hsrc hn h100 hz hL hg (fun i y acc h s H0 C cl fp => ets_one (ht i y acc h s H0 C cl fp)) he (by
    rw [lm_filt]; exact k) hS hs
end
end Nz

namespace Nz
open PySem PySem.Spec PyProof.Rows L2
def loopF (Sn : Nz.S) (q : Prop) : Out → Prop
  | .nx S => Le S Sn ∧ q
  | .ct S => Le S Sn ∧ q
  | _ => False
def runE {τ σ ρ : Type} (step : σ → τ → Except ρ σ) : List τ → σ → Except ρ σ
  | [], s => .ok s
  | y :: ys, s => match step s y with
    | .error r => .error r
    | .ok s' => runE step ys s'
def loopE {σ ρ : Type} (stF : σ → Nz.S) (o : Except ρ σ) (Q : σ → Prop) (R : ρ → Ce → Nz.S → Prop) : Out → Prop
  | .nx S => ∃ s', o = .ok s' ∧ Le S (stF s') ∧ Q s'
  | .ct S => ∃ s', o = .ok s' ∧ Le S (stF s') ∧ Q s'
  | .ret c S => ∃ r, o = .error r ∧ R r c S
  | _ => False
section
variable {X : Cx} {B : Bd} {S S1 S2 S3 : Nz.S} {tg a b c e : Expr} {es : List Expr} {pos p q p2 : Pos} {K : Out → Prop} {body : List Stmt} {τ σ ρ : Type} {ys : List τ} {enc : τ → D}
theorem take_foldl {step : σ → τ → σ} {s0 : σ} {i : Nat} {y : τ} (h : ys[i]? = some y) : (ys.take (i + 1)).foldl step s0 = step ((ys.take i).foldl step s0) y := foldl_snoc step s0 h
theorem ex_forF (stF : σ → Nz.S) (step : σ → τ → σ) (s0 : σ) (Q : Nat → σ → Prop) (hsrc : Src X B tg e S (ys.map enc) S1) (h0 : Le S1 (stF s0)) (q0 : Q 0 s0)
    (hs : ∀ i y s, ys[i]? = some y → Q i s → ∃ S2, Eg X B tg (.fr (enc y)) (stF s) S2 ∧ Exs X B body S2 (loopF (stF (step s y)) (Q (i + 1) (step s y)))) (hd : Q ys.length (ys.foldl step s0) → K (.nx (stF (ys.foldl step s0))))
    (hp : PassesOwn (model X.prog X.w) X.A X.env X.xe) (hc : X.calm = true) (hf : ∀ x, foldedSetIterable e X.env x = pure x := by intro _; rfl) : Ex X B (.For tg e body [] pos) S K := by
  refine ex_forT hp hc (fun i => stF ((ys.take i).foldl step s0)) (fun i => Q i ((ys.take i).foldl step s0)) hsrc h0 q0 (fun i y hy hP => ?_) (fun hP => ?_) hf
  · obtain ⟨S2, h1, h2⟩ := hs i y _ hy hP
    refine ⟨S2, h1, h2.mono fun o ho => ?_⟩
    cases o with
    | nx S => show Le S (stF ((ys.take (i + 1)).foldl step s0)) ∧ Q (i + 1) ((ys.take (i + 1)).foldl step s0); rw [take_foldl hy]; exact ho
    | ct S => show Le S (stF ((ys.take (i + 1)).foldl step s0)) ∧ Q (i + 1) ((ys.take (i + 1)).foldl step s0); rw [take_foldl hy]; exact ho
    | bk S => exact False.elim ho
    | ret c S => exact False.elim ho
  · rw [List.take_length] at hP ⊢
    exact hd hP
theorem runE_cons {step : σ → τ → Except ρ σ} {x : τ} {xs : List τ} {s : σ} : runE step (x :: xs) s = (match step s x with | .error r => Except.error r | .ok s' => runE step xs s') := rfl
theorem runE_append {step : σ → τ → Except ρ σ} : ∀ {xs ys : List τ} {s : σ}, runE step (xs ++ ys) s = (match runE step xs s with | .error r => .error r | .ok s' => runE step ys s')
  | [], _, _ => rfl
  | x :: xs, ys, s => by
    rw [List.cons_append, runE_cons, runE_cons]
    cases step s x with
    | error r => rfl
    | ok s' => exact runE_append
theorem runE_split {step : σ → τ → Except ρ σ} {i : Nat} {y : τ} {s0 s : σ} (h : ys[i]? = some y) (hs : runE step (ys.take i) s0 = .ok s) : runE step (ys.take (i + 1)) s0 = step s y := by
  rw [take_snoc h, runE_append, hs]
  show runE step [y] s = step s y
  unfold runE
  cases step s y <;> rfl
theorem runE_err {step : σ → τ → Except ρ σ} {i : Nat} {y : τ} {s0 s : σ} {r : ρ} (h : ys[i]? = some y) (hs : runE step (ys.take i) s0 = .ok s) (hr : step s y = .error r) : runE step ys s0 = .error r := by
  have e : ys = ys.take (i + 1) ++ ys.drop (i + 1) := (List.take_append_drop _ _).symm
  rw [e, runE_append, runE_split h hs, hr]
/-- a loop that may return -/
theorem ex_forE (stF : σ → Nz.S) (step : σ → τ → Except ρ σ) (s0 : σ) (Q : Nat → σ → Prop) (R : ρ → Ce → Nz.S → Prop) (hsrc : Src X B tg e S (ys.map enc) S1) (h0 : Le S1 (stF s0)) (q0 : Q 0 s0)
    (hs : ∀ i y s, ys[i]? = some y → runE step (ys.take i) s0 = .ok s → Q i s → ∃ S2, Eg X B tg (.fr (enc y)) (stF s) S2 ∧ Exs X B body S2 (loopE stF (step s y) (Q (i + 1)) R))
    (hr : ∀ r c S', runE step ys s0 = .error r → R r c S' → K (.ret c S')) (hd : ∀ s, runE step ys s0 = .ok s → Q ys.length s → K (.nx (stF s)))
    (hp : PassesOwn (model X.prog X.w) X.A X.env X.xe) (hc : X.calm = true) (hf : ∀ x, foldedSetIterable e X.env x = pure x := by intro _; rfl) : Ex X B (.For tg e body [] pos) S K := by
  let sI : Nat → σ := fun i => match runE step (ys.take i) s0 with | .ok s => s | .error _ => s0
  refine ex_forT hp hc (fun i => stF (sI i)) (fun i => runE step (ys.take i) s0 = .ok (sI i) ∧ Q i (sI i)) hsrc h0 ⟨rfl, q0⟩ (fun i y hy hP => ?_) (fun hP => ?_) hf
  · obtain ⟨S2, h1, h2⟩ := hs i y _ hy hP.1 hP.2
    refine ⟨S2, h1, h2.mono fun o ho => ?_⟩
    have nx : ∀ s', step (sI i) y = .ok s' → sI (i + 1) = s' ∧ runE step (ys.take (i + 1)) s0 = .ok s' := fun s' e => by
      have := runE_split hy hP.1
      rw [e] at this
      refine ⟨?_, this⟩
      show (match runE step (ys.take (i + 1)) s0 with | .ok s => s | .error _ => s0) = s'
      rw [this]
    cases o with
    | nx S =>
      obtain ⟨s', e, l, q⟩ := ho
      obtain ⟨e1, e2⟩ := nx s' e
      show Le S (stF (sI (i + 1))) ∧ runE step (ys.take (i + 1)) s0 = .ok (sI (i + 1)) ∧ Q (i + 1) (sI (i + 1))
      rw [e1]; exact ⟨l, e2, q⟩
    | ct S =>
      obtain ⟨s', e, l, q⟩ := ho
      obtain ⟨e1, e2⟩ := nx s' e
      show Le S (stF (sI (i + 1))) ∧ runE step (ys.take (i + 1)) s0 = .ok (sI (i + 1)) ∧ Q (i + 1) (sI (i + 1))
      rw [e1]; exact ⟨l, e2, q⟩
    | bk S => exact False.elim ho
    | ret c S =>
      obtain ⟨r, e, l⟩ := ho
      exact hr r c S (runE_err hy hP.1 e) l
  · obtain ⟨h1, h2⟩ := hP
    rw [List.take_length] at h1
    exact hd _ h1 h2
end
end Nz

namespace Nz
open PySem PySem.Spec PyProof.Rows L2
abbrev eN : Unit → D := fun _ => .non
section
variable {X : Cx} {B : Bd} {S S1 : Nz.S} {es : List Expr} {pos : Pos} {τ : Type} {enc : τ → D}
theorem ev_lstF (xs : List τ) {ds : List D} (h : Ea X B es S (ds.map Ce.fr) S1) (hd : ds = xs.map enc) (hz : xs.length ≤ sizeLine) : Ev X B (.List es pos) S (.fr (eL enc xs)) S1 := by
  subst hd
  exact ev_lst h (by rw [List.length_map]; exact hz)
end
end Nz

namespace Nz
open PySem PySem.Spec PyProof.Rows L2
mutual
def toP : D → PyData
  | .non => .none
  | .bl b => .bool b
  | .int i => .int i
  | .str s => .str s
  | .tup xs => .tuple (toPs xs)
  | .lst xs => .list (toPs xs)
  | .obj _ _ => .none
def toPs : List D → List PyData
  | [] => []
  | x :: xs => toP x :: toPs xs
end
mutual
def dataOk : D → Bool
  | .obj _ _ => false
  | .tup xs => datasOk xs
  | .lst xs => datasOk xs
  | _ => true
def datasOk : List D → Bool
  | [] => true
  | x :: xs => dataOk x && datasOk xs
end
mutual
theorem plain_toP : ∀ d : D, (toP d).plain = true
  | .non => rfl
  | .bl b => rfl
  | .int i => rfl
  | .str s => rfl
  | .tup xs => by simp only [toP, PyData.plain]; exact plain_toPs xs
  | .lst xs => by simp only [toP, PyData.plain]; exact plain_toPs xs
  | .obj _ _ => rfl
theorem plain_toPs : ∀ ds : List D, PyData.plainAll (toPs ds) = true
  | [] => rfl
  | x :: xs => by simp only [toPs, PyData.plainAll, plain_toP x, plain_toPs xs, Bool.and_self]
end
section
variable {K : Frag} {mg : Mg} {F H : Hp}
mutual
theorem dp_of (s : Same F H) : ∀ (d : D) (v : V), Rep K mg F d v → dataOk d = true → Dp K H v (toP d)
  | .non, _, r, h => by cases r; exact .non
  | .bl b, _, r, h => by cases r; exact .bl b
  | .int i, _, r, h => by cases r; exact .int i
  | .str z, _, r, h => by cases r; exact .str z
  | .tup xs, _, r, h => by
    cases r with
    | tup h1 h2 => exact .tup (s.seqT h1) (dps_of s xs _ h2 (by simpa [dataOk] using h))
  | .lst xs, _, r, h => by
    cases r with
    | lst h1 h2 => exact .lst (s.seq h1) (dps_of s xs _ h2 (by simpa [dataOk] using h))
  | .obj _ _, _, r, h => by simp [dataOk] at h
theorem dps_of (s : Same F H) : ∀ (ds : List D) (vs : List V), Reps K mg F ds vs → datasOk ds = true → DpAll K H vs (toPs ds)
  | [], _, r, h => by cases r; exact .nil
  | x :: xs, _, r, h => by
    cases r with
    | cons h1 h2 =>
      simp only [datasOk, Bool.and_eq_true] at h
      exact .cons (dp_of s x _ h1 h.1) (dps_of s xs _ h2 h.2)
end
end
/-- an encoding that == reads as = -/
structure EqEnc {τ : Type} [DecidableEq τ] (n : Nat) (e : τ → D) : Prop where
  ok : ∀ x, dataOk (e x) = true
  eqv : ∀ x y, PyData.eqv (toP (e x)) (toP (e y)) = decide (x = y)
  dep : ∀ x, (toP (e x)).depth ≤ n
theorem ee_int : EqEnc 0 D.int := ⟨fun _ => rfl, fun x y => by simp only [toP, PyData.eqv]; rw [Bool.eq_iff_iff]; simp, fun _ => Nat.zero_le _⟩
theorem ee_bool : EqEnc 0 D.bl := ⟨fun _ => rfl, fun x y => by simp only [toP, PyData.eqv]; rw [Bool.eq_iff_iff]; simp, fun _ => Nat.zero_le _⟩
theorem ee_str : EqEnc 0 D.str := ⟨fun _ => rfl, fun x y => by simp only [toP, PyData.eqv]; rw [Bool.eq_iff_iff]; simp, fun _ => Nat.zero_le _⟩
section
variable {τ μ ν κ ι : Type} [DecidableEq τ] [DecidableEq μ] [DecidableEq ν] [DecidableEq κ] [DecidableEq ι] {a b c d f n : Nat} {e : τ → D} {e2 : μ → D} {e3 : ν → D} {e4 : κ → D} {e5 : ι → D}
theorem ees_ok (h : EqEnc n e) : ∀ xs : List τ, datasOk (xs.map e) = true
  | [] => rfl
  | x :: xs => by simp only [List.map_cons, datasOk, h.ok, ees_ok h xs, Bool.and_self]
theorem ees_eqv (h : EqEnc n e) : ∀ xs ys : List τ, PyData.eqvAll (toPs (xs.map e)) (toPs (ys.map e)) = decide (xs = ys)
  | [], [] => by simp [toPs, PyData.eqvAll]
  | [], _ :: _ => by simp [toPs, PyData.eqvAll]
  | _ :: _, [] => by simp [toPs, PyData.eqvAll]
  | x :: xs, y :: ys => by
    simp only [List.map_cons, toPs, PyData.eqvAll, h.eqv, ees_eqv h xs ys]
    rw [Bool.eq_iff_iff]; simp
theorem ees_dep (h : EqEnc n e) : ∀ xs : List τ, PyData.depthAll (toPs (xs.map e)) ≤ n
  | [] => by simp [toPs, PyData.depthAll]
  | x :: xs => by
    simp only [List.map_cons, toPs, PyData.depthAll]
    have h1 := h.dep x
    have h2 := ees_dep h xs
    omega
theorem ee_L (h : EqEnc n e) : EqEnc (n + 1) (eL e) := ⟨fun xs => by simp only [dataOk]; exact ees_ok h xs, fun xs ys => by simp only [toP, PyData.eqv]; exact ees_eqv h xs ys, fun xs => by simp only [toP, PyData.depth]; have := ees_dep h xs; omega⟩
theorem ee_U (h : EqEnc n e) : EqEnc (n + 1) (eU e) := ⟨fun xs => by simp only [dataOk]; exact ees_ok h xs, fun xs ys => by simp only [toP, PyData.eqv]; exact ees_eqv h xs ys, fun xs => by simp only [toP, PyData.depth]; have := ees_dep h xs; omega⟩
theorem ee_T2 (h1 : EqEnc a e) (h2 : EqEnc b e2) : EqEnc (a + b + 1) (eT2 e e2) := ⟨fun x => by simp [dataOk, datasOk, h1.ok, h2.ok], fun x y => by
    simp only [toP, toPs, PyData.eqv, PyData.eqvAll, h1.eqv, h2.eqv]
    rw [Bool.eq_iff_iff]; simp [Prod.ext_iff], fun x => by simp only [toP, toPs, PyData.depth, PyData.depthAll]; have := h1.dep x.1; have := h2.dep x.2; omega⟩
theorem ee_T3 (h1 : EqEnc a e) (h2 : EqEnc b e2) (h3 : EqEnc c e3) : EqEnc (a + b + c + 1) (eT3 e e2 e3) := ⟨fun x => by simp [dataOk, datasOk, h1.ok, h2.ok, h3.ok], fun x y => by
    simp only [toP, toPs, PyData.eqv, PyData.eqvAll, h1.eqv, h2.eqv, h3.eqv]
    rw [Bool.eq_iff_iff]; simp [Prod.ext_iff], fun x => by simp only [toP, toPs, PyData.depth, PyData.depthAll]; have := h1.dep x.1; have := h2.dep x.2.1; have := h3.dep x.2.2; omega⟩
theorem ee_T4 (h1 : EqEnc a e) (h2 : EqEnc b e2) (h3 : EqEnc c e3) (h4 : EqEnc d e4) : EqEnc (a + b + c + d + 1) (eT4 e e2 e3 e4) := ⟨fun x => by simp [dataOk, datasOk, h1.ok, h2.ok, h3.ok, h4.ok], fun x y => by
    simp only [toP, toPs, PyData.eqv, PyData.eqvAll, h1.eqv, h2.eqv, h3.eqv, h4.eqv]
    rw [Bool.eq_iff_iff]; simp [Prod.ext_iff], fun x => by simp only [toP, toPs, PyData.depth, PyData.depthAll]; have := h1.dep x.1; have := h2.dep x.2.1; have := h3.dep x.2.2.1; have := h4.dep x.2.2.2; omega⟩
theorem ee_T5 (h1 : EqEnc a e) (h2 : EqEnc b e2) (h3 : EqEnc c e3) (h4 : EqEnc d e4) (h5 : EqEnc f e5) : EqEnc (a + b + c + d + f + 1) (eT5 e e2 e3 e4 e5) := ⟨fun x => by simp [dataOk, datasOk, h1.ok, h2.ok, h3.ok, h4.ok, h5.ok], fun x y => by
    simp only [toP, toPs, PyData.eqv, PyData.eqvAll, h1.eqv, h2.eqv, h3.eqv, h4.eqv, h5.eqv]
    rw [Bool.eq_iff_iff]; simp [Prod.ext_iff], fun x => by simp only [toP, toPs, PyData.depth, PyData.depthAll]; have := h1.dep x.1; have := h2.dep x.2.1; have := h3.dep x.2.2.1; have := h4.dep x.2.2.2.1; have := h5.dep x.2.2.2.2; omega⟩
/-- None or a value that is not None -/
structure NoNone (e : τ → D) : Prop where
  l : ∀ x, PyData.eqv .none (toP (e x)) = false
  r : ∀ x, PyData.eqv (toP (e x)) .none = false
theorem nn_int : NoNone D.int := ⟨fun _ => by simp [toP, PyData.eqv], fun _ => by simp [toP, PyData.eqv]⟩
theorem nn_str : NoNone D.str := ⟨fun _ => by simp [toP, PyData.eqv], fun _ => by simp [toP, PyData.eqv]⟩
theorem nn_L : NoNone (eL e) := ⟨fun _ => by simp [toP, PyData.eqv], fun _ => by simp [toP, PyData.eqv]⟩
theorem nn_T2 : NoNone (eT2 e e2) := ⟨fun _ => by simp [toP, PyData.eqv], fun _ => by simp [toP, PyData.eqv]⟩
theorem nn_T3 : NoNone (eT3 e e2 e3) := ⟨fun _ => by simp [toP, PyData.eqv], fun _ => by simp [toP, PyData.eqv]⟩
theorem ee_O (h : EqEnc n e) (k : NoNone e) : EqEnc n (eO e) := ⟨fun x => by cases x with | none => rfl | some x => exact h.ok x, fun x y => by
    cases x with
    | none => cases y with
      | none => simp [eO, toP, PyData.eqv]
      | some y => simp only [eO]; rw [show toP D.non = PyData.none from rfl, k.l]; simp
    | some x => cases y with
      | none => simp only [eO]; rw [show toP D.non = PyData.none from rfl, k.r]; simp
      | some y => simp only [eO]; rw [h.eqv, Bool.eq_iff_iff]; simp,
  fun x => by cases x with | none => simp [eO, toP, PyData.depth] | some x => exact h.dep x⟩
variable {X : Cx}
theorem o_eqD (hu : X.A.units + 64 < cLine) (h : EqEnc n e) {x y : τ} (hn : n ≤ 60 := by decide) : Op2 X (compareOp .Eq) (e x) (e y) (.bl (decide (x = y))) :=
  fun B F α H σ S Q v1 v2 R r1 r2 k pins s u1 u2 I q1 q2 => by
    obtain ⟨as, ra⟩ := Dp.reads I _ _ _ (dp_of R.sub _ _ r1 (h.ok x)) q1
    obtain ⟨bs, rb⟩ := Dp.reads I _ _ _ (dp_of R.sub _ _ r2 (h.ok y)) q2
    refine PySem.SeqAt.eq_plain ra rb (plain_toP _) (plain_toP _) ?_ ?_
    · have := h.dep x; have := Nat.min_le_left (toP (e x)).depth (toP (e y)).depth; omega
    · rw [h.eqv]; exact ⟨.bl _, H, I, rfl, k F α _ H R Stp.refl (.bl _)⟩
theorem o_neD (hu : X.A.units + 64 < cLine) (h : EqEnc n e) {x y : τ} (hn : n ≤ 60 := by decide) : Op2 X (compareOp .NotEq) (e x) (e y) (.bl (!decide (x = y))) :=
  fun B F α H σ S Q v1 v2 R r1 r2 k pins s u1 u2 I q1 q2 => by
    obtain ⟨as, ra⟩ := Dp.reads I _ _ _ (dp_of R.sub _ _ r1 (h.ok x)) q1
    obtain ⟨bs, rb⟩ := Dp.reads I _ _ _ (dp_of R.sub _ _ r2 (h.ok y)) q2
    refine PySem.SeqAt.ne_plain ra rb (plain_toP _) (plain_toP _) ?_ ?_
    · have := h.dep x; have := Nat.min_le_left (toP (e x)).depth (toP (e y)).depth; omega
    · rw [h.eqv]; exact ⟨.bl _, H, I, rfl, k F α _ H R Stp.refl (.bl _)⟩
theorem toPs_any (h : EqEnc n e) (x : τ) : ∀ ys : List τ, ((toPs (ys.map e)).any fun y => PyData.eqv y (toP (e x))) = decide (x ∈ ys)
  | [] => by simp [toPs]
  | y :: ys => by
    rw [List.map_cons]
    show (PyData.eqv (toP (e y)) (toP (e x)) || (toPs (ys.map e)).any fun y => PyData.eqv y (toP (e x))) = _
    rw [h.eqv, toPs_any h x ys, Bool.eq_iff_iff, Bool.or_eq_true, decide_eq_true_iff, decide_eq_true_iff, decide_eq_true_iff, List.mem_cons]
    exact or_congr eq_comm Iff.rfl
theorem o_inL (hu : X.A.units + 64 < cLine) (h : EqEnc n e) {x : τ} {ys : List τ} (hn : n ≤ 60 := by decide) : Op2 X (compareOp .In) (e x) (eL e ys) (.bl (decide (x ∈ ys))) :=
  fun B F α H σ S Q v1 v2 R r1 r2 k pins s u1 u2 I q1 q2 => by
    obtain ⟨as, ra⟩ := Dp.reads I _ _ _ (dp_of R.sub _ _ r1 (h.ok x)) q1
    obtain ⟨bs, rb⟩ := Dp.reads I _ _ _ (dp_of R.sub _ _ r2 ((ee_L h).ok ys)) q2
    refine PySem.SeqAt.in_list_data (xs := toPs (ys.map e)) rb ra (plain_toPs _) (plain_toP _) ?_ ?_
    · have := h.dep x; have := Nat.min_le_right (PyData.depthAll (toPs (ys.map e))) (toP (e x)).depth; omega
    · rw [toPs_any h]; exact ⟨.bl _, H, I, rfl, k F α _ H R Stp.refl (.bl _)⟩
theorem o_ninL (hu : X.A.units + 64 < cLine) (h : EqEnc n e) {x : τ} {ys : List τ} (hn : n ≤ 60 := by decide) : Op2 X (compareOp .NotIn) (e x) (eL e ys) (.bl (!decide (x ∈ ys))) :=
  fun B F α H σ S Q v1 v2 R r1 r2 k pins s u1 u2 I q1 q2 => by
    obtain ⟨as, ra⟩ := Dp.reads I _ _ _ (dp_of R.sub _ _ r1 (h.ok x)) q1
    obtain ⟨bs, rb⟩ := Dp.reads I _ _ _ (dp_of R.sub _ _ r2 ((ee_L h).ok ys)) q2
    refine PySem.SeqAt.notIn_list_data (xs := toPs (ys.map e)) rb ra (plain_toPs _) (plain_toP _) ?_ ?_
    · have := h.dep x; have := Nat.min_le_right (PyData.depthAll (toPs (ys.map e))) (toP (e x)).depth; omega
    · rw [toPs_any h]; exact ⟨.bl _, H, I, rfl, k F α _ H R Stp.refl (.bl _)⟩
end
/-! ### a while by its function -/
def iterW {σ : Type} (c : σ → Bool) (f : σ → σ) : Nat → σ → σ
  | 0, s => s
  | n + 1, s => if c s = true then iterW c f n (f s) else s
theorem iterW_stop {σ : Type} {c : σ → Bool} {f : σ → σ} {s : σ} (h : c s = false) : ∀ n, iterW c f n s = s
  | 0 => rfl
  | n + 1 => by unfold iterW; rw [h, if_neg Bool.false_ne_true]
section
variable {X : Cx} {B : Bd} {S : Nz.S} {e : Expr} {pos : Pos} {K : Out → Prop} {body : List Stmt} {σ : Type}
theorem ex_whileF (stF : σ → Nz.S) (c : σ → Bool) (f : σ → σ) (s0 : σ) (n : Nat) (Q : σ → Prop) (μ : σ → Nat) (h0 : Le S (stF s0)) (q0 : Q s0) (hn : μ s0 ≤ n) (hm : ∀ s, Q s → c s = true → Q (f s) ∧ μ (f s) < μ s)
    (ht : ∀ s, Q s → Et X B e (stF s) (c s) (stF s)) (hs : ∀ s, Q s → c s = true → Exs X B body (stF s) (loopF (stF (f s)) True))
    (hd : Q (iterW c f n s0) → c (iterW c f n s0) = false → K (.nx (stF (iterW c f n s0)))) (hp : PassesOwn (model X.prog X.w) X.A X.env X.xe) : Ex X B (.While e body [] pos) S K :=
  fun F α H τ D R o => wS.of (ps_while hp pt_w pss_w) (by
    refine ⟨fun m σ' H' => ∃ s k F' α', m = μ s ∧ Q s ∧ μ s ≤ k ∧ iterW c f k s = iterW c f n s0 ∧ RelX X B F' α' H' σ' (stF s) ∧ Same F F', ⟨μ s0, s0, n, F, α, rfl, q0, hn, rfl, R.le h0, Same.refl _⟩, ?_⟩
    rintro m σ' H' ⟨s, k, F', α', rfl, q, hk, he, R', sm⟩
    refine ht s q F' α' H' σ' _ R' fun F1 α1 H1 R1 st1 => ?_
    have sall : Same F F1 := sm.trans st1.fro
    cases hc : c s with
    | true =>
      obtain ⟨q', l⟩ := hm s q hc
      rw [if_pos rfl]
      refine ⟨fun σ2 H2 => ∃ F2 α2, RelX X B F2 α2 H2 σ2 (stF (f s)) ∧ Same F F2, fun σ2 H2 ⟨F2, α2, R2, s2⟩ => ⟨μ (f s), l, f s, k - 1, F2, α2, rfl, q', by omega, ?_, R2, s2⟩, hs s q hc F1 α1 H1 σ' _ R1 ?_⟩
      · rw [← he]
        obtain ⟨k', rfl⟩ : ∃ k', k = k' + 1 := ⟨k - 1, by omega⟩
        show iterW c f k' (f s) = if c s = true then iterW c f k' (f s) else s
        rw [if_pos hc]
      · exact ⟨fun S4 F4 α4 H4 σ4 k4 R4 s4 => ⟨F4, α4, R4.le k4.1, sall.trans s4⟩, fun S4 F4 α4 H4 σ4 k4 R4 s4 => k4.elim, fun S4 F4 α4 H4 σ4 k4 R4 s4 => ⟨F4, α4, R4.le k4.1, sall.trans s4⟩, fun c S4 F4 α4 H4 σ4 v k4 R4 s4 r4 => k4.elim⟩
    | false =>
      rw [if_neg Bool.false_ne_true]
      rw [iterW_stop hc] at he
      exact o.nx _ F1 α1 H1 σ' (by rw [he]; exact hd (by rw [← he]; exact q) (by rw [← he]; exact hc)) R1 sall)
end
end Nz

namespace Nz
open PySem PySem.Spec PyProof.Rows L2
/-- the law's promise in the layer's own words -/
def spTrue (K : Frag) : Sp := fun vs H Q _ => ∃ (a : Addr) (ns : List Int), vs = [.ref a] ∧ SqL K H a (ns.map V.int) ∧ ns.length ≤ 63 ∧ ∀ H', Q (.bl true) H'
theorem spTrue_of {K : Frag} {mg : Mg} {mir : List Int → Bool} (hm : ∀ ns : List Int, ns.length ≤ 63 → mir ns = true) {vs : List V} {H : Hp} {Q : VK} {E : XK} (h : spTrue K vs H Q E) :
    SpOf K mg (fun cs L Kc => ∃ script : List Int, cs = [.fr (eL D.int script)] ∧ L = [] ∧ script.length ≤ 63 ∧ ∀ L', Kc (.fr (D.bl (mir script))) L') vs H Q E := by
  obtain ⟨a, ns, rfl, hs, hl, q⟩ := h
  refine ⟨H, fun _ => 0, [], [.fr (eL D.int ns)], fun _ => False, ⟨Same.refl _, Same.refl _, fun b o e => .inl e, fun b o e _ => e, List.nodup_nil, fun n m h => absurd h (by simp [names]), fun n o h => absurd h (by simp), .so (Rep.lst hs Reps.ints) .nil, fun n a h hn => absurd hn (by simp [names])⟩, ns, rfl, rfl, hl, fun L' F' α' v H' ρ' σ' R' r' => ?_⟩
  rw [hm ns hl] at r'
  cases (show Rep K mg F' (.bl true) v from r')
  exact q H'
end Nz

namespace Nz
open PySem PySem.Spec PyProof.Rows L2
/-! min, max, index of lists of whole numbers; gcd; None -/
def minL : List Int → Int
  | [] => 0
  | x :: xs => xs.foldl (fun a b => if b < a then b else a) x
def maxL : List Int → Int
  | [] => 0
  | x :: xs => xs.foldl (fun a b => if b > a then b else a) x
theorem foldmin : ∀ (xs : List Int) (a : Int), (xs.foldl (fun a b => if b < a then b else a) a = a ∨ xs.foldl (fun a b => if b < a then b else a) a ∈ xs) ∧ xs.foldl (fun a b => if b < a then b else a) a ≤ a ∧ ∀ y ∈ xs, xs.foldl (fun a b => if b < a then b else a) a ≤ y
  | [], a => ⟨.inl rfl, Int.le_refl _, fun y h => absurd h (by simp)⟩
  | x :: xs, a => by
    rw [List.foldl_cons]
    have ih := foldmin xs (if x < a then x else a)
    refine ⟨?_, ?_, fun y hy => ?_⟩
    · rcases ih.1 with h | h
      · rw [h]; split
        · exact .inr List.mem_cons_self
        · exact .inl rfl
      · exact .inr (List.mem_cons_of_mem _ h)
    · have := ih.2.1; split at this <;> omega
    · rcases List.mem_cons.mp hy with rfl | hy
      · have := ih.2.1; split at this <;> omega
      · exact ih.2.2 y hy
theorem foldmax : ∀ (xs : List Int) (a : Int), (xs.foldl (fun a b => if b > a then b else a) a = a ∨ xs.foldl (fun a b => if b > a then b else a) a ∈ xs) ∧ a ≤ xs.foldl (fun a b => if b > a then b else a) a ∧ ∀ y ∈ xs, y ≤ xs.foldl (fun a b => if b > a then b else a) a
  | [], a => ⟨.inl rfl, Int.le_refl _, fun y h => absurd h (by simp)⟩
  | x :: xs, a => by
    rw [List.foldl_cons]
    have ih := foldmax xs (if x > a then x else a)
    refine ⟨?_, ?_, fun y hy => ?_⟩
    · rcases ih.1 with h | h
      · rw [h]; split
        · exact .inr List.mem_cons_self
        · exact .inl rfl
      · exact .inr (List.mem_cons_of_mem _ h)
    · have := ih.2.1; split at this <;> omega
    · rcases List.mem_cons.mp hy with rfl | hy
      · have := ih.2.1; split at this <;> omega
      · exact ih.2.2 y hy
theorem minL_mem {ns : List Int} (h : ns ≠ []) : minL ns ∈ ns := by
  cases ns with
  | nil => exact absurd rfl h
  | cons x xs =>
    rcases (foldmin xs x).1 with e | e
    · show xs.foldl _ x ∈ _; rw [e]; exact List.mem_cons_self
    · exact List.mem_cons_of_mem _ e
theorem minL_le {ns : List Int} {y : Int} (h : y ∈ ns) : minL ns ≤ y := by
  cases ns with
  | nil => exact absurd h (by simp)
  | cons x xs =>
    rcases List.mem_cons.mp h with rfl | h
    · exact (foldmin xs y).2.1
    · exact (foldmin xs x).2.2 y h
theorem maxL_mem {ns : List Int} (h : ns ≠ []) : maxL ns ∈ ns := by
  cases ns with
  | nil => exact absurd rfl h
  | cons x xs =>
    rcases (foldmax xs x).1 with e | e
    · show xs.foldl _ x ∈ _; rw [e]; exact List.mem_cons_self
    · exact List.mem_cons_of_mem _ e
theorem maxL_le {ns : List Int} {y : Int} (h : y ∈ ns) : y ≤ maxL ns := by
  cases ns with
  | nil => exact absurd h (by simp)
  | cons x xs =>
    rcases List.mem_cons.mp h with rfl | h
    · exact (foldmax xs y).2.1
    · exact (foldmax xs x).2.2 y h
section
variable {X : Cx} {B : Bd} {S S1 S2 S3 : Nz.S} {tg a b c e : Expr} {es : List Expr} {pos p q p2 : Pos} {d : D} {ds : List D} {x : Str} {id : String} {τ : Type} {enc : τ → D}
theorem c_minL {ns : List Int} (hc : X.calm = true) (h : ns ≠ []) : Cb X (.builtin "min") [.lst (ns.map D.int)] (.int (minL ns)) := .of (cr_min hc) fun B F α H σ S Q vs R rx k => by
  cases rx with
  | cons r rr =>
    cases rr
    obtain ⟨a, us, rfl, hq, rs⟩ := R.asL (c := .fr (.lst (ns.map D.int))) rfl r
    refine ⟨a, ns, rfl, by rw [← Reps.ints_eq rs]; exact hq, List.length_pos_iff.mpr h, fun m h1 h2 => ?_⟩
    rw [show m = minL ns from Int.le_antisymm (h2 _ (minL_mem h)) (minL_le h1)]
    exact k F α _ H R Stp.refl (.int _)
theorem c_maxL {ns : List Int} (hc : X.calm = true) (h : ns ≠ []) : Cb X (.builtin "max") [.lst (ns.map D.int)] (.int (maxL ns)) := .of (cr_max hc) fun B F α H σ S Q vs R rx k => by
  cases rx with
  | cons r rr =>
    cases rr
    obtain ⟨a, us, rfl, hq, rs⟩ := R.asL (c := .fr (.lst (ns.map D.int))) rfl r
    refine ⟨a, ns, rfl, by rw [← Reps.ints_eq rs]; exact hq, List.length_pos_iff.mpr h, fun m h1 h2 => ?_⟩
    rw [show m = maxL ns from Int.le_antisymm (maxL_le h1) (h2 _ (maxL_mem h))]
    exact k F α _ H R Stp.refl (.int _)
/-- a module's name for a built-in function -/
theorem ev_callG (hc : Cb X (.builtin id) ds d) (ha : Ea X B (e :: es) S (ds.map Ce.fr) S1) (hg : Gl X x) (hm : X.mg x = some (.builtin id)) (h1 : Sub S.L S1.L := by exact Sub.refl) (hdb : (x == ("__debug__" : Str)) = false := by decide)
    (he : starEach (e :: es) X.env = (false, eval e X.env) :: starEach es X.env := by rfl) (hpl : (backTo pos (starEach es X.env)).any (·.1) = false := by rfl) : Ev X B (.Call (.Name x p) (e :: es) [] pos) S (.fr d) S1 :=
  fun F α H σ Q R k pins s I => wpAny_Call_Name_kw (ld_glob I hg hm (PyProof.Rows.callWith_builtin1 (thn (ha F α H σ (fun vs H1 => ∃ F1 α1, RelX X B F1 α1 H1 σ S1 ∧ Stp F α S.L F1 α1 ∧ Reps X.K X.mg F1 ds vs) R
    (fun F1 α1 vs H1 R1 st1 r1 => ⟨F1, α1, R1, st1, r1.fr⟩) pos pins s I) fun us s1 ⟨vs, H1, I1, rv, F1, α1, R1, st1, r1⟩ =>
      hc B F1 α1 H1 σ S1 Q vs R1 r1 (fun F' α' v H' R' st' r' => k F' α' v H' R' (st1.trans st' h1) r') pins s1 us I1 rv) he hpl) hdb)
theorem c_gcd {i j : Int} : Cb X (.builtin "math.gcd") [.int i, .int j] (.int ((Nat.gcd i.natAbs j.natAbs : Nat) : Int)) := .of cr_gcd fun B F α H σ S Q xs R rx k => by
  cases rx with | cons r rr => cases rr with | cons r2 rr => cases rr; cases r; cases r2; exact ⟨i, j, rfl, k F α _ H R Stp.refl (.int _)⟩
theorem o_divW {i j : Int} (h : CDivW i j) : Op2 X (binaryOp .FloorDiv) (.int i) (.int j) (.int (i / j)) := op2I op_fdivW h fun _ => .int _
theorem o_powN {i j r : Int} (h : CPow i j) (e : i ^ j.toNat = r) : Op2 X (binaryOp .Pow) (.int i) (.int j) (.int r) := by rw [← e]; exact op2I op_pow h fun _ => .int _
theorem o_mulW {i j : Int} (h : CMulW i j) : Op2 X (binaryOp .Mult) (.int i) (.int j) (.int (i * j)) := op2I op_mulW h fun _ => .int _
theorem mulW_of {i j : Int} (h : -(2 ^ 900) < i ∧ i < 2 ^ 900 ∧ -(2 ^ 900) < j ∧ j < 2 ^ 900) : CMulW i j :=
  wide_mul (a := 900) (b := 900) (by omega) (by omega) (by decide) (by decide) (by decide)
theorem divW_of {i j : Int} (h : 0 < j ∧ j < 2 ^ 900) : CDivW i j := wide_div (b := 900) h.1 (by omega) (by decide) (by decide)
/-! None -/
def isNonD : D → Bool
  | .non => true
  | _ => false
theorem o_isD : Op2 X (compareOp .Is) d .non (.bl (isNonD d)) := fun B F α H σ S Q x y R rx ry k pins s v u I rv ru =>
  op_isN pins s σ H x y v u Q I rv ru ⟨by cases ry; rfl, by
    have : decide (x = .non) = isNonD d := by cases rx <;> simp [isNonD]
    rw [this]; exact k F α _ H R Stp.refl (.bl _)⟩
theorem o_nisD : Op2 X (compareOp .IsNot) d .non (.bl (!isNonD d)) := fun B F α H σ S Q x y R rx ry k pins s v u I rv ru =>
  op_notN pins s σ H x y v u Q I rv ru ⟨by cases ry; rfl, by
    have : decide (x = .non) = isNonD d := by cases rx <;> simp [isNonD]
    rw [this]; exact k F α _ H R Stp.refl (.bl _)⟩
theorem isNon_O {y : Option τ} (h : ∀ z, isNonD (enc z) = false) : isNonD (eO enc y) = y.isNone := by
  cases y with
  | none => rfl
  | some z => exact h z
theorem o_isO {y : Option τ} (h : ∀ z, isNonD (enc z) = false) : Op2 X (compareOp .Is) (eO enc y) .non (.bl y.isNone) := by rw [← isNon_O h]; exact o_isD
theorem o_nisO {y : Option τ} (h : ∀ z, isNonD (enc z) = false) : Op2 X (compareOp .IsNot) (eO enc y) .non (.bl (!y.isNone)) := by rw [← isNon_O h]; exact o_nisD
theorem ev_unO [Inhabited τ] {y : Option τ} (h : y.isSome = true) (ha : Ev X B a S (.fr (eO enc y)) S1) : Ev X B a S (.fr (enc (y.getD default))) S1 := by
  cases y with
  | none => exact absurd h (by simp)
  | some z => exact ha
theorem ev_isiO {T t : String} {b : Bool} {xT : Str} {p2 : Pos} {y : Option τ} (ha : Ev X B a S (.fr (eO enc y)) S1) (ht : ∀ z, tyOf (enc z) = some t) (hk : kitB t T = some b) (hk2 : kitB "NoneType" T = some false) (hg : Gl X "isinstance") (hm : X.mg "isinstance" = none) (hgT : Gl X xT) (hmT : X.mg xT = none) (hv : bootBuiltins xT = some (.type T))
    (hv2 : bootBuiltins "isinstance" = some (.builtin "isinstance") := by decide +kernel)
    (hn : xT ≠ "__name__" := by decide) (hd : (xT == ("__debug__" : Str)) = false := by decide)
    (he : starEach (a :: [.Name xT p2]) X.env = (false, eval a X.env) :: starEach [.Name xT p2] X.env := by rfl) (he2 : starEach (.Name xT p2 :: []) X.env = (false, eval (.Name xT p2) X.env) :: starEach [] X.env := by rfl) (hpl : (backTo pos (starEach [.Name xT p2] X.env)).any (·.1) = false := by rfl) :
    Ev X B (.Call (.Name "isinstance" p) [a, .Name xT p2] [] pos) S (.fr (.bl (y.isSome && b))) S1 := by
  cases y with
  | none => exact ev_isi ha rfl hk2 hg hm hgT hmT hv hv2 hn hd he he2 hpl
  | some z => exact ev_isi (b := b) ha (ht z) hk hg hm hgT hmT hv hv2 hn hd he he2 hpl
/-- a, b = x, y with plain names -/
theorem ex_par (i j : Nat) {x y : Str} {px py pt : Pos} {kt k2 pt2} {d1 d2 : D} {K : Out → Prop} (hc : X.calm = true) (ha : Ea X B [a, b] S [.fr d1, .fr d2] S1) (k : K (.nx (setS (setS S1 i (.fr d1)) j (.fr d2)))) (hN : X.N.Nodup) (hi : X.N[i]? = some x) (hj : X.N[j]? = some y) (hij : i ≠ j)
    (hx : X.env.scope.names.lookup x = some .local) (hy : X.env.scope.names.lookup y = some .local)
    (hw : swappedStores [.Tuple [.Name x px, .Name y py] kt pt] (.Tuple [a, b] k2 pt2) X.env = pure (some [x, y]) := by rfl)
    (hs : swapsWithSole [.Tuple [.Name x px, .Name y py] kt pt] (.Tuple [a, b] k2 pt2) pos.line X.env = pure false := by rfl) :
    Ex X B (.Assign [.Tuple [.Name x px, .Name y py] kt pt] (.Tuple [a, b] k2 pt2) pos) S K :=
  fun F α H σ D R o => wS.of (ps_par hc hN hi hj hij hx hy pa_w hw hs) (ha F α H σ _ R fun F1 α1 vs H1 R1 st1 r1 => by
    have r := CRels.fr (ds := [d1, d2]) r1
    cases r with
    | cons q1 r =>
      cases r with
      | cons q2 r =>
        cases r
        exact ⟨_, _, rfl, o.nx _ F1 α1 H1 _ k ((R1.setS (c := .fr d1) q1).setS (c := .fr d2) q2) st1.fro⟩)
/-! xs.index(y) -/
theorem ev_index {ca : Ce} {o : Expr} {apos : Pos} {ns : List Int} {i : Int} (hi : i ∈ ns) (ho : Ev X B o S (.fr (eL D.int ns)) S1) (ha : Ev X B e S1 (.fr (.int i)) S1) (hS : Sub S.L S1.L := by exact Sub.refl)
    (hbase : attributeBase o "index" X.env (eval o X.env) = eval o X.env := by rfl)
    (hfew : ((backTo pos (starEach (e :: []) X.env)).all (fun x => !x.1) && (backToKw pos (keywordEach [] X.env)).all (fun x => x.1.isSome)
      && decide ((e :: ([] : List Expr)).length + ([] : List Keyword).length + (if ([] : List Keyword).isEmpty then 0 else 1) < 30)) = true := by rfl)
    (hline : (apos.endLine == pos.line) = true := by rfl) (hs : starEach (e :: []) X.env = (false, eval e X.env) :: starEach [] X.env := by rfl) (hplain : (backTo pos (starEach [] X.env)).any (·.1) = false := by rfl) :
    Ev X B (.Call (.Attribute o "index" apos) [e] [] pos) S (.fr (.int (ns.idxOf i : Nat))) S1 :=
  fun F α H σ Q R k => wE.of (pe_bm PySem.F.plainAttrs_list PySem.F.slot_list_index PySem.F.type_list_index mt_index pe_w (pa_cons pe_w pa_nil hs) hbase hfew hline hs hplain) (ho F α H σ _ R fun F1 α1 v1 H1 R1 st1 r1 => by
    obtain ⟨l, us, rfl, hq, rs⟩ := R1.asL (c := .fr (.lst (ns.map D.int))) rfl r1
    refine ⟨.inl ⟨rfl, us, hq⟩, ha F1 α1 H1 σ _ R1 fun F2 α2 v2 H2 R2 st2 r2 => ?_⟩
    obtain ⟨l2, us2, e2, hq2, rs2⟩ := R2.asL (c := .fr (.lst (ns.map D.int))) rfl (Rep.mono st2.fro r1)
    cases e2
    have e3 := Reps.ints_eq rs2
    rw [e3] at hq2
    cases r2
    have hlt := List.idxOf_lt_length_of_mem hi
    have hget : ns[ns.idxOf i]? = some i := by rw [List.getElem?_eq_getElem hlt, List.getElem_idxOf]
    refine ⟨l, ns.map V.int, .int i, ns.idxOf i, .int i, rfl, rfl, hq2, rfl, ?_, by rw [List.getElem?_map, hget]; rfl, ?_, ?_, k F2 α2 _ H2 R2 (st1.trans st2 hS) (.int _)⟩
    · rw [List.all_map, List.all_eq_true]; intro _ _; rfl
    · exact beq_self_eq_true i
    · intro m z' hm hz
      rw [List.getElem?_map] at hz
      cases hg : ns[m]? with
      | none => rw [hg] at hz; cases hz
      | some y =>
        rw [hg] at hz
        cases hz
        show (y == i) = false
        obtain ⟨hml, hmv⟩ := List.getElem?_eq_some_iff.mp hg
        have := List.not_of_lt_findIdx (p := (· == i)) (xs := ns) hm
        rw [← hmv]
        simpa using this)
end
end Nz

set_option maxRecDepth 100000
set_option maxHeartbeats 4000000
namespace My
open PySem PySem.Spec PyProof.Rows L2 Nz
def top (i : Nat) : Stmt := PySem.Challenge.pw_neverlate_k01_add_subtract_compare.main.body.getD i (.Pass ⟨0, 0, 0, 0⟩)

local macro_rules | `(tactic| walk_at "mulw") => `(tactic| first | exact mulW_of (by omega) | with_reducible assumption)
local macro_rules | `(tactic| walk_at "divw") => `(tactic| first | exact divW_of (by omega) | with_reducible assumption)
local macro_rules | `(tactic| walk_at "some") => `(tactic| first | assumption | (simp_all; done))
local macro_rules | `(tactic| walk_at "mem") => `(tactic| first | assumption | exact minL_mem (by walk_at "ne") | exact maxL_mem (by walk_at "ne"))
local macro_rules | `(tactic| walk_at "sd") => `(tactic| first | omega | (have hyy := seq_range (by assumption); omega) | (simp only [List.length_append, List.length_map, List.length_cons, List.length_nil, List.length_range, List.length_replicate] at *; omega) | decide | with_reducible assumption | exact Int.emod_nonneg _ (by omega) | exact Int.emod_lt_of_pos _ (by omega) | (constructor <;> omega) | (refine ⟨?_, ?_⟩ <;> omega))
local macro_rules | `(tactic| walk_at "mul") => `(tactic| first | exact Or.inl ⟨by omega, by omega⟩ | exact Or.inr ⟨by omega, by omega⟩ | with_reducible assumption)
local macro_rules | `(tactic| walk_at "ne") => `(tactic| first | assumption | (intro h; have := congrArg List.length h; simp only [List.length_map, List.length_range, List.length_nil, List.length_append, List.length_cons] at this; omega) | simp | (intro h; simp [h] at *; done) | (intro h; simp [h] at *; omega))
local macro_rules | `(tactic| walk_at "pre") => `(tactic| first | omega | with_reducible assumption | (refine ⟨?_, ?_⟩ <;> first | omega | with_reducible assumption) | (refine ⟨?_, ?_, ?_⟩ <;> first | omega | with_reducible assumption) | (refine ⟨?_, ?_, ?_, ?_⟩ <;> first | omega | with_reducible assumption))

abbrev s_make_ratio : Stmt := top 5
abbrev s_add_ratios : Stmt := top 6
abbrev s_subtract_ratios : Stmt := top 7
abbrev s_compare_ratios : Stmt := top 8
abbrev s_law_cell : Stmt := top 10
abbrev s_law_is_integer : Stmt := top 11
abbrev s_law_divisor : Stmt := top 12
abbrev s_law_is_ratio : Stmt := top 13
abbrev s_law_lowest : Stmt := top 14
abbrev s_law_ratio : Stmt := top 15
abbrev s_law_sign : Stmt := top 16
abbrev s_law : Stmt := top 17
structure TX (K : Frag) (mg : Mg) where
  n_abs : mg "abs" = none
  n_bool : mg "bool" = none
  n_int : mg "int" = none
  n_isinstance : mg "isinstance" = none
  n_len : mg "len" = none
  n_range : mg "range" = none
  n_tuple : mg "tuple" = none
  x_gcd : mg "gcd" = some (.builtin "math.gcd")
  a_make_ratio : Addr
  d_make_ratio : FuncData
  F_make_ratio : Fun K "make_ratio" "make_ratio" s_make_ratio a_make_ratio d_make_ratio
  k_make_ratio : PySem.W.keepIn K (.ref a_make_ratio) = true
  m_make_ratio : mg "make_ratio" = some (.ref a_make_ratio)
  b_make_ratio : Binds K d_make_ratio ["top", "bottom"] []
  a_add_ratios : Addr
  d_add_ratios : FuncData
  F_add_ratios : Fun K "add_ratios" "add_ratios" s_add_ratios a_add_ratios d_add_ratios
  k_add_ratios : PySem.W.keepIn K (.ref a_add_ratios) = true
  m_add_ratios : mg "add_ratios" = some (.ref a_add_ratios)
  b_add_ratios : Binds K d_add_ratios ["first", "second"] []
  a_subtract_ratios : Addr
  d_subtract_ratios : FuncData
  F_subtract_ratios : Fun K "subtract_ratios" "subtract_ratios" s_subtract_ratios a_subtract_ratios d_subtract_ratios
  k_subtract_ratios : PySem.W.keepIn K (.ref a_subtract_ratios) = true
  m_subtract_ratios : mg "subtract_ratios" = some (.ref a_subtract_ratios)
  b_subtract_ratios : Binds K d_subtract_ratios ["first", "second"] []
  a_compare_ratios : Addr
  d_compare_ratios : FuncData
  F_compare_ratios : Fun K "compare_ratios" "compare_ratios" s_compare_ratios a_compare_ratios d_compare_ratios
  k_compare_ratios : PySem.W.keepIn K (.ref a_compare_ratios) = true
  m_compare_ratios : mg "compare_ratios" = some (.ref a_compare_ratios)
  b_compare_ratios : Binds K d_compare_ratios ["first", "second"] []
  a_law_cell : Addr
  d_law_cell : FuncData
  F_law_cell : Fun K "_law_cell" "_law_cell" s_law_cell a_law_cell d_law_cell
  k_law_cell : PySem.W.keepIn K (.ref a_law_cell) = true
  m_law_cell : mg "_law_cell" = some (.ref a_law_cell)
  b_law_cell : Binds K d_law_cell ["script", "k"] []
  a_law_is_integer : Addr
  d_law_is_integer : FuncData
  F_law_is_integer : Fun K "_law_is_integer" "_law_is_integer" s_law_is_integer a_law_is_integer d_law_is_integer
  k_law_is_integer : PySem.W.keepIn K (.ref a_law_is_integer) = true
  m_law_is_integer : mg "_law_is_integer" = some (.ref a_law_is_integer)
  b_law_is_integer : Binds K d_law_is_integer ["actual"] []
  a_law_divisor : Addr
  d_law_divisor : FuncData
  F_law_divisor : Fun K "_law_divisor" "_law_divisor" s_law_divisor a_law_divisor d_law_divisor
  k_law_divisor : PySem.W.keepIn K (.ref a_law_divisor) = true
  m_law_divisor : mg "_law_divisor" = some (.ref a_law_divisor)
  b_law_divisor : Binds K d_law_divisor ["first", "second"] []
  a_law_is_ratio : Addr
  d_law_is_ratio : FuncData
  F_law_is_ratio : Fun K "_law_is_ratio" "_law_is_ratio" s_law_is_ratio a_law_is_ratio d_law_is_ratio
  k_law_is_ratio : PySem.W.keepIn K (.ref a_law_is_ratio) = true
  m_law_is_ratio : mg "_law_is_ratio" = some (.ref a_law_is_ratio)
  b_law_is_ratio : Binds K d_law_is_ratio ["actual"] []
  a_law_lowest : Addr
  d_law_lowest : FuncData
  F_law_lowest : Fun K "_law_lowest" "_law_lowest" s_law_lowest a_law_lowest d_law_lowest
  k_law_lowest : PySem.W.keepIn K (.ref a_law_lowest) = true
  m_law_lowest : mg "_law_lowest" = some (.ref a_law_lowest)
  b_law_lowest : Binds K d_law_lowest ["top", "bottom"] []
  a_law_ratio : Addr
  d_law_ratio : FuncData
  F_law_ratio : Fun K "_law_ratio" "_law_ratio" s_law_ratio a_law_ratio d_law_ratio
  k_law_ratio : PySem.W.keepIn K (.ref a_law_ratio) = true
  m_law_ratio : mg "_law_ratio" = some (.ref a_law_ratio)
  b_law_ratio : Binds K d_law_ratio ["top_cell", "bottom_cell"] []
  a_law_sign : Addr
  d_law_sign : FuncData
  F_law_sign : Fun K "_law_sign" "_law_sign" s_law_sign a_law_sign d_law_sign
  k_law_sign : PySem.W.keepIn K (.ref a_law_sign) = true
  m_law_sign : mg "_law_sign" = some (.ref a_law_sign)
  b_law_sign : Binds K d_law_sign ["number"] []
  a_law : Addr
  d_law : FuncData
  F_law : Fun K "law" "law" s_law a_law d_law
  k_law : PySem.W.keepIn K (.ref a_law) = true
  m_law : mg "law" = some (.ref a_law)
  b_law : Binds K d_law ["script"] []
  e_law : ∀ (s : Shared) (v : Value), BindsTo s d_law ⟨[v], []⟩ [("script", v)]
section
variable {P : Program} {w : World} {K : Frag} {mg : Mg} {base : Heap}
def m_make_ratio (top : Int) (bottom : Int) : Int × Int :=
  if (bottom = (0 : Int)) then default else let divisor2 : Int := ((Nat.gcd (top).natAbs (bottom).natAbs : Nat) : Int)
  let divisor2 : Int := (if (bottom < (0 : Int)) then (-divisor2) else divisor2)
  ((top / divisor2), (bottom / divisor2))
theorem mul_abs {a b : Int} {A B : Int} (h1 : -A < a) (h2 : a < A) (h3 : -B < b) (h4 : b < B) : -(A * B) < a * b ∧ a * b < A * B := by
  have h : (a * b).natAbs < A.natAbs * B.natAbs := by rw [Int.natAbs_mul]; exact Nat.mul_lt_mul_of_lt_of_lt (by omega) (by omega)
  have hA : (A.natAbs : Int) = A := by omega
  have hB : (B.natAbs : Int) = B := by omega
  have : ((A.natAbs * B.natAbs : Nat) : Int) = A * B := by rw [Int.natCast_mul, hA, hB]
  omega
theorem ratio_shape (top bottom : Int) (hb : 0 < bottom) : m_make_ratio top bottom = (top / ((Nat.gcd top.natAbs bottom.natAbs : Nat) : Int), bottom / ((Nat.gcd top.natAbs bottom.natAbs : Nat) : Int)) := by
  unfold m_make_ratio
  dsimp only
  rw [if_neg (by omega), if_neg (by omega)]
theorem ratio_bound (top bottom : Int) (hb : 0 < bottom) (E : Int) (h1 : -E < top) (h2 : top < E) (h3 : bottom < E) : -E < (m_make_ratio top bottom).1 ∧ (m_make_ratio top bottom).1 < E ∧ 0 < (m_make_ratio top bottom).2 ∧ (m_make_ratio top bottom).2 < E := by
  rw [ratio_shape top bottom hb]
  dsimp only
  have hg := Nat.gcd_pos_of_pos_right top.natAbs (show 0 < bottom.natAbs by omega)
  have hle := Nat.gcd_le_right top.natAbs (show 0 < bottom.natAbs by omega)
  have hd := Nat.gcd_dvd_right top.natAbs bottom.natAbs
  have t3 : 0 < bottom / ((Nat.gcd top.natAbs bottom.natAbs : Nat) : Int) := Int.ediv_pos_of_pos_of_dvd hb (by omega) (Int.ofNat_dvd_left.mpr hd)
  have t1 := Int.natAbs_ediv_le_natAbs top ((Nat.gcd top.natAbs bottom.natAbs : Nat) : Int)
  have t2 := Int.ediv_le_self ((Nat.gcd top.natAbs bottom.natAbs : Nat) : Int) (Int.le_of_lt hb)
  omega
theorem sc_make_ratio : FnScope ["top", "bottom", "divisor"] ["top", "bottom"] (defScope s_make_ratio) := ⟨rfl, rfl, rfl, by decide +kernel, rfl, by decide +kernel, by decide +kernel⟩
def sp_make_ratio : SpN := fun zcs zL zKc => ∃ top : Int, ∃ bottom : Int, zcs = [.fr (D.int top), .fr (D.int bottom)] ∧ zL = [] ∧ (-(2 ^ 890) < top ∧ top < 2 ^ 890 ∧ 0 < bottom ∧ bottom < 2 ^ 890) ∧ ∀ zL', zKc (.fr ((eT2 D.int D.int) (m_make_ratio top bottom))) zL'
theorem ok_make_ratio (T : TX K mg) : FnOk P w K mg base CX0 1 T.a_make_ratio T.d_make_ratio ["top", "bottom"] (SpOf K mg sp_make_ratio) := by
  refine T.F_make_ratio.okN sc_make_ratio (fun zcs zL zKc zh => by obtain ⟨top, bottom, rfl, _⟩ := zh; rfl) fun zcdv zA zout zst zH zE zB zcs zL zKc zhr zh => ?_
  obtain ⟨top, bottom, rfl, rfl, hpre, zk⟩ := zh
  have nd := sc_make_ratio.nd
  have hSL := sizeLine_eq
  show Exs _ _ _ ⟨[some (.fr (D.int top)), some (.fr (D.int bottom)), none], []⟩ _
  refine exs_cons (ex_ifP bd_d (et_cmp o_eqi (ev_var 1 rfl (.inl rfl) rfl) ev_int (nomark _)) (fun (zh1 : (bottom = (0 : Int))) => ?_) (fun (zh1 : ¬ (bottom = (0 : Int))) => ?_))
  · skip
    exfalso
    omega
  · skip
    refine exs_nil ?_
    show Exs _ _ _ ⟨[some (.fr (D.int top)), some (.fr (D.int bottom)), none], []⟩ _
    refine exs_cons (ex_set 2 (ev_callG (ds := [D.int top, D.int bottom]) c_gcd (ea_cons (ev_var 0 rfl (.inl rfl) rfl) (ea_cons (ev_var 1 rfl (.inl rfl) rfl) ea_nil)) (by exact rfl) T.x_gcd) ?_ nd rfl (.inl rfl))
    show Exs _ _ _ ⟨[some (.fr (D.int top)), some (.fr (D.int bottom)), some (.fr (D.int ((Nat.gcd (top).natAbs (bottom).natAbs : Nat) : Int)))], []⟩ _
    generalize zg_divisor : ((Nat.gcd (top).natAbs (bottom).natAbs : Nat) : Int) = divisor
    show Exs _ _ _ ⟨[some (.fr (D.int top)), some (.fr (D.int bottom)), some (.fr (D.int divisor))], []⟩ _
    have hg1 : 0 < divisor := by rw [← zg_divisor]; have := Nat.gcd_pos_of_pos_right top.natAbs (show 0 < bottom.natAbs by omega); omega
    have hg2 : divisor ≤ bottom := by rw [← zg_divisor]; have := Nat.gcd_le_right top.natAbs (show 0 < bottom.natAbs by omega); omega
    refine exs_cons (ex_join ⟨[some (.fr (D.int top)), some (.fr (D.int bottom)), some (.fr (D.int (if (bottom < (0 : Int)) then (-divisor) else divisor)))], []⟩ (ex_ifP bd_d (et_cmp o_lt (ev_var 1 rfl (.inl rfl) rfl) ev_int (nomark _)) (fun (zh2 : (bottom < (0 : Int))) => ?_) (fun (zh2 : ¬ (bottom < (0 : Int))) => ?_)) ?_)
    · skip
      refine exs_one (ex_set 2 (ev_neg (ev_var 2 rfl (.inl rfl) rfl)) ?_ nd rfl (.inl rfl))
      exact ⟨_, rfl, by simp only [if_pos zh2]; exact ⟨⟨.inr rfl, .inr rfl, .inr rfl, trivial⟩, rfl⟩⟩
    · skip
      refine exs_nil ?_
      exact ⟨_, rfl, by simp only [if_neg zh2]; exact ⟨⟨.inr rfl, .inr rfl, .inr rfl, trivial⟩, rfl⟩⟩
    · skip
      show Exs _ _ _ ⟨[some (.fr (D.int top)), some (.fr (D.int bottom)), some (.fr (D.int (if (bottom < (0 : Int)) then (-divisor) else divisor)))], []⟩ _
      generalize zg_divisor1 : (if (bottom < (0 : Int)) then (-divisor) else divisor) = divisor1
      show Exs _ _ _ ⟨[some (.fr (D.int top)), some (.fr (D.int bottom)), some (.fr (D.int divisor1))], []⟩ _
      have hd1 : 0 < divisor1 ∧ divisor1 ≤ bottom := by rw [← zg_divisor1, if_neg (by omega)]; exact ⟨hg1, hg2⟩
      show Exs _ _ _ ⟨[some (.fr (D.int top)), some (.fr (D.int bottom)), some (.fr (D.int divisor1))], []⟩ _
      refine exs_one (ex_ret (ev_tup (ds := [D.int (top / divisor1), D.int (bottom / divisor1)]) (ea_cons (ev_bin (o_divW (by walk_at "divw")) (ev_var 0 rfl (.inl rfl) rfl) (ev_var 2 rfl (.inl rfl) rfl)) (ea_cons (ev_bin (o_divW (by walk_at "divw")) (ev_var 1 rfl (.inl rfl) rfl) (ev_var 2 rfl (.inl rfl) rfl)) ea_nil)) (by simp only [List.length_cons, List.length_nil]; decide)) ?_)
      have efin : m_make_ratio top bottom = ((top / divisor1), (bottom / divisor1)) := by subst zg_divisor1; subst zg_divisor; simp only [m_make_ratio, not_true_eq_false, not_false_eq_true, ↓reduceIte, ↓if_neg zh1]
      rw [efin] at zk
      exact zk _
def m_add_ratios (first : Int × Int) (second : Int × Int) : Int × Int :=
  (m_make_ratio ((first.1 * second.2) + (second.1 * first.2)) (first.2 * second.2))
theorem sc_add_ratios : FnScope ["first", "second"] ["first", "second"] (defScope s_add_ratios) := ⟨rfl, rfl, rfl, by decide +kernel, rfl, by decide +kernel, by decide +kernel⟩
def sp_add_ratios : SpN := fun zcs zL zKc => ∃ first : Int × Int, ∃ second : Int × Int, zcs = [.fr ((eT2 D.int D.int) first), .fr ((eT2 D.int D.int) second)] ∧ zL = [] ∧ (-(2 ^ 440) < first.1 ∧ first.1 < 2 ^ 440 ∧ 0 < first.2 ∧ first.2 < 2 ^ 440 ∧ -(2 ^ 440) < second.1 ∧ second.1 < 2 ^ 440 ∧ 0 < second.2 ∧ second.2 < 2 ^ 440) ∧ ∀ zL', zKc (.fr ((eT2 D.int D.int) (m_add_ratios first second))) zL'
theorem ok_add_ratios (T : TX K mg) : FnOk P w K mg base CX0 2 T.a_add_ratios T.d_add_ratios ["first", "second"] (SpOf K mg sp_add_ratios) := by
  have O_make_ratio := ok_make_ratio (P := P) (w := w) (base := base) T
  refine T.F_add_ratios.okN sc_add_ratios (fun zcs zL zKc zh => by obtain ⟨first, second, rfl, _⟩ := zh; rfl) fun zcdv zA zout zst zH zE zB zcs zL zKc zhr zh => ?_
  obtain ⟨first, second, rfl, rfl, hpre, zk⟩ := zh
  have nd := sc_add_ratios.nd
  have hSL := sizeLine_eq
  have hm1 := mul_abs (a := first.1) (b := second.2) (A := 2 ^ 440) (B := 2 ^ 440) (by omega) (by omega) (by omega) (by omega)
  have hm2 := mul_abs (a := second.1) (b := first.2) (A := 2 ^ 440) (B := 2 ^ 440) (by omega) (by omega) (by omega) (by omega)
  have hm3 := mul_abs (a := first.2) (b := second.2) (A := 2 ^ 440) (B := 2 ^ 440) (by omega) (by omega) (by omega) (by omega)
  have hm4 := Int.mul_pos (a := first.2) (b := second.2) (by omega) (by omega)
  show Exs _ _ _ ⟨[some (.fr ((eT2 D.int D.int) first)), some (.fr ((eT2 D.int D.int) second))], []⟩ _
  refine exs_one (ex_ret (ev_call (ds := [D.int ((first.1 * second.2) + (second.1 * first.2)), D.int (first.2 * second.2)]) (ds' := []) (dvs := []) (dfs := []) O_make_ratio (zhr.mono (by decide)) T.m_make_ratio T.k_make_ratio T.b_make_ratio .nil (fun _ => .nil) (ea_cons (ev_bin o_add (ev_bin (o_mulW (by walk_at "mulw")) (ev_ix (.t (d := D.int first.1) rfl) (ev_var 0 rfl (.inl rfl) rfl) ev_int) (ev_ix (.t (d := D.int second.2) rfl) (ev_var 1 rfl (.inl rfl) rfl) ev_int)) (ev_bin (o_mulW (by walk_at "mulw")) (ev_ix (.t (d := D.int second.1) rfl) (ev_var 1 rfl (.inl rfl) rfl) ev_int) (ev_ix (.t (d := D.int first.2) rfl) (ev_var 0 rfl (.inl rfl) rfl) ev_int))) (ea_cons (ev_bin (o_mulW (by walk_at "mulw")) (ev_ix (.t (d := D.int first.2) rfl) (ev_var 0 rfl (.inl rfl) rfl) ev_int) (ev_ix (.t (d := D.int second.2) rfl) (ev_var 1 rfl (.inl rfl) rfl) ev_int)) ea_nil)) (fun _ zkk => ⟨((first.1 * second.2) + (second.1 * first.2)), (first.2 * second.2), rfl, rfl, (by walk_at "pre"), zkk⟩) (by exact rfl)) ?_)
  have efin : m_add_ratios first second = (m_make_ratio ((first.1 * second.2) + (second.1 * first.2)) (first.2 * second.2)) := by simp only [m_add_ratios, not_true_eq_false, not_false_eq_true, ↓reduceIte]
  rw [efin] at zk
  exact zk _
def m_subtract_ratios (first : Int × Int) (second : Int × Int) : Int × Int :=
  (m_make_ratio ((first.1 * second.2) - (second.1 * first.2)) (first.2 * second.2))
theorem sc_subtract_ratios : FnScope ["first", "second"] ["first", "second"] (defScope s_subtract_ratios) := ⟨rfl, rfl, rfl, by decide +kernel, rfl, by decide +kernel, by decide +kernel⟩
def sp_subtract_ratios : SpN := fun zcs zL zKc => ∃ first : Int × Int, ∃ second : Int × Int, zcs = [.fr ((eT2 D.int D.int) first), .fr ((eT2 D.int D.int) second)] ∧ zL = [] ∧ (-(2 ^ 440) < first.1 ∧ first.1 < 2 ^ 440 ∧ 0 < first.2 ∧ first.2 < 2 ^ 440 ∧ -(2 ^ 440) < second.1 ∧ second.1 < 2 ^ 440 ∧ 0 < second.2 ∧ second.2 < 2 ^ 440) ∧ ∀ zL', zKc (.fr ((eT2 D.int D.int) (m_subtract_ratios first second))) zL'
theorem ok_subtract_ratios (T : TX K mg) : FnOk P w K mg base CX0 2 T.a_subtract_ratios T.d_subtract_ratios ["first", "second"] (SpOf K mg sp_subtract_ratios) := by
  have O_make_ratio := ok_make_ratio (P := P) (w := w) (base := base) T
  refine T.F_subtract_ratios.okN sc_subtract_ratios (fun zcs zL zKc zh => by obtain ⟨first, second, rfl, _⟩ := zh; rfl) fun zcdv zA zout zst zH zE zB zcs zL zKc zhr zh => ?_
  obtain ⟨first, second, rfl, rfl, hpre, zk⟩ := zh
  have nd := sc_subtract_ratios.nd
  have hSL := sizeLine_eq
  have hm1 := mul_abs (a := first.1) (b := second.2) (A := 2 ^ 440) (B := 2 ^ 440) (by omega) (by omega) (by omega) (by omega)
  have hm2 := mul_abs (a := second.1) (b := first.2) (A := 2 ^ 440) (B := 2 ^ 440) (by omega) (by omega) (by omega) (by omega)
  have hm3 := mul_abs (a := first.2) (b := second.2) (A := 2 ^ 440) (B := 2 ^ 440) (by omega) (by omega) (by omega) (by omega)
  have hm4 := Int.mul_pos (a := first.2) (b := second.2) (by omega) (by omega)
  show Exs _ _ _ ⟨[some (.fr ((eT2 D.int D.int) first)), some (.fr ((eT2 D.int D.int) second))], []⟩ _
  refine exs_one (ex_ret (ev_call (ds := [D.int ((first.1 * second.2) - (second.1 * first.2)), D.int (first.2 * second.2)]) (ds' := []) (dvs := []) (dfs := []) O_make_ratio (zhr.mono (by decide)) T.m_make_ratio T.k_make_ratio T.b_make_ratio .nil (fun _ => .nil) (ea_cons (ev_bin o_sub (ev_bin (o_mulW (by walk_at "mulw")) (ev_ix (.t (d := D.int first.1) rfl) (ev_var 0 rfl (.inl rfl) rfl) ev_int) (ev_ix (.t (d := D.int second.2) rfl) (ev_var 1 rfl (.inl rfl) rfl) ev_int)) (ev_bin (o_mulW (by walk_at "mulw")) (ev_ix (.t (d := D.int second.1) rfl) (ev_var 1 rfl (.inl rfl) rfl) ev_int) (ev_ix (.t (d := D.int first.2) rfl) (ev_var 0 rfl (.inl rfl) rfl) ev_int))) (ea_cons (ev_bin (o_mulW (by walk_at "mulw")) (ev_ix (.t (d := D.int first.2) rfl) (ev_var 0 rfl (.inl rfl) rfl) ev_int) (ev_ix (.t (d := D.int second.2) rfl) (ev_var 1 rfl (.inl rfl) rfl) ev_int)) ea_nil)) (fun _ zkk => ⟨((first.1 * second.2) - (second.1 * first.2)), (first.2 * second.2), rfl, rfl, (by walk_at "pre"), zkk⟩) (by exact rfl)) ?_)
  have efin : m_subtract_ratios first second = (m_make_ratio ((first.1 * second.2) - (second.1 * first.2)) (first.2 * second.2)) := by simp only [m_subtract_ratios, not_true_eq_false, not_false_eq_true, ↓reduceIte]
  rw [efin] at zk
  exact zk _
def m_compare_ratios (first : Int × Int) (second : Int × Int) : Int :=
  if ((first.1 * second.2) < (second.1 * first.2)) then (-(1 : Int)) else if ((second.1 * first.2) < (first.1 * second.2)) then (1 : Int) else (0 : Int)
theorem sc_compare_ratios : FnScope ["first", "second", "left", "right"] ["first", "second"] (defScope s_compare_ratios) := ⟨rfl, rfl, rfl, by decide +kernel, rfl, by decide +kernel, by decide +kernel⟩
def sp_compare_ratios : SpN := fun zcs zL zKc => ∃ first : Int × Int, ∃ second : Int × Int, zcs = [.fr ((eT2 D.int D.int) first), .fr ((eT2 D.int D.int) second)] ∧ zL = [] ∧ (-(2 ^ 440) < first.1 ∧ first.1 < 2 ^ 440 ∧ 0 < first.2 ∧ first.2 < 2 ^ 440 ∧ -(2 ^ 440) < second.1 ∧ second.1 < 2 ^ 440 ∧ 0 < second.2 ∧ second.2 < 2 ^ 440) ∧ ∀ zL', zKc (.fr (D.int (m_compare_ratios first second))) zL'
theorem ok_compare_ratios (T : TX K mg) : FnOk P w K mg base CX0 1 T.a_compare_ratios T.d_compare_ratios ["first", "second"] (SpOf K mg sp_compare_ratios) := by
  refine T.F_compare_ratios.okN sc_compare_ratios (fun zcs zL zKc zh => by obtain ⟨first, second, rfl, _⟩ := zh; rfl) fun zcdv zA zout zst zH zE zB zcs zL zKc zhr zh => ?_
  obtain ⟨first, second, rfl, rfl, hpre, zk⟩ := zh
  have nd := sc_compare_ratios.nd
  have hSL := sizeLine_eq
  have hm1 := mul_abs (a := first.1) (b := second.2) (A := 2 ^ 440) (B := 2 ^ 440) (by omega) (by omega) (by omega) (by omega)
  have hm2 := mul_abs (a := second.1) (b := first.2) (A := 2 ^ 440) (B := 2 ^ 440) (by omega) (by omega) (by omega) (by omega)
  have hm3 := mul_abs (a := first.2) (b := second.2) (A := 2 ^ 440) (B := 2 ^ 440) (by omega) (by omega) (by omega) (by omega)
  have hm4 := Int.mul_pos (a := first.2) (b := second.2) (by omega) (by omega)
  show Exs _ _ _ ⟨[some (.fr ((eT2 D.int D.int) first)), some (.fr ((eT2 D.int D.int) second)), none, none], []⟩ _
  refine exs_cons (ex_set 2 (ev_bin (o_mulW (by walk_at "mulw")) (ev_ix (.t (d := D.int first.1) rfl) (ev_var 0 rfl (.inl rfl) rfl) ev_int) (ev_ix (.t (d := D.int second.2) rfl) (ev_var 1 rfl (.inl rfl) rfl) ev_int)) ?_ nd rfl (.inl rfl))
  show Exs _ _ _ ⟨[some (.fr ((eT2 D.int D.int) first)), some (.fr ((eT2 D.int D.int) second)), some (.fr (D.int (first.1 * second.2))), none], []⟩ _
  refine exs_cons (ex_set 3 (ev_bin (o_mulW (by walk_at "mulw")) (ev_ix (.t (d := D.int second.1) rfl) (ev_var 1 rfl (.inl rfl) rfl) ev_int) (ev_ix (.t (d := D.int first.2) rfl) (ev_var 0 rfl (.inl rfl) rfl) ev_int)) ?_ nd rfl (.inl rfl))
  show Exs _ _ _ ⟨[some (.fr ((eT2 D.int D.int) first)), some (.fr ((eT2 D.int D.int) second)), some (.fr (D.int (first.1 * second.2))), some (.fr (D.int (second.1 * first.2)))], []⟩ _
  refine exs_cons (ex_ifP bd_d (et_cmp o_lt (ev_var 2 rfl (.inl rfl) rfl) (ev_var 3 rfl (.inl rfl) rfl) (nomark _)) (fun (zh1 : ((first.1 * second.2) < (second.1 * first.2))) => ?_) (fun (zh1 : ¬ ((first.1 * second.2) < (second.1 * first.2))) => ?_))
  · skip
    refine exs_one (ex_ret (ev_neg ev_int) ?_)
    have efin : m_compare_ratios first second = (-(1 : Int)) := by simp only [m_compare_ratios, not_true_eq_false, not_false_eq_true, ↓reduceIte, ↓if_pos zh1]
    rw [efin] at zk
    exact zk _
  · skip
    refine exs_nil ?_
    show Exs _ _ _ ⟨[some (.fr ((eT2 D.int D.int) first)), some (.fr ((eT2 D.int D.int) second)), some (.fr (D.int (first.1 * second.2))), some (.fr (D.int (second.1 * first.2)))], []⟩ _
    refine exs_cons (ex_ifP bd_d (et_cmp o_gt (ev_var 2 rfl (.inl rfl) rfl) (ev_var 3 rfl (.inl rfl) rfl) (nomark _)) (fun (zh2 : ((second.1 * first.2) < (first.1 * second.2))) => ?_) (fun (zh2 : ¬ ((second.1 * first.2) < (first.1 * second.2))) => ?_))
    · skip
      refine exs_one (ex_ret ev_int ?_)
      have efin : m_compare_ratios first second = (1 : Int) := by simp only [m_compare_ratios, not_true_eq_false, not_false_eq_true, ↓reduceIte, ↓if_neg zh1, ↓if_pos zh2]
      rw [efin] at zk
      exact zk _
    · skip
      refine exs_nil ?_
      show Exs _ _ _ ⟨[some (.fr ((eT2 D.int D.int) first)), some (.fr ((eT2 D.int D.int) second)), some (.fr (D.int (first.1 * second.2))), some (.fr (D.int (second.1 * first.2)))], []⟩ _
      refine exs_one (ex_ret ev_int ?_)
      have efin : m_compare_ratios first second = (0 : Int) := by simp only [m_compare_ratios, not_true_eq_false, not_false_eq_true, ↓reduceIte, ↓if_neg zh1, ↓if_neg zh2]
      rw [efin] at zk
      exact zk _
def m_law_cell (script : List Int) (k_ : Int) : Int :=
  if (k_ < (script.length : Int)) then (script.getD (k_).toNat default) else (0 : Int)
theorem sc_law_cell : FnScope ["script", "k"] ["script", "k"] (defScope s_law_cell) := ⟨rfl, rfl, rfl, by decide +kernel, rfl, by decide +kernel, by decide +kernel⟩
def sp_law_cell : SpN := fun zcs zL zKc => ∃ script : List Int, ∃ k_ : Int, zcs = [.fr ((eL D.int) script), .fr (D.int k_)] ∧ zL = [] ∧ (0 ≤ k_) ∧ ∀ zL', zKc (.fr (D.int (m_law_cell script k_))) zL'
theorem ok_law_cell (T : TX K mg) : FnOk P w K mg base CX0 1 T.a_law_cell T.d_law_cell ["script", "k"] (SpOf K mg sp_law_cell) := by
  refine T.F_law_cell.okN sc_law_cell (fun zcs zL zKc zh => by obtain ⟨script, k_, rfl, _⟩ := zh; rfl) fun zcdv zA zout zst zH zE zB zcs zL zKc zhr zh => ?_
  obtain ⟨script, k_, rfl, rfl, hpre, zk⟩ := zh
  have nd := sc_law_cell.nd
  have hSL := sizeLine_eq
  show Exs _ _ _ ⟨[some (.fr ((eL D.int) script)), some (.fr (D.int k_))], []⟩ _
  refine exs_cons (ex_ifP bd_d (et_cmp o_lt (ev_var 1 rfl (.inl rfl) rfl) (ev_len (ln_L (xs := script) (enc := D.int) (by exact rfl)) (ev_var 0 rfl (.inl rfl) rfl) (by exact rfl) T.n_len) (nomark _)) (fun (zh1 : (k_ < (script.length : Int))) => ?_) (fun (zh1 : ¬ (k_ < (script.length : Int))) => ?_))
  · skip
    refine exs_one (ex_ret (ev_ix (ix_L (xs := script) (enc := D.int) (by exact rfl) (by walk_at "sd") (by walk_at "sd")) (ev_var 0 rfl (.inl rfl) rfl) (ev_var 1 rfl (.inl rfl) rfl)) ?_)
    have efin : m_law_cell script k_ = (script.getD (k_).toNat default) := by simp only [m_law_cell, not_true_eq_false, not_false_eq_true, ↓reduceIte, ↓if_pos zh1]
    rw [efin] at zk
    exact zk _
  · skip
    refine exs_nil ?_
    show Exs _ _ _ ⟨[some (.fr ((eL D.int) script)), some (.fr (D.int k_))], []⟩ _
    refine exs_one (ex_ret ev_int ?_)
    have efin : m_law_cell script k_ = (0 : Int) := by simp only [m_law_cell, not_true_eq_false, not_false_eq_true, ↓reduceIte, ↓if_neg zh1]
    rw [efin] at zk
    exact zk _
def m_law_is_integer (actual : Int) : Bool :=
  (true && (!false))
theorem sc_law_is_integer : FnScope ["actual"] ["actual"] (defScope s_law_is_integer) := ⟨rfl, rfl, rfl, by decide +kernel, rfl, by decide +kernel, by decide +kernel⟩
def sp_law_is_integer : SpN := fun zcs zL zKc => ∃ actual : Int, zcs = [.fr (D.int actual)] ∧ zL = [] ∧ (True) ∧ ∀ zL', zKc (.fr (D.bl (m_law_is_integer actual))) zL'
theorem ok_law_is_integer (T : TX K mg) : FnOk P w K mg base CX0 1 T.a_law_is_integer T.d_law_is_integer ["actual"] (SpOf K mg sp_law_is_integer) := by
  refine T.F_law_is_integer.okN sc_law_is_integer (fun zcs zL zKc zh => by obtain ⟨actual, rfl, _⟩ := zh; rfl) fun zcdv zA zout zst zH zE zB zcs zL zKc zhr zh => ?_
  obtain ⟨actual, rfl, rfl, hpre, zk⟩ := zh
  have nd := sc_law_is_integer.nd
  have hSL := sizeLine_eq
  show Exs _ _ _ ⟨[some (.fr (D.int actual))], []⟩ _
  refine exs_one (ex_ret (ev_andP Iff.rfl (ev_isi (T := "int") (b := true) (ev_var 0 rfl (.inl rfl) rfl) rfl (by decide) (by exact rfl) T.n_isinstance (by exact rfl) T.n_int (by decide +kernel)) (fun zhp => (ev_one (ev_not (ev_isi (T := "bool") (b := false) (ev_var 0 rfl (.inl rfl) rfl) rfl (by decide) (by exact rfl) T.n_isinstance (by exact rfl) T.n_bool (by decide +kernel)))))) ?_)
  have efin : m_law_is_integer actual = (true && (!false)) := by simp only [m_law_is_integer, not_true_eq_false, not_false_eq_true, ↓reduceIte]
  rw [efin] at zk
  exact zk _
def m_law_divisor_l0 (zs0 : Int × Int) (zy0 : Nat) : Except Int (Int × Int) :=
  if (zs0.2 = (0 : Int)) then .error zs0.1 else .ok (zs0.2, (zs0.1 % zs0.2))
def m_law_divisor (first : Int) (second : Int) : Int :=
  let first2 : Int := (if first < 0 then -first else first)
  let second2 : Int := (if second < 0 then -second else second)
  match (runE (m_law_divisor_l0) (List.range ((1000 : Int)).toNat) (first2, second2)) with | .error r => r | .ok zs0 => zs0.1
theorem euclid : ∀ (k x y : Nat) (ys : List Nat), y < 2 ^ k → 2 * k + 1 ≤ ys.length → runE m_law_divisor_l0 ys ((x : Int), (y : Int)) = .error ((Nat.gcd x y : Nat) : Int)
  | k, x, 0, ys, _, hl => by
    cases ys with
    | nil => simp at hl
    | cons z zs =>
      rw [runE_cons, Nat.gcd_zero_right]; rfl
  | 0, x, y + 1, ys, hy, _ => by simp at hy
  | k + 1, x, y + 1, ys, hy, hl => by
    have st : ∀ (a b : Nat) (z : Nat), b ≠ 0 → m_law_divisor_l0 ((a : Int), (b : Int)) z = .ok ((b : Int), ((a % b : Nat) : Int)) := fun a b z hb => by
      unfold m_law_divisor_l0
      rw [if_neg (by show ¬ (b : Int) = 0; omega), Int.natCast_emod]
    match ys, hl with
    | z :: [], hl => simp at hl
    | z :: z2 :: zs, hl =>
      rw [runE_cons, st x (y + 1) z (by omega)]
      show runE m_law_divisor_l0 (z2 :: zs) _ = _
      have hr := Nat.mod_lt x (show 0 < y + 1 by omega)
      have hg : Nat.gcd x (y + 1) = Nat.gcd (y + 1) (x % (y + 1)) := by rw [Nat.gcd_comm x, Nat.gcd_rec, Nat.gcd_comm]
      rw [hg]
      generalize x % (y + 1) = r at hr
      rw [runE_cons]
      by_cases h0 : r = 0
      · subst h0
        rw [Nat.gcd_zero_right]; rfl
      · rw [st (y + 1) r z2 h0]
        show runE m_law_divisor_l0 zs _ = _
        have hg2 : Nat.gcd (y + 1) r = Nat.gcd r ((y + 1) % r) := by rw [Nat.gcd_comm (y + 1), Nat.gcd_rec, Nat.gcd_comm]
        rw [hg2]
        refine euclid k r ((y + 1) % r) zs ?_ (by simp at hl; omega)
        have h1 := Nat.mod_lt (y + 1) (show 0 < r by omega)
        rw [Nat.pow_succ] at hy
        by_cases h2 : 2 * r ≤ y + 1
        · omega
        · have : (y + 1) % r = y + 1 - r := by rw [Nat.mod_eq_sub_mod (by omega), Nat.mod_eq_of_lt (by omega)]
          omega
theorem divisor_eq (a b : Int) (h1 : -(2 ^ 499) < b) (h2 : b < 2 ^ 499) : m_law_divisor a b = ((Nat.gcd a.natAbs b.natAbs : Nat) : Int) := by
  unfold m_law_divisor
  dsimp only
  have ea : (if a < 0 then -a else a) = (a.natAbs : Int) := by split <;> omega
  have eb : (if b < 0 then -b else b) = (b.natAbs : Int) := by split <;> omega
  rw [ea, eb, euclid 499 a.natAbs b.natAbs _ (by omega) (by rw [List.length_range]; decide)]
theorem divisor_bound (a b : Int) (h1 : 0 < b) (h2 : b < 2 ^ 499) : 0 < m_law_divisor a b ∧ m_law_divisor a b ≤ b := by
  rw [divisor_eq a b (by omega) h2]
  have hg := Nat.gcd_pos_of_pos_right a.natAbs (show 0 < b.natAbs by omega)
  have hle := Nat.gcd_le_right a.natAbs (show 0 < b.natAbs by omega)
  omega
theorem sc_law_divisor : FnScope ["first", "second", "k", "rest"] ["first", "second"] (defScope s_law_divisor) := ⟨rfl, rfl, rfl, by decide +kernel, rfl, by decide +kernel, by decide +kernel⟩
def sp_law_divisor : SpN := fun zcs zL zKc => ∃ first : Int, ∃ second : Int, zcs = [.fr (D.int first), .fr (D.int second)] ∧ zL = [] ∧ (True) ∧ ∀ zL', zKc (.fr (D.int (m_law_divisor first second))) zL'
theorem ok_law_divisor (T : TX K mg) : FnOk P w K mg base CX0 1 T.a_law_divisor T.d_law_divisor ["first", "second"] (SpOf K mg sp_law_divisor) := by
  refine T.F_law_divisor.okN sc_law_divisor (fun zcs zL zKc zh => by obtain ⟨first, second, rfl, _⟩ := zh; rfl) fun zcdv zA zout zst zH zE zB zcs zL zKc zhr zh => ?_
  obtain ⟨first, second, rfl, rfl, hpre, zk⟩ := zh
  have nd := sc_law_divisor.nd
  have hSL := sizeLine_eq
  show Exs _ _ _ ⟨[some (.fr (D.int first)), some (.fr (D.int second)), none, none], []⟩ _
  refine exs_cons (ex_set 0 (ev_callB (ds := [D.int first]) c_abs (ea_cons (ev_var 0 rfl (.inl rfl) rfl) ea_nil) (by exact rfl) T.n_abs (by decide +kernel)) ?_ nd rfl (.inl rfl))
  show Exs _ _ _ ⟨[some (.fr (D.int (if first < 0 then -first else first))), some (.fr (D.int second)), none, none], []⟩ _
  generalize zg_first1 : (if first < 0 then -first else first) = first1
  show Exs _ _ _ ⟨[some (.fr (D.int first1)), some (.fr (D.int second)), none, none], []⟩ _
  refine exs_cons (ex_set 1 (ev_callB (ds := [D.int second]) c_abs (ea_cons (ev_var 1 rfl (.inl rfl) rfl) ea_nil) (by exact rfl) T.n_abs (by decide +kernel)) ?_ nd rfl (.inl rfl))
  show Exs _ _ _ ⟨[some (.fr (D.int first1)), some (.fr (D.int (if second < 0 then -second else second))), none, none], []⟩ _
  generalize zg_second1 : (if second < 0 then -second else second) = second1
  show Exs _ _ _ ⟨[some (.fr (D.int first1)), some (.fr (D.int second1)), none, none], []⟩ _
  refine exs_cons (ex_forE (enc := (fun i : Nat => D.int ((0 : Int) + (i : Int)))) (fun (zs0 : Int × Int) => (⟨[some (.fr (D.int zs0.1)), some (.fr (D.int zs0.2)), none, none], []⟩ : Nz.S)) (m_law_divisor_l0) (first1, second1) (fun (zi0 : Nat) (zs0 : Int × Int) => 0 ≤ zs0.1 ∧ 0 ≤ zs0.2) (fun r c S' => c = .fr (D.int r) ∧ S'.L = []) (src_range1 (ea_cons ev_int ea_nil) (by exact rfl) T.n_range (by walk_at "sd") (by walk_at "sd")) ⟨⟨.inr rfl, .inr rfl, .inl rfl, .inl rfl, trivial⟩, rfl⟩ ⟨by subst zg_first1; dsimp only; split <;> omega, by subst zg_second1; dsimp only; split <;> omega⟩ ?_ ?_ ?_ PassesOwn.never rfl)
  · intro zi0 zy0 zs0 zhy0 zrun0 zq0
    skip
    refine ⟨⟨[some (.fr (D.int zs0.1)), some (.fr (D.int zs0.2)), some (.fr (D.int ((0 : Int) + (zy0 : Int)))), none], []⟩, (eg_name 2 nd rfl (.inl rfl)), ?_⟩
    refine exs_cons (ex_ifP bd_d (et_cmp o_eqi (ev_var 1 rfl (.inl rfl) rfl) ev_int (nomark _)) (fun (zh1 : (zs0.2 = (0 : Int))) => ?_) (fun (zh1 : ¬ (zs0.2 = (0 : Int))) => ?_))
    · skip
      refine exs_one (ex_ret (ev_var 0 rfl (.inl rfl) rfl) ?_)
      have est : (m_law_divisor_l0) zs0 zy0 = .error zs0.1 := by simp only [m_law_divisor_l0, not_true_eq_false, not_false_eq_true, ↓reduceIte, ↓if_pos zh1]
      exact ⟨_, est, rfl, rfl⟩
    · skip
      refine exs_nil ?_
      show Exs _ _ _ ⟨[some (.fr (D.int zs0.1)), some (.fr (D.int zs0.2)), some (.fr (D.int ((0 : Int) + (zy0 : Int)))), none], []⟩ _
      refine exs_cons (ex_set 3 (ev_bin (o_mod (by walk_at "sd")) (ev_var 0 rfl (.inl rfl) rfl) (ev_var 1 rfl (.inl rfl) rfl)) ?_ nd rfl (.inl rfl))
      show Exs _ _ _ ⟨[some (.fr (D.int zs0.1)), some (.fr (D.int zs0.2)), some (.fr (D.int ((0 : Int) + (zy0 : Int)))), some (.fr (D.int (zs0.1 % zs0.2)))], []⟩ _
      refine exs_cons (ex_set 0 (ev_var 1 rfl (.inl rfl) rfl) ?_ nd rfl (.inl rfl))
      show Exs _ _ _ ⟨[some (.fr (D.int zs0.2)), some (.fr (D.int zs0.2)), some (.fr (D.int ((0 : Int) + (zy0 : Int)))), some (.fr (D.int (zs0.1 % zs0.2)))], []⟩ _
      refine exs_one (ex_set 1 (ev_var 3 rfl (.inl rfl) rfl) ?_ nd rfl (.inl rfl))
      have est : (m_law_divisor_l0) zs0 zy0 = .ok (zs0.2, (zs0.1 % zs0.2)) := by simp only [m_law_divisor_l0, not_true_eq_false, not_false_eq_true, ↓reduceIte, ↓if_neg zh1]
      exact ⟨_, est, ⟨⟨.inr rfl, .inr rfl, .inl rfl, .inl rfl, trivial⟩, rfl⟩, ⟨by omega, Int.emod_nonneg _ (by omega)⟩⟩
  · rintro zr zc zS zrun0 ⟨rfl, zhL⟩
    skip
    have zh2 := zrun0
    have efin : m_law_divisor first second = zr := by subst zg_second1; subst zg_first1; simp only [m_law_divisor, not_true_eq_false, not_false_eq_true, ↓reduceIte, ↓zh2]
    rw [efin] at zk
    exact zk _
  · intro zs0 zrun0 zq0
    have zh3 := zrun0
    show Exs _ _ _ ⟨[some (.fr (D.int zs0.1)), some (.fr (D.int zs0.2)), none, none], []⟩ _
    refine exs_one (ex_ret (ev_var 0 rfl (.inl rfl) rfl) ?_)
    have efin : m_law_divisor first second = zs0.1 := by subst zg_second1; subst zg_first1; simp only [m_law_divisor, not_true_eq_false, not_false_eq_true, ↓reduceIte, ↓zh3]
    rw [efin] at zk
    exact zk _
def m_law_is_ratio (actual : Int × Int) : Bool :=
  if ((¬ (true = true)) ∨ (¬ ((2 : Int) = (2 : Int)))) then false else if ((¬ ((m_law_is_integer actual.1) = true)) ∨ (¬ ((m_law_is_integer actual.2) = true))) then false else ((decide ((1 : Int) ≤ actual.2)) && (decide ((m_law_divisor actual.1 actual.2) = (1 : Int))))
theorem sc_law_is_ratio : FnScope ["actual"] ["actual"] (defScope s_law_is_ratio) := ⟨rfl, rfl, rfl, by decide +kernel, rfl, by decide +kernel, by decide +kernel⟩
def sp_law_is_ratio : SpN := fun zcs zL zKc => ∃ actual : Int × Int, zcs = [.fr ((eT2 D.int D.int) actual)] ∧ zL = [] ∧ (True) ∧ ∀ zL', zKc (.fr (D.bl (m_law_is_ratio actual))) zL'
theorem ok_law_is_ratio (T : TX K mg) : FnOk P w K mg base CX0 2 T.a_law_is_ratio T.d_law_is_ratio ["actual"] (SpOf K mg sp_law_is_ratio) := by
  have O_law_divisor := ok_law_divisor (P := P) (w := w) (base := base) T
  have O_law_is_integer := ok_law_is_integer (P := P) (w := w) (base := base) T
  refine T.F_law_is_ratio.okN sc_law_is_ratio (fun zcs zL zKc zh => by obtain ⟨actual, rfl, _⟩ := zh; rfl) fun zcdv zA zout zst zH zE zB zcs zL zKc zhr zh => ?_
  obtain ⟨actual, rfl, rfl, hpre, zk⟩ := zh
  have nd := sc_law_is_ratio.nd
  have hSL := sizeLine_eq
  show Exs _ _ _ ⟨[some (.fr ((eT2 D.int D.int) actual))], []⟩ _
  refine exs_cons (ex_ifP (bd_or (bd_not Iff.rfl) bd_n) (Ew.et (ew_orP (bd_not Iff.rfl) (et_not (et_val (ev_isi (T := "tuple") (b := true) (ev_var 0 rfl (.inl rfl) rfl) rfl (by decide) (by exact rfl) T.n_isinstance (by exact rfl) T.n_tuple (by decide +kernel)))) (fun zhp => (ew_or1 (et_cmp o_nei (ev_len .t (ev_var 0 rfl (.inl rfl) rfl) (by exact rfl) T.n_len) ev_int (nomark _)))))) (fun (zh1 : ((¬ (true = true)) ∨ (¬ ((2 : Int) = (2 : Int))))) => ?_) (fun (zh1 : ¬ ((¬ (true = true)) ∨ (¬ ((2 : Int) = (2 : Int))))) => ?_))
  · skip
    refine exs_one (ex_ret ev_bl ?_)
    have efin : m_law_is_ratio actual = false := by simp only [m_law_is_ratio, not_true_eq_false, not_false_eq_true, ↓reduceIte, ↓if_pos zh1]
    rw [efin] at zk
    exact zk _
  · skip
    refine exs_nil ?_
    show Exs _ _ _ ⟨[some (.fr ((eT2 D.int D.int) actual))], []⟩ _
    refine exs_cons (ex_ifP (bd_or (bd_not Iff.rfl) (bd_not Iff.rfl)) (Ew.et (ew_orP (bd_not Iff.rfl) (et_not (et_val (ev_call (ds := [D.int actual.1]) (ds' := []) (dvs := []) (dfs := []) O_law_is_integer (zhr.mono (by decide)) T.m_law_is_integer T.k_law_is_integer T.b_law_is_integer .nil (fun _ => .nil) (ea_cons (ev_ix (.t (d := D.int actual.1) rfl) (ev_var 0 rfl (.inl rfl) rfl) ev_int) ea_nil) (fun _ zkk => ⟨actual.1, rfl, rfl, trivial, zkk⟩) (by exact rfl)))) (fun zhp => (ew_or1 (et_not (et_val (ev_call (ds := [D.int actual.2]) (ds' := []) (dvs := []) (dfs := []) O_law_is_integer (zhr.mono (by decide)) T.m_law_is_integer T.k_law_is_integer T.b_law_is_integer .nil (fun _ => .nil) (ea_cons (ev_ix (.t (d := D.int actual.2) rfl) (ev_var 0 rfl (.inl rfl) rfl) ev_int) ea_nil) (fun _ zkk => ⟨actual.2, rfl, rfl, trivial, zkk⟩) (by exact rfl)))))))) (fun (zh2 : ((¬ ((m_law_is_integer actual.1) = true)) ∨ (¬ ((m_law_is_integer actual.2) = true)))) => ?_) (fun (zh2 : ¬ ((¬ ((m_law_is_integer actual.1) = true)) ∨ (¬ ((m_law_is_integer actual.2) = true)))) => ?_))
    · skip
      refine exs_one (ex_ret ev_bl ?_)
      have efin : m_law_is_ratio actual = false := by simp only [m_law_is_ratio, not_true_eq_false, not_false_eq_true, ↓reduceIte, ↓if_neg zh1, ↓if_pos zh2]
      rw [efin] at zk
      exact zk _
    · skip
      refine exs_nil ?_
      show Exs _ _ _ ⟨[some (.fr ((eT2 D.int D.int) actual))], []⟩ _
      refine exs_one (ex_ret (ev_andP bd_d (ev_cmp o_ge (ev_ix (.t (d := D.int actual.2) rfl) (ev_var 0 rfl (.inl rfl) rfl) ev_int) ev_int (nomark _)) (fun zhp => (ev_one (ev_cmp o_eqi (ev_call (ds := [D.int actual.1, D.int actual.2]) (ds' := []) (dvs := []) (dfs := []) O_law_divisor (zhr.mono (by decide)) T.m_law_divisor T.k_law_divisor T.b_law_divisor .nil (fun _ => .nil) (ea_cons (ev_ix (.t (d := D.int actual.1) rfl) (ev_var 0 rfl (.inl rfl) rfl) ev_int) (ea_cons (ev_ix (.t (d := D.int actual.2) rfl) (ev_var 0 rfl (.inl rfl) rfl) ev_int) ea_nil)) (fun _ zkk => ⟨actual.1, actual.2, rfl, rfl, trivial, zkk⟩) (by exact rfl)) ev_int (nomark _))))) ?_)
      have efin : m_law_is_ratio actual = ((decide ((1 : Int) ≤ actual.2)) && (decide ((m_law_divisor actual.1 actual.2) = (1 : Int)))) := by simp only [m_law_is_ratio, not_true_eq_false, not_false_eq_true, ↓reduceIte, ↓if_neg zh1, ↓if_neg zh2]
      rw [efin] at zk
      exact zk _
def m_law_lowest (top : Int) (bottom : Int) : Int × Int :=
  let divisor1 : Int := (m_law_divisor top bottom)
  ((top / divisor1), (bottom / divisor1))
theorem lowest_eq (top bottom : Int) (h1 : 0 < bottom) (h2 : bottom < 2 ^ 499) : m_law_lowest top bottom = m_make_ratio top bottom := by
  unfold m_law_lowest
  dsimp only
  rw [divisor_eq top bottom (by omega) h2, ratio_shape top bottom h1]
theorem sc_law_lowest : FnScope ["top", "bottom", "divisor"] ["top", "bottom"] (defScope s_law_lowest) := ⟨rfl, rfl, rfl, by decide +kernel, rfl, by decide +kernel, by decide +kernel⟩
def sp_law_lowest : SpN := fun zcs zL zKc => ∃ top : Int, ∃ bottom : Int, zcs = [.fr (D.int top), .fr (D.int bottom)] ∧ zL = [] ∧ (0 < bottom ∧ bottom < 2 ^ 440) ∧ ∀ zL', zKc (.fr ((eT2 D.int D.int) (m_law_lowest top bottom))) zL'
theorem ok_law_lowest (T : TX K mg) : FnOk P w K mg base CX0 2 T.a_law_lowest T.d_law_lowest ["top", "bottom"] (SpOf K mg sp_law_lowest) := by
  have O_law_divisor := ok_law_divisor (P := P) (w := w) (base := base) T
  refine T.F_law_lowest.okN sc_law_lowest (fun zcs zL zKc zh => by obtain ⟨top, bottom, rfl, _⟩ := zh; rfl) fun zcdv zA zout zst zH zE zB zcs zL zKc zhr zh => ?_
  obtain ⟨top, bottom, rfl, rfl, hpre, zk⟩ := zh
  have nd := sc_law_lowest.nd
  have hSL := sizeLine_eq
  show Exs _ _ _ ⟨[some (.fr (D.int top)), some (.fr (D.int bottom)), none], []⟩ _
  refine exs_cons (ex_set 2 (ev_call (ds := [D.int top, D.int bottom]) (ds' := []) (dvs := []) (dfs := []) O_law_divisor (zhr.mono (by decide)) T.m_law_divisor T.k_law_divisor T.b_law_divisor .nil (fun _ => .nil) (ea_cons (ev_var 0 rfl (.inl rfl) rfl) (ea_cons (ev_var 1 rfl (.inl rfl) rfl) ea_nil)) (fun _ zkk => ⟨top, bottom, rfl, rfl, trivial, zkk⟩) (by exact rfl)) ?_ nd rfl (.inl rfl))
  show Exs _ _ _ ⟨[some (.fr (D.int top)), some (.fr (D.int bottom)), some (.fr (D.int (m_law_divisor top bottom)))], []⟩ _
  generalize zg_divisor : (m_law_divisor top bottom) = divisor
  show Exs _ _ _ ⟨[some (.fr (D.int top)), some (.fr (D.int bottom)), some (.fr (D.int divisor))], []⟩ _
  have hdv := divisor_bound top bottom (by omega)
  rw [zg_divisor] at hdv
  refine exs_one (ex_ret (ev_tup (ds := [D.int (top / divisor), D.int (bottom / divisor)]) (ea_cons (ev_bin (o_divW (by walk_at "divw")) (ev_var 0 rfl (.inl rfl) rfl) (ev_var 2 rfl (.inl rfl) rfl)) (ea_cons (ev_bin (o_divW (by walk_at "divw")) (ev_var 1 rfl (.inl rfl) rfl) (ev_var 2 rfl (.inl rfl) rfl)) ea_nil)) (by simp only [List.length_cons, List.length_nil]; decide)) ?_)
  have efin : m_law_lowest top bottom = ((top / divisor), (bottom / divisor)) := by subst zg_divisor; simp only [m_law_lowest, not_true_eq_false, not_false_eq_true, ↓reduceIte]
  rw [efin] at zk
  exact zk _
def m_law_ratio (top_cell : Int) (bottom_cell : Int) : Int × Int :=
  let top1 : Int := ((top_cell % ((2 : Int) * (1000000000000000000000000000000 : Int))) - (1000000000000000000000000000000 : Int))
  (m_law_lowest top1 ((1 : Int) + (bottom_cell % (1000000000000000000000000000000 : Int))))
theorem lratio_eq (x y : Int) : m_law_ratio x y = m_make_ratio (x % (2 * 1000000000000000000000000000000) - 1000000000000000000000000000000) (1 + y % 1000000000000000000000000000000) := lowest_eq _ _ (by omega) (by omega)
theorem lratio_bound (x y : Int) : -(2 ^ 101) < (m_law_ratio x y).1 ∧ (m_law_ratio x y).1 < 2 ^ 101 ∧ 0 < (m_law_ratio x y).2 ∧ (m_law_ratio x y).2 < 2 ^ 101 := by
  rw [lratio_eq]
  exact ratio_bound _ _ (by omega) (2 ^ 101) (by omega) (by omega) (by omega)
theorem sc_law_ratio : FnScope ["top_cell", "bottom_cell", "top"] ["top_cell", "bottom_cell"] (defScope s_law_ratio) := ⟨rfl, rfl, rfl, by decide +kernel, rfl, by decide +kernel, by decide +kernel⟩
def sp_law_ratio : SpN := fun zcs zL zKc => ∃ top_cell : Int, ∃ bottom_cell : Int, zcs = [.fr (D.int top_cell), .fr (D.int bottom_cell)] ∧ zL = [] ∧ (True) ∧ ∀ zL', zKc (.fr ((eT2 D.int D.int) (m_law_ratio top_cell bottom_cell))) zL'
theorem ok_law_ratio (T : TX K mg) : FnOk P w K mg base CX0 3 T.a_law_ratio T.d_law_ratio ["top_cell", "bottom_cell"] (SpOf K mg sp_law_ratio) := by
  have O_law_lowest := ok_law_lowest (P := P) (w := w) (base := base) T
  refine T.F_law_ratio.okN sc_law_ratio (fun zcs zL zKc zh => by obtain ⟨top_cell, bottom_cell, rfl, _⟩ := zh; rfl) fun zcdv zA zout zst zH zE zB zcs zL zKc zhr zh => ?_
  obtain ⟨top_cell, bottom_cell, rfl, rfl, hpre, zk⟩ := zh
  have nd := sc_law_ratio.nd
  have hSL := sizeLine_eq
  show Exs _ _ _ ⟨[some (.fr (D.int top_cell)), some (.fr (D.int bottom_cell)), none], []⟩ _
  refine exs_cons (ex_set 2 (ev_bin o_sub (ev_bin (o_mod (by walk_at "sd")) (ev_callTy (ds := [D.int top_cell]) c_int (ea_cons (ev_var 0 rfl (.inl rfl) rfl) ea_nil) (by exact rfl) T.n_int (by decide +kernel)) (ev_bin (o_mul (by walk_at "mul")) ev_int (ev_bin (o_powN (by unfold CPow; decide) (by decide : _ = (1000000000000000000000000000000 : Int))) ev_int ev_int))) (ev_bin (o_powN (by unfold CPow; decide) (by decide : _ = (1000000000000000000000000000000 : Int))) ev_int ev_int)) ?_ nd rfl (.inl rfl))
  show Exs _ _ _ ⟨[some (.fr (D.int top_cell)), some (.fr (D.int bottom_cell)), some (.fr (D.int ((top_cell % ((2 : Int) * (1000000000000000000000000000000 : Int))) - (1000000000000000000000000000000 : Int))))], []⟩ _
  generalize zg_top : ((top_cell % ((2 : Int) * (1000000000000000000000000000000 : Int))) - (1000000000000000000000000000000 : Int)) = top
  show Exs _ _ _ ⟨[some (.fr (D.int top_cell)), some (.fr (D.int bottom_cell)), some (.fr (D.int top))], []⟩ _
  refine exs_one (ex_ret (ev_call (ds := [D.int top, D.int ((1 : Int) + (bottom_cell % (1000000000000000000000000000000 : Int)))]) (ds' := []) (dvs := []) (dfs := []) O_law_lowest (zhr.mono (by decide)) T.m_law_lowest T.k_law_lowest T.b_law_lowest .nil (fun _ => .nil) (ea_cons (ev_var 2 rfl (.inl rfl) rfl) (ea_cons (ev_bin o_add ev_int (ev_bin (o_mod (by walk_at "sd")) (ev_callTy (ds := [D.int bottom_cell]) c_int (ea_cons (ev_var 1 rfl (.inl rfl) rfl) ea_nil) (by exact rfl) T.n_int (by decide +kernel)) (ev_bin (o_powN (by unfold CPow; decide) (by decide : _ = (1000000000000000000000000000000 : Int))) ev_int ev_int))) ea_nil)) (fun _ zkk => ⟨top, ((1 : Int) + (bottom_cell % (1000000000000000000000000000000 : Int))), rfl, rfl, (by walk_at "pre"), zkk⟩) (by exact rfl)) ?_)
  have efin : m_law_ratio top_cell bottom_cell = (m_law_lowest top ((1 : Int) + (bottom_cell % (1000000000000000000000000000000 : Int)))) := by subst zg_top; simp only [m_law_ratio, not_true_eq_false, not_false_eq_true, ↓reduceIte]
  rw [efin] at zk
  exact zk _
def m_law_sign (number : Int) : Int :=
  if (number < (0 : Int)) then (-(1 : Int)) else if ((0 : Int) < number) then (1 : Int) else (0 : Int)
theorem sc_law_sign : FnScope ["number"] ["number"] (defScope s_law_sign) := ⟨rfl, rfl, rfl, by decide +kernel, rfl, by decide +kernel, by decide +kernel⟩
def sp_law_sign : SpN := fun zcs zL zKc => ∃ number : Int, zcs = [.fr (D.int number)] ∧ zL = [] ∧ (True) ∧ ∀ zL', zKc (.fr (D.int (m_law_sign number))) zL'
theorem ok_law_sign (T : TX K mg) : FnOk P w K mg base CX0 1 T.a_law_sign T.d_law_sign ["number"] (SpOf K mg sp_law_sign) := by
  refine T.F_law_sign.okN sc_law_sign (fun zcs zL zKc zh => by obtain ⟨number, rfl, _⟩ := zh; rfl) fun zcdv zA zout zst zH zE zB zcs zL zKc zhr zh => ?_
  obtain ⟨number, rfl, rfl, hpre, zk⟩ := zh
  have nd := sc_law_sign.nd
  have hSL := sizeLine_eq
  show Exs _ _ _ ⟨[some (.fr (D.int number))], []⟩ _
  refine exs_cons (ex_ifP bd_d (et_cmp o_lt (ev_var 0 rfl (.inl rfl) rfl) ev_int (nomark _)) (fun (zh1 : (number < (0 : Int))) => ?_) (fun (zh1 : ¬ (number < (0 : Int))) => ?_))
  · skip
    refine exs_one (ex_ret (ev_neg ev_int) ?_)
    have efin : m_law_sign number = (-(1 : Int)) := by simp only [m_law_sign, not_true_eq_false, not_false_eq_true, ↓reduceIte, ↓if_pos zh1]
    rw [efin] at zk
    exact zk _
  · skip
    refine exs_nil ?_
    show Exs _ _ _ ⟨[some (.fr (D.int number))], []⟩ _
    refine exs_cons (ex_ifP bd_d (et_cmp o_gt (ev_var 0 rfl (.inl rfl) rfl) ev_int (nomark _)) (fun (zh2 : ((0 : Int) < number)) => ?_) (fun (zh2 : ¬ ((0 : Int) < number)) => ?_))
    · skip
      refine exs_one (ex_ret ev_int ?_)
      have efin : m_law_sign number = (1 : Int) := by simp only [m_law_sign, not_true_eq_false, not_false_eq_true, ↓reduceIte, ↓if_neg zh1, ↓if_pos zh2]
      rw [efin] at zk
      exact zk _
    · skip
      refine exs_nil ?_
      show Exs _ _ _ ⟨[some (.fr (D.int number))], []⟩ _
      refine exs_one (ex_ret ev_int ?_)
      have efin : m_law_sign number = (0 : Int) := by simp only [m_law_sign, not_true_eq_false, not_false_eq_true, ↓reduceIte, ↓if_neg zh1, ↓if_neg zh2]
      rw [efin] at zk
      exact zk _
def m_law (script : List Int) : Bool :=
  let first1 : Int × Int := (m_law_ratio (m_law_cell script (0 : Int)) (m_law_cell script (1 : Int)))
  let second3 : Int × Int := (m_law_ratio (m_law_cell script (2 : Int)) (m_law_cell script (3 : Int)))
  let choice1 : Int := ((m_law_cell script (4 : Int)) % (3 : Int))
  let second3 : Int × Int := (if (choice1 = (1 : Int)) then (first1.1, first1.2) else second3)
  let second3 : Int × Int := (if (choice1 = (2 : Int)) then (m_law_lowest ((first1.1 * second3.2) + (((m_law_cell script (2 : Int)) % (3 : Int)) - (1 : Int))) (first1.2 * second3.2)) else second3)
  let total1 : Int × Int := (m_add_ratios first1 second3)
  let rest1 : Int × Int := (m_subtract_ratios first1 second3)
  if ((¬ ((m_law_is_ratio total1) = true)) ∨ (¬ ((m_law_is_ratio rest1) = true))) then false else let plus1 : Int := ((first1.1 * second3.2) + (second3.1 * first1.2))
  let minus1 : Int := ((first1.1 * second3.2) - (second3.1 * first1.2))
  if ((¬ (((total1.1 * first1.2) * second3.2) = (plus1 * total1.2))) ∨ (¬ (((rest1.1 * first1.2) * second3.2) = (minus1 * rest1.2)))) then false else let back1 : Int × Int := (m_subtract_ratios total1 second3)
  if ((¬ ((m_law_is_ratio back1) = true)) ∨ (¬ (back1 = first1))) then false else let order1 : Int := (m_compare_ratios first1 second3)
  let turned1 : Int := (m_compare_ratios second3 first1)
  if ((¬ ((m_law_is_integer order1) = true)) ∨ (¬ ((m_law_is_integer turned1) = true))) then false else ((decide (order1 = (m_law_sign minus1))) && (decide (turned1 = (-(m_law_sign minus1)))))
theorem sc_law : FnScope ["script", "first", "second", "choice", "shift", "total", "rest", "plus", "minus", "back", "order", "turned"] ["script"] (defScope s_law) := ⟨rfl, rfl, rfl, by decide +kernel, rfl, by decide +kernel, by decide +kernel⟩
def sp_law : SpN := fun zcs zL zKc => ∃ script : List Int, zcs = [.fr ((eL D.int) script)] ∧ zL = [] ∧ (script.length ≤ 63) ∧ ∀ zL', zKc (.fr (D.bl (m_law script))) zL'
theorem ok_law (T : TX K mg) : FnOk P w K mg base CX0 4 T.a_law T.d_law ["script"] (SpOf K mg sp_law) := by
  have O_law_cell := ok_law_cell (P := P) (w := w) (base := base) T
  have O_law_is_integer := ok_law_is_integer (P := P) (w := w) (base := base) T
  have O_law_is_ratio := ok_law_is_ratio (P := P) (w := w) (base := base) T
  have O_law_lowest := ok_law_lowest (P := P) (w := w) (base := base) T
  have O_law_ratio := ok_law_ratio (P := P) (w := w) (base := base) T
  have O_law_sign := ok_law_sign (P := P) (w := w) (base := base) T
  have O_add_ratios := ok_add_ratios (P := P) (w := w) (base := base) T
  have O_compare_ratios := ok_compare_ratios (P := P) (w := w) (base := base) T
  have O_subtract_ratios := ok_subtract_ratios (P := P) (w := w) (base := base) T
  refine T.F_law.okN sc_law (fun zcs zL zKc zh => by obtain ⟨script, rfl, _⟩ := zh; rfl) fun zcdv zA zout zst zH zE zB zcs zL zKc zhr zh => ?_
  obtain ⟨script, rfl, rfl, hpre, zk⟩ := zh
  have nd := sc_law.nd
  have hSL := sizeLine_eq
  show Exs _ _ _ ⟨[some (.fr ((eL D.int) script)), none, none, none, none, none, none, none, none, none, none, none], []⟩ _
  refine exs_cons (ex_set 1 (ev_call (ds := [D.int (m_law_cell script (0 : Int)), D.int (m_law_cell script (1 : Int))]) (ds' := []) (dvs := []) (dfs := []) O_law_ratio (zhr.mono (by decide)) T.m_law_ratio T.k_law_ratio T.b_law_ratio .nil (fun _ => .nil) (ea_cons (ev_call (ds := [(eL D.int) script, D.int (0 : Int)]) (ds' := []) (dvs := []) (dfs := []) O_law_cell (zhr.mono (by decide)) T.m_law_cell T.k_law_cell T.b_law_cell .nil (fun _ => .nil) (ea_cons (ev_var 0 rfl (.inl rfl) rfl) (ea_cons ev_int ea_nil)) (fun _ zkk => ⟨script, (0 : Int), rfl, rfl, (by walk_at "pre"), zkk⟩) (by exact rfl)) (ea_cons (ev_call (ds := [(eL D.int) script, D.int (1 : Int)]) (ds' := []) (dvs := []) (dfs := []) O_law_cell (zhr.mono (by decide)) T.m_law_cell T.k_law_cell T.b_law_cell .nil (fun _ => .nil) (ea_cons (ev_var 0 rfl (.inl rfl) rfl) (ea_cons ev_int ea_nil)) (fun _ zkk => ⟨script, (1 : Int), rfl, rfl, (by walk_at "pre"), zkk⟩) (by exact rfl)) ea_nil)) (fun _ zkk => ⟨(m_law_cell script (0 : Int)), (m_law_cell script (1 : Int)), rfl, rfl, trivial, zkk⟩) (by exact rfl)) ?_ nd rfl (.inl rfl))
  show Exs _ _ _ ⟨[some (.fr ((eL D.int) script)), some (.fr ((eT2 D.int D.int) (m_law_ratio (m_law_cell script (0 : Int)) (m_law_cell script (1 : Int))))), none, none, none, none, none, none, none, none, none, none], []⟩ _
  generalize zg_first : (m_law_ratio (m_law_cell script (0 : Int)) (m_law_cell script (1 : Int))) = first
  show Exs _ _ _ ⟨[some (.fr ((eL D.int) script)), some (.fr ((eT2 D.int D.int) first)), none, none, none, none, none, none, none, none, none, none], []⟩ _
  have hf := lratio_bound (m_law_cell script (0 : Int)) (m_law_cell script (1 : Int))
  rw [zg_first] at hf
  refine exs_cons (ex_set 2 (ev_call (ds := [D.int (m_law_cell script (2 : Int)), D.int (m_law_cell script (3 : Int))]) (ds' := []) (dvs := []) (dfs := []) O_law_ratio (zhr.mono (by decide)) T.m_law_ratio T.k_law_ratio T.b_law_ratio .nil (fun _ => .nil) (ea_cons (ev_call (ds := [(eL D.int) script, D.int (2 : Int)]) (ds' := []) (dvs := []) (dfs := []) O_law_cell (zhr.mono (by decide)) T.m_law_cell T.k_law_cell T.b_law_cell .nil (fun _ => .nil) (ea_cons (ev_var 0 rfl (.inl rfl) rfl) (ea_cons ev_int ea_nil)) (fun _ zkk => ⟨script, (2 : Int), rfl, rfl, (by walk_at "pre"), zkk⟩) (by exact rfl)) (ea_cons (ev_call (ds := [(eL D.int) script, D.int (3 : Int)]) (ds' := []) (dvs := []) (dfs := []) O_law_cell (zhr.mono (by decide)) T.m_law_cell T.k_law_cell T.b_law_cell .nil (fun _ => .nil) (ea_cons (ev_var 0 rfl (.inl rfl) rfl) (ea_cons ev_int ea_nil)) (fun _ zkk => ⟨script, (3 : Int), rfl, rfl, (by walk_at "pre"), zkk⟩) (by exact rfl)) ea_nil)) (fun _ zkk => ⟨(m_law_cell script (2 : Int)), (m_law_cell script (3 : Int)), rfl, rfl, trivial, zkk⟩) (by exact rfl)) ?_ nd rfl (.inl rfl))
  show Exs _ _ _ ⟨[some (.fr ((eL D.int) script)), some (.fr ((eT2 D.int D.int) first)), some (.fr ((eT2 D.int D.int) (m_law_ratio (m_law_cell script (2 : Int)) (m_law_cell script (3 : Int))))), none, none, none, none, none, none, none, none, none], []⟩ _
  generalize zg_second : (m_law_ratio (m_law_cell script (2 : Int)) (m_law_cell script (3 : Int))) = second
  show Exs _ _ _ ⟨[some (.fr ((eL D.int) script)), some (.fr ((eT2 D.int D.int) first)), some (.fr ((eT2 D.int D.int) second)), none, none, none, none, none, none, none, none, none], []⟩ _
  have hs := lratio_bound (m_law_cell script (2 : Int)) (m_law_cell script (3 : Int))
  rw [zg_second] at hs
  refine exs_cons (ex_set 3 (ev_bin (o_mod (by walk_at "sd")) (ev_callTy (ds := [D.int (m_law_cell script (4 : Int))]) c_int (ea_cons (ev_call (ds := [(eL D.int) script, D.int (4 : Int)]) (ds' := []) (dvs := []) (dfs := []) O_law_cell (zhr.mono (by decide)) T.m_law_cell T.k_law_cell T.b_law_cell .nil (fun _ => .nil) (ea_cons (ev_var 0 rfl (.inl rfl) rfl) (ea_cons ev_int ea_nil)) (fun _ zkk => ⟨script, (4 : Int), rfl, rfl, (by walk_at "pre"), zkk⟩) (by exact rfl)) ea_nil) (by exact rfl) T.n_int (by decide +kernel)) ev_int) ?_ nd rfl (.inl rfl))
  show Exs _ _ _ ⟨[some (.fr ((eL D.int) script)), some (.fr ((eT2 D.int D.int) first)), some (.fr ((eT2 D.int D.int) second)), some (.fr (D.int ((m_law_cell script (4 : Int)) % (3 : Int)))), none, none, none, none, none, none, none, none], []⟩ _
  generalize zg_choice : ((m_law_cell script (4 : Int)) % (3 : Int)) = choice
  show Exs _ _ _ ⟨[some (.fr ((eL D.int) script)), some (.fr ((eT2 D.int D.int) first)), some (.fr ((eT2 D.int D.int) second)), some (.fr (D.int choice)), none, none, none, none, none, none, none, none], []⟩ _
  refine exs_cons (ex_join ⟨[some (.fr ((eL D.int) script)), some (.fr ((eT2 D.int D.int) first)), some (.fr ((eT2 D.int D.int) (if (choice = (1 : Int)) then (first.1, first.2) else second))), some (.fr (D.int choice)), none, none, none, none, none, none, none, none], []⟩ (ex_ifP bd_d (et_cmp o_eqi (ev_var 3 rfl (.inl rfl) rfl) ev_int (nomark _)) (fun (zh1 : (choice = (1 : Int))) => ?_) (fun (zh1 : ¬ (choice = (1 : Int))) => ?_)) ?_)
  · skip
    refine exs_one (ex_set 2 (ev_tup (ds := [D.int first.1, D.int first.2]) (ea_cons (ev_ix (.t (d := D.int first.1) rfl) (ev_var 1 rfl (.inl rfl) rfl) ev_int) (ea_cons (ev_ix (.t (d := D.int first.2) rfl) (ev_var 1 rfl (.inl rfl) rfl) ev_int) ea_nil)) (by simp only [List.length_cons, List.length_nil]; decide)) ?_ nd rfl (.inl rfl))
    exact ⟨_, rfl, by simp only [if_pos zh1]; exact ⟨⟨.inr rfl, .inr rfl, .inr rfl, .inr rfl, .inl rfl, .inl rfl, .inl rfl, .inl rfl, .inl rfl, .inl rfl, .inl rfl, .inl rfl, trivial⟩, rfl⟩⟩
  · skip
    refine exs_nil ?_
    exact ⟨_, rfl, by simp only [if_neg zh1]; exact ⟨⟨.inr rfl, .inr rfl, .inr rfl, .inr rfl, .inl rfl, .inl rfl, .inl rfl, .inl rfl, .inl rfl, .inl rfl, .inl rfl, .inl rfl, trivial⟩, rfl⟩⟩
  · skip
    show Exs _ _ _ ⟨[some (.fr ((eL D.int) script)), some (.fr ((eT2 D.int D.int) first)), some (.fr ((eT2 D.int D.int) (if (choice = (1 : Int)) then (first.1, first.2) else second))), some (.fr (D.int choice)), none, none, none, none, none, none, none, none], []⟩ _
    generalize zg_second1 : (if (choice = (1 : Int)) then (first.1, first.2) else second) = second1
    show Exs _ _ _ ⟨[some (.fr ((eL D.int) script)), some (.fr ((eT2 D.int D.int) first)), some (.fr ((eT2 D.int D.int) second1)), some (.fr (D.int choice)), none, none, none, none, none, none, none, none], []⟩ _
    have hs1 : -(2 ^ 101) < second1.1 ∧ second1.1 < 2 ^ 101 ∧ 0 < second1.2 ∧ second1.2 < 2 ^ 101 := by rw [← zg_second1]; split; exact hf; exact hs
    have hmA := mul_abs (a := first.1) (b := second1.2) (A := 2 ^ 101) (B := 2 ^ 101) (by omega) (by omega) (by omega) (by omega)
    have hmB := mul_abs (a := first.2) (b := second1.2) (A := 2 ^ 101) (B := 2 ^ 101) (by omega) (by omega) (by omega) (by omega)
    have hmC := Int.mul_pos (a := first.2) (b := second1.2) (by omega) (by omega)
    show Exs _ _ _ ⟨[some (.fr ((eL D.int) script)), some (.fr ((eT2 D.int D.int) first)), some (.fr ((eT2 D.int D.int) second1)), some (.fr (D.int choice)), none, none, none, none, none, none, none, none], []⟩ _
    refine exs_cons (ex_join ⟨[some (.fr ((eL D.int) script)), some (.fr ((eT2 D.int D.int) first)), some (.fr ((eT2 D.int D.int) (if (choice = (2 : Int)) then (m_law_lowest ((first.1 * second1.2) + (((m_law_cell script (2 : Int)) % (3 : Int)) - (1 : Int))) (first.2 * second1.2)) else second1))), some (.fr (D.int choice)), none, none, none, none, none, none, none, none], []⟩ (ex_ifP bd_d (et_cmp o_eqi (ev_var 3 rfl (.inl rfl) rfl) ev_int (nomark _)) (fun (zh2 : (choice = (2 : Int))) => ?_) (fun (zh2 : ¬ (choice = (2 : Int))) => ?_)) ?_)
    · skip
      refine exs_cons (ex_set 4 (ev_bin o_sub (ev_bin (o_mod (by walk_at "sd")) (ev_callTy (ds := [D.int (m_law_cell script (2 : Int))]) c_int (ea_cons (ev_call (ds := [(eL D.int) script, D.int (2 : Int)]) (ds' := []) (dvs := []) (dfs := []) O_law_cell (zhr.mono (by decide)) T.m_law_cell T.k_law_cell T.b_law_cell .nil (fun _ => .nil) (ea_cons (ev_var 0 rfl (.inl rfl) rfl) (ea_cons ev_int ea_nil)) (fun _ zkk => ⟨script, (2 : Int), rfl, rfl, (by walk_at "pre"), zkk⟩) (by exact rfl)) ea_nil) (by exact rfl) T.n_int (by decide +kernel)) ev_int) ev_int) ?_ nd rfl (.inl rfl))
      show Exs _ _ _ ⟨[some (.fr ((eL D.int) script)), some (.fr ((eT2 D.int D.int) first)), some (.fr ((eT2 D.int D.int) second1)), some (.fr (D.int choice)), some (.fr (D.int (((m_law_cell script (2 : Int)) % (3 : Int)) - (1 : Int)))), none, none, none, none, none, none, none], []⟩ _
      refine exs_one (ex_set 2 (ev_call (ds := [D.int ((first.1 * second1.2) + (((m_law_cell script (2 : Int)) % (3 : Int)) - (1 : Int))), D.int (first.2 * second1.2)]) (ds' := []) (dvs := []) (dfs := []) O_law_lowest (zhr.mono (by decide)) T.m_law_lowest T.k_law_lowest T.b_law_lowest .nil (fun _ => .nil) (ea_cons (ev_bin o_add (ev_bin (o_mulW (by walk_at "mulw")) (ev_ix (.t (d := D.int first.1) rfl) (ev_var 1 rfl (.inl rfl) rfl) ev_int) (ev_ix (.t (d := D.int second1.2) rfl) (ev_var 2 rfl (.inl rfl) rfl) ev_int)) (ev_var 4 rfl (.inl rfl) rfl)) (ea_cons (ev_bin (o_mulW (by walk_at "mulw")) (ev_ix (.t (d := D.int first.2) rfl) (ev_var 1 rfl (.inl rfl) rfl) ev_int) (ev_ix (.t (d := D.int second1.2) rfl) (ev_var 2 rfl (.inl rfl) rfl) ev_int)) ea_nil)) (fun _ zkk => ⟨((first.1 * second1.2) + (((m_law_cell script (2 : Int)) % (3 : Int)) - (1 : Int))), (first.2 * second1.2), rfl, rfl, (by walk_at "pre"), zkk⟩) (by exact rfl)) ?_ nd rfl (.inl rfl))
      exact ⟨_, rfl, by simp only [if_pos zh2]; exact ⟨⟨.inr rfl, .inr rfl, .inr rfl, .inr rfl, .inl rfl, .inl rfl, .inl rfl, .inl rfl, .inl rfl, .inl rfl, .inl rfl, .inl rfl, trivial⟩, rfl⟩⟩
    · skip
      refine exs_nil ?_
      exact ⟨_, rfl, by simp only [if_neg zh2]; exact ⟨⟨.inr rfl, .inr rfl, .inr rfl, .inr rfl, .inl rfl, .inl rfl, .inl rfl, .inl rfl, .inl rfl, .inl rfl, .inl rfl, .inl rfl, trivial⟩, rfl⟩⟩
    · skip
      show Exs _ _ _ ⟨[some (.fr ((eL D.int) script)), some (.fr ((eT2 D.int D.int) first)), some (.fr ((eT2 D.int D.int) (if (choice = (2 : Int)) then (m_law_lowest ((first.1 * second1.2) + (((m_law_cell script (2 : Int)) % (3 : Int)) - (1 : Int))) (first.2 * second1.2)) else second1))), some (.fr (D.int choice)), none, none, none, none, none, none, none, none], []⟩ _
      generalize zg_second2 : (if (choice = (2 : Int)) then (m_law_lowest ((first.1 * second1.2) + (((m_law_cell script (2 : Int)) % (3 : Int)) - (1 : Int))) (first.2 * second1.2)) else second1) = second2
      show Exs _ _ _ ⟨[some (.fr ((eL D.int) script)), some (.fr ((eT2 D.int D.int) first)), some (.fr ((eT2 D.int D.int) second2)), some (.fr (D.int choice)), none, none, none, none, none, none, none, none], []⟩ _
      have hs2 : -(2 ^ 203) < second2.1 ∧ second2.1 < 2 ^ 203 ∧ 0 < second2.2 ∧ second2.2 < 2 ^ 203 := by
        rw [← zg_second2]; split
        · rw [lowest_eq _ _ (by omega) (by omega)]; exact ratio_bound _ _ (by omega) (2 ^ 203) (by omega) (by omega) (by omega)
        · omega
      have hmD := mul_abs (a := first.1) (b := second2.2) (A := 2 ^ 101) (B := 2 ^ 203) (by omega) (by omega) (by omega) (by omega)
      have hmE := mul_abs (a := second2.1) (b := first.2) (A := 2 ^ 203) (B := 2 ^ 101) (by omega) (by omega) (by omega) (by omega)
      have hmF := mul_abs (a := first.2) (b := second2.2) (A := 2 ^ 101) (B := 2 ^ 203) (by omega) (by omega) (by omega) (by omega)
      have hmG := Int.mul_pos (a := first.2) (b := second2.2) (by omega) (by omega)
      have htb := ratio_bound (first.1 * second2.2 + second2.1 * first.2) (first.2 * second2.2) hmG (2 ^ 305) (by omega) (by omega) (by omega)
      have hrb := ratio_bound (first.1 * second2.2 - second2.1 * first.2) (first.2 * second2.2) hmG (2 ^ 305) (by omega) (by omega) (by omega)
      show Exs _ _ _ ⟨[some (.fr ((eL D.int) script)), some (.fr ((eT2 D.int D.int) first)), some (.fr ((eT2 D.int D.int) second2)), some (.fr (D.int choice)), none, none, none, none, none, none, none, none], []⟩ _
      refine exs_cons (ex_set 5 (ev_call (ds := [(eT2 D.int D.int) first, (eT2 D.int D.int) second2]) (ds' := []) (dvs := []) (dfs := []) O_add_ratios (zhr.mono (by decide)) T.m_add_ratios T.k_add_ratios T.b_add_ratios .nil (fun _ => .nil) (ea_cons (ev_var 1 rfl (.inl rfl) rfl) (ea_cons (ev_var 2 rfl (.inl rfl) rfl) ea_nil)) (fun _ zkk => ⟨first, second2, rfl, rfl, (by walk_at "pre"), zkk⟩) (by exact rfl)) ?_ nd rfl (.inl rfl))
      show Exs _ _ _ ⟨[some (.fr ((eL D.int) script)), some (.fr ((eT2 D.int D.int) first)), some (.fr ((eT2 D.int D.int) second2)), some (.fr (D.int choice)), none, some (.fr ((eT2 D.int D.int) (m_add_ratios first second2))), none, none, none, none, none, none], []⟩ _
      generalize zg_total : (m_add_ratios first second2) = total
      show Exs _ _ _ ⟨[some (.fr ((eL D.int) script)), some (.fr ((eT2 D.int D.int) first)), some (.fr ((eT2 D.int D.int) second2)), some (.fr (D.int choice)), none, some (.fr ((eT2 D.int D.int) total)), none, none, none, none, none, none], []⟩ _
      have htb2 : -(2 ^ 305) < total.1 ∧ total.1 < 2 ^ 305 ∧ 0 < total.2 ∧ total.2 < 2 ^ 305 := by rw [← zg_total]; exact htb
      have hmH := mul_abs (a := total.1) (b := first.2) (A := 2 ^ 305) (B := 2 ^ 101) (by omega) (by omega) (by omega) (by omega)
      have hmI := mul_abs (a := (total.1 * first.2)) (b := second2.2) (A := 2 ^ 406) (B := 2 ^ 203) (by omega) (by omega) (by omega) (by omega)
      refine exs_cons (ex_set 6 (ev_call (ds := [(eT2 D.int D.int) first, (eT2 D.int D.int) second2]) (ds' := []) (dvs := []) (dfs := []) O_subtract_ratios (zhr.mono (by decide)) T.m_subtract_ratios T.k_subtract_ratios T.b_subtract_ratios .nil (fun _ => .nil) (ea_cons (ev_var 1 rfl (.inl rfl) rfl) (ea_cons (ev_var 2 rfl (.inl rfl) rfl) ea_nil)) (fun _ zkk => ⟨first, second2, rfl, rfl, (by walk_at "pre"), zkk⟩) (by exact rfl)) ?_ nd rfl (.inl rfl))
      show Exs _ _ _ ⟨[some (.fr ((eL D.int) script)), some (.fr ((eT2 D.int D.int) first)), some (.fr ((eT2 D.int D.int) second2)), some (.fr (D.int choice)), none, some (.fr ((eT2 D.int D.int) total)), some (.fr ((eT2 D.int D.int) (m_subtract_ratios first second2))), none, none, none, none, none], []⟩ _
      generalize zg_rest : (m_subtract_ratios first second2) = rest
      show Exs _ _ _ ⟨[some (.fr ((eL D.int) script)), some (.fr ((eT2 D.int D.int) first)), some (.fr ((eT2 D.int D.int) second2)), some (.fr (D.int choice)), none, some (.fr ((eT2 D.int D.int) total)), some (.fr ((eT2 D.int D.int) rest)), none, none, none, none, none], []⟩ _
      have hrb2 : -(2 ^ 305) < rest.1 ∧ rest.1 < 2 ^ 305 ∧ 0 < rest.2 ∧ rest.2 < 2 ^ 305 := by rw [← zg_rest]; exact hrb
      have hmJ := mul_abs (a := rest.1) (b := first.2) (A := 2 ^ 305) (B := 2 ^ 101) (by omega) (by omega) (by omega) (by omega)
      refine exs_cons (ex_ifP (bd_or (bd_not Iff.rfl) (bd_not Iff.rfl)) (Ew.et (ew_orP (bd_not Iff.rfl) (et_not (et_val (ev_call (ds := [(eT2 D.int D.int) total]) (ds' := []) (dvs := []) (dfs := []) O_law_is_ratio (zhr.mono (by decide)) T.m_law_is_ratio T.k_law_is_ratio T.b_law_is_ratio .nil (fun _ => .nil) (ea_cons (ev_var 5 rfl (.inl rfl) rfl) ea_nil) (fun _ zkk => ⟨total, rfl, rfl, trivial, zkk⟩) (by exact rfl)))) (fun zhp => (ew_or1 (et_not (et_val (ev_call (ds := [(eT2 D.int D.int) rest]) (ds' := []) (dvs := []) (dfs := []) O_law_is_ratio (zhr.mono (by decide)) T.m_law_is_ratio T.k_law_is_ratio T.b_law_is_ratio .nil (fun _ => .nil) (ea_cons (ev_var 6 rfl (.inl rfl) rfl) ea_nil) (fun _ zkk => ⟨rest, rfl, rfl, trivial, zkk⟩) (by exact rfl)))))))) (fun (zh3 : ((¬ ((m_law_is_ratio total) = true)) ∨ (¬ ((m_law_is_ratio rest) = true)))) => ?_) (fun (zh3 : ¬ ((¬ ((m_law_is_ratio total) = true)) ∨ (¬ ((m_law_is_ratio rest) = true)))) => ?_))
      · skip
        refine exs_one (ex_ret ev_bl ?_)
        have efin : m_law script = false := by subst zg_rest; subst zg_total; subst zg_second2; subst zg_second1; subst zg_choice; subst zg_second; subst zg_first; simp only [m_law, not_true_eq_false, not_false_eq_true, ↓reduceIte, ↓if_pos zh3]
        rw [efin] at zk
        exact zk _
      · skip
        refine exs_nil ?_
        show Exs _ _ _ ⟨[some (.fr ((eL D.int) script)), some (.fr ((eT2 D.int D.int) first)), some (.fr ((eT2 D.int D.int) second2)), some (.fr (D.int choice)), none, some (.fr ((eT2 D.int D.int) total)), some (.fr ((eT2 D.int D.int) rest)), none, none, none, none, none], []⟩ _
        refine exs_cons (ex_set 7 (ev_bin o_add (ev_bin (o_mulW (by walk_at "mulw")) (ev_ix (.t (d := D.int first.1) rfl) (ev_var 1 rfl (.inl rfl) rfl) ev_int) (ev_ix (.t (d := D.int second2.2) rfl) (ev_var 2 rfl (.inl rfl) rfl) ev_int)) (ev_bin (o_mulW (by walk_at "mulw")) (ev_ix (.t (d := D.int second2.1) rfl) (ev_var 2 rfl (.inl rfl) rfl) ev_int) (ev_ix (.t (d := D.int first.2) rfl) (ev_var 1 rfl (.inl rfl) rfl) ev_int))) ?_ nd rfl (.inl rfl))
        show Exs _ _ _ ⟨[some (.fr ((eL D.int) script)), some (.fr ((eT2 D.int D.int) first)), some (.fr ((eT2 D.int D.int) second2)), some (.fr (D.int choice)), none, some (.fr ((eT2 D.int D.int) total)), some (.fr ((eT2 D.int D.int) rest)), some (.fr (D.int ((first.1 * second2.2) + (second2.1 * first.2)))), none, none, none, none], []⟩ _
        generalize zg_plus : ((first.1 * second2.2) + (second2.1 * first.2)) = plus
        show Exs _ _ _ ⟨[some (.fr ((eL D.int) script)), some (.fr ((eT2 D.int D.int) first)), some (.fr ((eT2 D.int D.int) second2)), some (.fr (D.int choice)), none, some (.fr ((eT2 D.int D.int) total)), some (.fr ((eT2 D.int D.int) rest)), some (.fr (D.int plus)), none, none, none, none], []⟩ _
        have hpl : -(2 ^ 306) < plus ∧ plus < 2 ^ 306 := by rw [← zg_plus]; omega
        refine exs_cons (ex_set 8 (ev_bin o_sub (ev_bin (o_mulW (by walk_at "mulw")) (ev_ix (.t (d := D.int first.1) rfl) (ev_var 1 rfl (.inl rfl) rfl) ev_int) (ev_ix (.t (d := D.int second2.2) rfl) (ev_var 2 rfl (.inl rfl) rfl) ev_int)) (ev_bin (o_mulW (by walk_at "mulw")) (ev_ix (.t (d := D.int second2.1) rfl) (ev_var 2 rfl (.inl rfl) rfl) ev_int) (ev_ix (.t (d := D.int first.2) rfl) (ev_var 1 rfl (.inl rfl) rfl) ev_int))) ?_ nd rfl (.inl rfl))
        show Exs _ _ _ ⟨[some (.fr ((eL D.int) script)), some (.fr ((eT2 D.int D.int) first)), some (.fr ((eT2 D.int D.int) second2)), some (.fr (D.int choice)), none, some (.fr ((eT2 D.int D.int) total)), some (.fr ((eT2 D.int D.int) rest)), some (.fr (D.int plus)), some (.fr (D.int ((first.1 * second2.2) - (second2.1 * first.2)))), none, none, none], []⟩ _
        generalize zg_minus : ((first.1 * second2.2) - (second2.1 * first.2)) = minus
        show Exs _ _ _ ⟨[some (.fr ((eL D.int) script)), some (.fr ((eT2 D.int D.int) first)), some (.fr ((eT2 D.int D.int) second2)), some (.fr (D.int choice)), none, some (.fr ((eT2 D.int D.int) total)), some (.fr ((eT2 D.int D.int) rest)), some (.fr (D.int plus)), some (.fr (D.int minus)), none, none, none], []⟩ _
        have hmn : -(2 ^ 306) < minus ∧ minus < 2 ^ 306 := by rw [← zg_minus]; omega
        refine exs_cons (ex_ifP (bd_or bd_n bd_n) (Ew.et (ew_orP bd_n (et_cmp o_nei (ev_bin (o_mulW (by walk_at "mulw")) (ev_bin (o_mulW (by walk_at "mulw")) (ev_ix (.t (d := D.int total.1) rfl) (ev_var 5 rfl (.inl rfl) rfl) ev_int) (ev_ix (.t (d := D.int first.2) rfl) (ev_var 1 rfl (.inl rfl) rfl) ev_int)) (ev_ix (.t (d := D.int second2.2) rfl) (ev_var 2 rfl (.inl rfl) rfl) ev_int)) (ev_bin (o_mulW (by walk_at "mulw")) (ev_var 7 rfl (.inl rfl) rfl) (ev_ix (.t (d := D.int total.2) rfl) (ev_var 5 rfl (.inl rfl) rfl) ev_int)) (nomark _)) (fun zhp => (ew_or1 (et_cmp o_nei (ev_bin (o_mulW (by walk_at "mulw")) (ev_bin (o_mulW (by walk_at "mulw")) (ev_ix (.t (d := D.int rest.1) rfl) (ev_var 6 rfl (.inl rfl) rfl) ev_int) (ev_ix (.t (d := D.int first.2) rfl) (ev_var 1 rfl (.inl rfl) rfl) ev_int)) (ev_ix (.t (d := D.int second2.2) rfl) (ev_var 2 rfl (.inl rfl) rfl) ev_int)) (ev_bin (o_mulW (by walk_at "mulw")) (ev_var 8 rfl (.inl rfl) rfl) (ev_ix (.t (d := D.int rest.2) rfl) (ev_var 6 rfl (.inl rfl) rfl) ev_int)) (nomark _)))))) (fun (zh4 : ((¬ (((total.1 * first.2) * second2.2) = (plus * total.2))) ∨ (¬ (((rest.1 * first.2) * second2.2) = (minus * rest.2))))) => ?_) (fun (zh4 : ¬ ((¬ (((total.1 * first.2) * second2.2) = (plus * total.2))) ∨ (¬ (((rest.1 * first.2) * second2.2) = (minus * rest.2))))) => ?_))
        · skip
          refine exs_one (ex_ret ev_bl ?_)
          have efin : m_law script = false := by subst zg_minus; subst zg_plus; subst zg_rest; subst zg_total; subst zg_second2; subst zg_second1; subst zg_choice; subst zg_second; subst zg_first; simp only [m_law, not_true_eq_false, not_false_eq_true, ↓reduceIte, ↓if_neg zh3, ↓if_pos zh4]
          rw [efin] at zk
          exact zk _
        · skip
          refine exs_nil ?_
          show Exs _ _ _ ⟨[some (.fr ((eL D.int) script)), some (.fr ((eT2 D.int D.int) first)), some (.fr ((eT2 D.int D.int) second2)), some (.fr (D.int choice)), none, some (.fr ((eT2 D.int D.int) total)), some (.fr ((eT2 D.int D.int) rest)), some (.fr (D.int plus)), some (.fr (D.int minus)), none, none, none], []⟩ _
          refine exs_cons (ex_set 9 (ev_call (ds := [(eT2 D.int D.int) total, (eT2 D.int D.int) second2]) (ds' := []) (dvs := []) (dfs := []) O_subtract_ratios (zhr.mono (by decide)) T.m_subtract_ratios T.k_subtract_ratios T.b_subtract_ratios .nil (fun _ => .nil) (ea_cons (ev_var 5 rfl (.inl rfl) rfl) (ea_cons (ev_var 2 rfl (.inl rfl) rfl) ea_nil)) (fun _ zkk => ⟨total, second2, rfl, rfl, (by walk_at "pre"), zkk⟩) (by exact rfl)) ?_ nd rfl (.inl rfl))
          show Exs _ _ _ ⟨[some (.fr ((eL D.int) script)), some (.fr ((eT2 D.int D.int) first)), some (.fr ((eT2 D.int D.int) second2)), some (.fr (D.int choice)), none, some (.fr ((eT2 D.int D.int) total)), some (.fr ((eT2 D.int D.int) rest)), some (.fr (D.int plus)), some (.fr (D.int minus)), some (.fr ((eT2 D.int D.int) (m_subtract_ratios total second2))), none, none], []⟩ _
          generalize zg_back : (m_subtract_ratios total second2) = back
          show Exs _ _ _ ⟨[some (.fr ((eL D.int) script)), some (.fr ((eT2 D.int D.int) first)), some (.fr ((eT2 D.int D.int) second2)), some (.fr (D.int choice)), none, some (.fr ((eT2 D.int D.int) total)), some (.fr ((eT2 D.int D.int) rest)), some (.fr (D.int plus)), some (.fr (D.int minus)), some (.fr ((eT2 D.int D.int) back)), none, none], []⟩ _
          refine exs_cons (ex_ifP (bd_or (bd_not Iff.rfl) bd_n) (Ew.et (ew_orP (bd_not Iff.rfl) (et_not (et_val (ev_call (ds := [(eT2 D.int D.int) back]) (ds' := []) (dvs := []) (dfs := []) O_law_is_ratio (zhr.mono (by decide)) T.m_law_is_ratio T.k_law_is_ratio T.b_law_is_ratio .nil (fun _ => .nil) (ea_cons (ev_var 9 rfl (.inl rfl) rfl) ea_nil) (fun _ zkk => ⟨back, rfl, rfl, trivial, zkk⟩) (by exact rfl)))) (fun zhp => (ew_or1 (et_cmp (o_neD (e := (eT2 D.int D.int)) (x := back) (y := first) zhr.units (ee_T2 ee_int ee_int)) (ev_var 9 rfl (.inl rfl) rfl) (ev_var 1 rfl (.inl rfl) rfl) (nomark _)))))) (fun (zh5 : ((¬ ((m_law_is_ratio back) = true)) ∨ (¬ (back = first)))) => ?_) (fun (zh5 : ¬ ((¬ ((m_law_is_ratio back) = true)) ∨ (¬ (back = first)))) => ?_))
          · skip
            refine exs_one (ex_ret ev_bl ?_)
            have efin : m_law script = false := by subst zg_back; subst zg_minus; subst zg_plus; subst zg_rest; subst zg_total; subst zg_second2; subst zg_second1; subst zg_choice; subst zg_second; subst zg_first; simp only [m_law, not_true_eq_false, not_false_eq_true, ↓reduceIte, ↓if_neg zh3, ↓if_neg zh4, ↓if_pos zh5]
            rw [efin] at zk
            exact zk _
          · skip
            refine exs_nil ?_
            show Exs _ _ _ ⟨[some (.fr ((eL D.int) script)), some (.fr ((eT2 D.int D.int) first)), some (.fr ((eT2 D.int D.int) second2)), some (.fr (D.int choice)), none, some (.fr ((eT2 D.int D.int) total)), some (.fr ((eT2 D.int D.int) rest)), some (.fr (D.int plus)), some (.fr (D.int minus)), some (.fr ((eT2 D.int D.int) back)), none, none], []⟩ _
            refine exs_cons (ex_set 10 (ev_call (ds := [(eT2 D.int D.int) first, (eT2 D.int D.int) second2]) (ds' := []) (dvs := []) (dfs := []) O_compare_ratios (zhr.mono (by decide)) T.m_compare_ratios T.k_compare_ratios T.b_compare_ratios .nil (fun _ => .nil) (ea_cons (ev_var 1 rfl (.inl rfl) rfl) (ea_cons (ev_var 2 rfl (.inl rfl) rfl) ea_nil)) (fun _ zkk => ⟨first, second2, rfl, rfl, (by walk_at "pre"), zkk⟩) (by exact rfl)) ?_ nd rfl (.inl rfl))
            show Exs _ _ _ ⟨[some (.fr ((eL D.int) script)), some (.fr ((eT2 D.int D.int) first)), some (.fr ((eT2 D.int D.int) second2)), some (.fr (D.int choice)), none, some (.fr ((eT2 D.int D.int) total)), some (.fr ((eT2 D.int D.int) rest)), some (.fr (D.int plus)), some (.fr (D.int minus)), some (.fr ((eT2 D.int D.int) back)), some (.fr (D.int (m_compare_ratios first second2))), none], []⟩ _
            generalize zg_order : (m_compare_ratios first second2) = order
            show Exs _ _ _ ⟨[some (.fr ((eL D.int) script)), some (.fr ((eT2 D.int D.int) first)), some (.fr ((eT2 D.int D.int) second2)), some (.fr (D.int choice)), none, some (.fr ((eT2 D.int D.int) total)), some (.fr ((eT2 D.int D.int) rest)), some (.fr (D.int plus)), some (.fr (D.int minus)), some (.fr ((eT2 D.int D.int) back)), some (.fr (D.int order)), none], []⟩ _
            refine exs_cons (ex_set 11 (ev_call (ds := [(eT2 D.int D.int) second2, (eT2 D.int D.int) first]) (ds' := []) (dvs := []) (dfs := []) O_compare_ratios (zhr.mono (by decide)) T.m_compare_ratios T.k_compare_ratios T.b_compare_ratios .nil (fun _ => .nil) (ea_cons (ev_var 2 rfl (.inl rfl) rfl) (ea_cons (ev_var 1 rfl (.inl rfl) rfl) ea_nil)) (fun _ zkk => ⟨second2, first, rfl, rfl, (by walk_at "pre"), zkk⟩) (by exact rfl)) ?_ nd rfl (.inl rfl))
            show Exs _ _ _ ⟨[some (.fr ((eL D.int) script)), some (.fr ((eT2 D.int D.int) first)), some (.fr ((eT2 D.int D.int) second2)), some (.fr (D.int choice)), none, some (.fr ((eT2 D.int D.int) total)), some (.fr ((eT2 D.int D.int) rest)), some (.fr (D.int plus)), some (.fr (D.int minus)), some (.fr ((eT2 D.int D.int) back)), some (.fr (D.int order)), some (.fr (D.int (m_compare_ratios second2 first)))], []⟩ _
            generalize zg_turned : (m_compare_ratios second2 first) = turned
            show Exs _ _ _ ⟨[some (.fr ((eL D.int) script)), some (.fr ((eT2 D.int D.int) first)), some (.fr ((eT2 D.int D.int) second2)), some (.fr (D.int choice)), none, some (.fr ((eT2 D.int D.int) total)), some (.fr ((eT2 D.int D.int) rest)), some (.fr (D.int plus)), some (.fr (D.int minus)), some (.fr ((eT2 D.int D.int) back)), some (.fr (D.int order)), some (.fr (D.int turned))], []⟩ _
            refine exs_cons (ex_ifP (bd_or (bd_not Iff.rfl) (bd_not Iff.rfl)) (Ew.et (ew_orP (bd_not Iff.rfl) (et_not (et_val (ev_call (ds := [D.int order]) (ds' := []) (dvs := []) (dfs := []) O_law_is_integer (zhr.mono (by decide)) T.m_law_is_integer T.k_law_is_integer T.b_law_is_integer .nil (fun _ => .nil) (ea_cons (ev_var 10 rfl (.inl rfl) rfl) ea_nil) (fun _ zkk => ⟨order, rfl, rfl, trivial, zkk⟩) (by exact rfl)))) (fun zhp => (ew_or1 (et_not (et_val (ev_call (ds := [D.int turned]) (ds' := []) (dvs := []) (dfs := []) O_law_is_integer (zhr.mono (by decide)) T.m_law_is_integer T.k_law_is_integer T.b_law_is_integer .nil (fun _ => .nil) (ea_cons (ev_var 11 rfl (.inl rfl) rfl) ea_nil) (fun _ zkk => ⟨turned, rfl, rfl, trivial, zkk⟩) (by exact rfl)))))))) (fun (zh6 : ((¬ ((m_law_is_integer order) = true)) ∨ (¬ ((m_law_is_integer turned) = true)))) => ?_) (fun (zh6 : ¬ ((¬ ((m_law_is_integer order) = true)) ∨ (¬ ((m_law_is_integer turned) = true)))) => ?_))
            · skip
              refine exs_one (ex_ret ev_bl ?_)
              have efin : m_law script = false := by subst zg_turned; subst zg_order; subst zg_back; subst zg_minus; subst zg_plus; subst zg_rest; subst zg_total; subst zg_second2; subst zg_second1; subst zg_choice; subst zg_second; subst zg_first; simp only [m_law, not_true_eq_false, not_false_eq_true, ↓reduceIte, ↓if_neg zh3, ↓if_neg zh4, ↓if_neg zh5, ↓if_pos zh6]
              rw [efin] at zk
              exact zk _
            · skip
              refine exs_nil ?_
              show Exs _ _ _ ⟨[some (.fr ((eL D.int) script)), some (.fr ((eT2 D.int D.int) first)), some (.fr ((eT2 D.int D.int) second2)), some (.fr (D.int choice)), none, some (.fr ((eT2 D.int D.int) total)), some (.fr ((eT2 D.int D.int) rest)), some (.fr (D.int plus)), some (.fr (D.int minus)), some (.fr ((eT2 D.int D.int) back)), some (.fr (D.int order)), some (.fr (D.int turned))], []⟩ _
              refine exs_one (ex_ret (ev_andP bd_d (ev_cmp o_eqi (ev_var 10 rfl (.inl rfl) rfl) (ev_call (ds := [D.int minus]) (ds' := []) (dvs := []) (dfs := []) O_law_sign (zhr.mono (by decide)) T.m_law_sign T.k_law_sign T.b_law_sign .nil (fun _ => .nil) (ea_cons (ev_var 8 rfl (.inl rfl) rfl) ea_nil) (fun _ zkk => ⟨minus, rfl, rfl, trivial, zkk⟩) (by exact rfl)) (nomark _)) (fun zhp => (ev_one (ev_cmp o_eqi (ev_var 11 rfl (.inl rfl) rfl) (ev_neg (ev_call (ds := [D.int minus]) (ds' := []) (dvs := []) (dfs := []) O_law_sign (zhr.mono (by decide)) T.m_law_sign T.k_law_sign T.b_law_sign .nil (fun _ => .nil) (ea_cons (ev_var 8 rfl (.inl rfl) rfl) ea_nil) (fun _ zkk => ⟨minus, rfl, rfl, trivial, zkk⟩) (by exact rfl))) (nomark _))))) ?_)
              have efin : m_law script = ((decide (order = (m_law_sign minus))) && (decide (turned = (-(m_law_sign minus))))) := by subst zg_turned; subst zg_order; subst zg_back; subst zg_minus; subst zg_plus; subst zg_rest; subst zg_total; subst zg_second2; subst zg_second1; subst zg_choice; subst zg_second; subst zg_first; simp only [m_law, not_true_eq_false, not_false_eq_true, ↓reduceIte, ↓if_neg zh3, ↓if_neg zh4, ↓if_neg zh5, ↓if_neg zh6]
              rw [efin] at zk
              exact zk _
theorem cop_shape (a b : Int) (hb : 0 < b) : ∃ (g : Int) (p q : Int), 0 < g ∧ a = g * p ∧ b = g * q ∧ 0 < q ∧ Nat.gcd p.natAbs q.natAbs = 1 ∧ m_make_ratio a b = (p, q) := by
  have hg := Nat.gcd_pos_of_pos_right a.natAbs (show 0 < b.natAbs by omega)
  obtain ⟨p, hp⟩ := Int.ofNat_dvd_left.mpr (Nat.gcd_dvd_left a.natAbs b.natAbs)
  obtain ⟨q, hq⟩ := Int.ofNat_dvd_left.mpr (Nat.gcd_dvd_right a.natAbs b.natAbs)
  have hs := ratio_shape a b hb
  generalize hG : Nat.gcd a.natAbs b.natAbs = G at hg hp hq hs
  have hG0 : (0 : Int) < (G : Int) := by omega
  have ep : a / (G : Int) = p := by rw [hp, Int.mul_ediv_cancel_left _ (by omega)]
  have eq : b / (G : Int) = q := by rw [hq, Int.mul_ediv_cancel_left _ (by omega)]
  have hc : Nat.gcd p.natAbs q.natAbs = 1 := by
    have np : a.natAbs = G * p.natAbs := by rw [hp, Int.natAbs_mul, Int.natAbs_natCast]
    have nq : b.natAbs = G * q.natAbs := by rw [hq, Int.natAbs_mul, Int.natAbs_natCast]
    rw [np, nq, Nat.gcd_mul_left] at hG
    exact Nat.eq_of_mul_eq_mul_left hg (by rw [hG, Nat.mul_one])
  refine ⟨(G : Int), p, q, hG0, hp, hq, ?_, hc, by rw [hs, ep, eq]⟩
  rcases Int.lt_trichotomy q 0 with h | h | h
  · exfalso
    have := Int.mul_neg_of_pos_of_neg hG0 h
    omega
  · rw [h, Int.mul_zero] at hq; omega
  · exact h
theorem uniq {p q p' q' : Int} (hq : 0 < q) (hq' : 0 < q') (c : Nat.gcd p.natAbs q.natAbs = 1) (c' : Nat.gcd p'.natAbs q'.natAbs = 1) (h : p * q' = p' * q) : p = p' ∧ q = q' := by
  have hn : p.natAbs * q'.natAbs = p'.natAbs * q.natAbs := by rw [← Int.natAbs_mul, h, Int.natAbs_mul]
  have d1 : q.natAbs ∣ q'.natAbs := by
    have : q.natAbs ∣ p.natAbs * q'.natAbs := ⟨p'.natAbs, by rw [hn, Nat.mul_comm]⟩
    exact (Nat.Coprime.symm c).dvd_of_dvd_mul_left this
  have d2 : q'.natAbs ∣ q.natAbs := by
    have : q'.natAbs ∣ p'.natAbs * q.natAbs := ⟨p.natAbs, by rw [← hn, Nat.mul_comm]⟩
    exact (Nat.Coprime.symm c').dvd_of_dvd_mul_left this
  have e := Nat.dvd_antisymm d1 d2
  have e2 : q = q' := by omega
  subst e2
  exact ⟨Int.eq_of_mul_eq_mul_right (by omega) h, rfl⟩
theorem is_ratio_of {p q : Int} (hq : 0 < q) (hb : q < 2 ^ 499) (c : Nat.gcd p.natAbs q.natAbs = 1) : m_law_is_ratio (p, q) = true := by
  unfold m_law_is_ratio
  dsimp only
  rw [if_neg (by rintro (h | h) <;> exact h rfl), if_neg (by rintro (h | h) <;> exact h rfl), divisor_eq p q (by omega) hb, c, Bool.and_eq_true]
  exact ⟨decide_eq_true (by omega), decide_eq_true rfl⟩
theorem core (f s : Int × Int) (hf1 : -(2 ^ 101) < f.1 ∧ f.1 < 2 ^ 101 ∧ 0 < f.2 ∧ f.2 < 2 ^ 101) (hs1 : -(2 ^ 203) < s.1 ∧ s.1 < 2 ^ 203 ∧ 0 < s.2 ∧ s.2 < 2 ^ 203) (hc : Nat.gcd f.1.natAbs f.2.natAbs = 1) :
    (if ((¬ ((m_law_is_ratio (m_add_ratios f s)) = true)) ∨ (¬ ((m_law_is_ratio (m_subtract_ratios f s)) = true))) then false else
     if ((¬ ((((m_add_ratios f s).1 * f.2) * s.2) = (((f.1 * s.2) + (s.1 * f.2)) * (m_add_ratios f s).2))) ∨ (¬ ((((m_subtract_ratios f s).1 * f.2) * s.2) = (((f.1 * s.2) - (s.1 * f.2)) * (m_subtract_ratios f s).2)))) then false else
     if ((¬ ((m_law_is_ratio (m_subtract_ratios (m_add_ratios f s) s)) = true)) ∨ (¬ ((m_subtract_ratios (m_add_ratios f s) s) = f))) then false else
     if ((¬ ((m_law_is_integer (m_compare_ratios f s)) = true)) ∨ (¬ ((m_law_is_integer (m_compare_ratios s f)) = true))) then false else
     ((decide ((m_compare_ratios f s) = (m_law_sign ((f.1 * s.2) - (s.1 * f.2))))) && (decide ((m_compare_ratios s f) = (-(m_law_sign ((f.1 * s.2) - (s.1 * f.2)))))))) = true := by
  obtain ⟨f1, f2⟩ := f
  obtain ⟨s1, s2⟩ := s
  dsimp only at hf1 hs1 hc ⊢
  have hd : 0 < f2 * s2 := Int.mul_pos (by omega) (by omega)
  have hd2 := mul_abs (a := f2) (b := s2) (A := 2 ^ 101) (B := 2 ^ 203) (by omega) (by omega) (by omega) (by omega)
  obtain ⟨g, p, q, hg, h1, h2, h3, h4, h5⟩ := cop_shape (f1 * s2 + s1 * f2) (f2 * s2) hd
  obtain ⟨g', p', q', hg', h1', h2', h3', h4', h5'⟩ := cop_shape (f1 * s2 - s1 * f2) (f2 * s2) hd
  have eA : m_add_ratios (f1, f2) (s1, s2) = (p, q) := h5
  have eS : m_subtract_ratios (f1, f2) (s1, s2) = (p', q') := h5'
  have bq : q ≤ f2 * s2 := by rw [h2]; have := Int.mul_le_mul_of_nonneg_right (show (1 : Int) ≤ g by omega) (show 0 ≤ q by omega); omega
  have bq' : q' ≤ f2 * s2 := by rw [h2']; have := Int.mul_le_mul_of_nonneg_right (show (1 : Int) ≤ g' by omega) (show 0 ≤ q' by omega); omega
  have hd3 : 0 < q * s2 := Int.mul_pos h3 (by omega)
  obtain ⟨g2, p2, q2, hg2, i1, i2, i3, i4, i5⟩ := cop_shape (p * s2 - s1 * q) (q * s2) hd3
  have eB : m_subtract_ratios (p, q) (s1, s2) = (p2, q2) := i5
  -- the sum less the second is the first
  have cr0 : p * (f2 * s2) = (f1 * s2 + s1 * f2) * q := by rw [h1, h2]; simp only [Int.mul_assoc, Int.mul_comm, Int.mul_left_comm]
  have cr1 : (p * s2 - s1 * q) * f2 = f1 * (q * s2) := by
    have e1 : (p * s2 - s1 * q) * f2 = p * (f2 * s2) - s1 * f2 * q := by rw [Int.sub_mul]; simp only [Int.mul_assoc, Int.mul_comm, Int.mul_left_comm]
    have e2 : (f1 * s2 + s1 * f2) * q = f1 * (q * s2) + s1 * f2 * q := by rw [Int.add_mul]; simp only [Int.mul_assoc, Int.mul_comm, Int.mul_left_comm]
    rw [e1, cr0, e2]; omega
  have cr2 : p2 * f2 = f1 * q2 := by
    rw [i1, i2] at cr1
    refine Int.eq_of_mul_eq_mul_left (a := g2) (by omega) ?_
    rw [← Int.mul_assoc, cr1]; simp only [Int.mul_assoc, Int.mul_comm, Int.mul_left_comm]
  obtain ⟨u1, u2⟩ := uniq i3 (by omega : 0 < f2) i4 hc cr2
  subst u1 u2
  rw [eA, eS, eB]
  dsimp only
  rw [if_neg (by rintro (h | h); exact h (is_ratio_of h3 (by omega) h4); exact h (is_ratio_of h3' (by omega) h4'))]
  have c1 : p * q2 * s2 = (p2 * s2 + s1 * q2) * q := by rw [Int.mul_assoc]; exact cr0
  have c2 : p' * q2 * s2 = (p2 * s2 - s1 * q2) * q' := by rw [h1', Int.mul_assoc, h2']; simp only [Int.mul_assoc, Int.mul_comm, Int.mul_left_comm]
  rw [if_neg (by rintro (h | h); exact h c1; exact h c2)]
  rw [if_neg (by rintro (h | h); exact h (is_ratio_of i3 (by omega) i4); exact h rfl)]
  rw [if_neg (by rintro (h | h) <;> exact h rfl), Bool.and_eq_true]
  unfold m_compare_ratios m_law_sign
  dsimp only
  generalize p2 * s2 = x
  generalize s1 * q2 = y
  constructor
  · apply decide_eq_true
    repeat' split
    all_goals omega
  · apply decide_eq_true
    repeat' split
    all_goals omega
theorem law_true : ∀ ns : List Int, ns.length ≤ 63 → m_law ns = true := by
  intro ns _
  unfold m_law
  dsimp only
  have hf := lratio_bound (m_law_cell ns 0) (m_law_cell ns 1)
  have hc : Nat.gcd (m_law_ratio (m_law_cell ns 0) (m_law_cell ns 1)).1.natAbs (m_law_ratio (m_law_cell ns 0) (m_law_cell ns 1)).2.natAbs = 1 := by
    rw [lratio_eq]
    obtain ⟨g, p, q, _, _, _, _, h4, h5⟩ := cop_shape (m_law_cell ns 0 % (2 * 1000000000000000000000000000000) - 1000000000000000000000000000000) (1 + m_law_cell ns 1 % 1000000000000000000000000000000) (by omega)
    rw [h5]; exact h4
  have hs := lratio_bound (m_law_cell ns 2) (m_law_cell ns 3)
  generalize m_law_ratio (m_law_cell ns 0) (m_law_cell ns 1) = f at hf hc
  generalize m_law_ratio (m_law_cell ns 2) (m_law_cell ns 3) = s at hs
  generalize m_law_cell ns 4 % 3 = ch
  have hs1 : -(2 ^ 101) < (if ch = 1 then (f.1, f.2) else s).1 ∧ (if ch = 1 then (f.1, f.2) else s).1 < 2 ^ 101 ∧ 0 < (if ch = 1 then (f.1, f.2) else s).2 ∧ (if ch = 1 then (f.1, f.2) else s).2 < 2 ^ 101 := by split; exact hf; exact hs
  generalize (if ch = 1 then (f.1, f.2) else s) = t at hs1
  have hmA := mul_abs (a := f.1) (b := t.2) (A := 2 ^ 101) (B := 2 ^ 101) (by omega) (by omega) (by omega) (by omega)
  have hmB := mul_abs (a := f.2) (b := t.2) (A := 2 ^ 101) (B := 2 ^ 101) (by omega) (by omega) (by omega) (by omega)
  have hmC := Int.mul_pos (a := f.2) (b := t.2) (by omega) (by omega)
  refine core f _ hf ?_ hc
  split
  · rw [lowest_eq _ _ (by omega) (by omega)]; exact ratio_bound _ _ (by omega) (2 ^ 203) (by omega) (by omega) (by omega)
  · omega

end
section
theorem all_mk {l : PySem.W.OpenLaw} {w : World} {K : Frag} {h : Heap} {mg : Mg} {fa : Addr} (X : K.In h) (G : h.Ns mainGlobals mg) (hfa : mg "law" = some (.ref fa))
    (z_abs : PySem.W.nsIn K mainGlobals "abs" = some none)
    (z_bool : PySem.W.nsIn K mainGlobals "bool" = some none)
    (z_int : PySem.W.nsIn K mainGlobals "int" = some none)
    (z_isinstance : PySem.W.nsIn K mainGlobals "isinstance" = some none)
    (z_len : PySem.W.nsIn K mainGlobals "len" = some none)
    (z_range : PySem.W.nsIn K mainGlobals "range" = some none)
    (z_tuple : PySem.W.nsIn K mainGlobals "tuple" = some none)
    (z_gcd : PySem.W.nsIn K mainGlobals "gcd" = some (some (.builtin "math.gcd")))
    {f_make_ratio : Addr} {od_make_ratio an_make_ratio : Option Addr} {sl_make_ratio : Array (Option Value)} {oc_make_ratio kV_make_ratio dc_make_ratio pm_make_ratio cd_make_ratio ct_make_ratio : Value}
    (g_make_ratio : PySem.W.nsIn K mainGlobals "make_ratio" = some (some (.ref f_make_ratio)))
    (l_make_ratio : K.lookup f_make_ratio = some ⟨oc_make_ratio, od_make_ratio, .func (PySem.W.fnOf "make_ratio" "make_ratio" (defArgs s_make_ratio) (defBody s_make_ratio) (defScope s_make_ratio) .none kV_make_ratio dc_make_ratio pm_make_ratio an_make_ratio cd_make_ratio ct_make_ratio), sl_make_ratio⟩)
    (c_make_ratio : PySem.W.codeIn K cd_make_ratio "make_ratio" = true) (k_make_ratio : PySem.W.keepIn K (.ref f_make_ratio) = true)
    {f_add_ratios : Addr} {od_add_ratios an_add_ratios : Option Addr} {sl_add_ratios : Array (Option Value)} {oc_add_ratios kV_add_ratios dc_add_ratios pm_add_ratios cd_add_ratios ct_add_ratios : Value}
    (g_add_ratios : PySem.W.nsIn K mainGlobals "add_ratios" = some (some (.ref f_add_ratios)))
    (l_add_ratios : K.lookup f_add_ratios = some ⟨oc_add_ratios, od_add_ratios, .func (PySem.W.fnOf "add_ratios" "add_ratios" (defArgs s_add_ratios) (defBody s_add_ratios) (defScope s_add_ratios) .none kV_add_ratios dc_add_ratios pm_add_ratios an_add_ratios cd_add_ratios ct_add_ratios), sl_add_ratios⟩)
    (c_add_ratios : PySem.W.codeIn K cd_add_ratios "add_ratios" = true) (k_add_ratios : PySem.W.keepIn K (.ref f_add_ratios) = true)
    {f_subtract_ratios : Addr} {od_subtract_ratios an_subtract_ratios : Option Addr} {sl_subtract_ratios : Array (Option Value)} {oc_subtract_ratios kV_subtract_ratios dc_subtract_ratios pm_subtract_ratios cd_subtract_ratios ct_subtract_ratios : Value}
    (g_subtract_ratios : PySem.W.nsIn K mainGlobals "subtract_ratios" = some (some (.ref f_subtract_ratios)))
    (l_subtract_ratios : K.lookup f_subtract_ratios = some ⟨oc_subtract_ratios, od_subtract_ratios, .func (PySem.W.fnOf "subtract_ratios" "subtract_ratios" (defArgs s_subtract_ratios) (defBody s_subtract_ratios) (defScope s_subtract_ratios) .none kV_subtract_ratios dc_subtract_ratios pm_subtract_ratios an_subtract_ratios cd_subtract_ratios ct_subtract_ratios), sl_subtract_ratios⟩)
    (c_subtract_ratios : PySem.W.codeIn K cd_subtract_ratios "subtract_ratios" = true) (k_subtract_ratios : PySem.W.keepIn K (.ref f_subtract_ratios) = true)
    {f_compare_ratios : Addr} {od_compare_ratios an_compare_ratios : Option Addr} {sl_compare_ratios : Array (Option Value)} {oc_compare_ratios kV_compare_ratios dc_compare_ratios pm_compare_ratios cd_compare_ratios ct_compare_ratios : Value}
    (g_compare_ratios : PySem.W.nsIn K mainGlobals "compare_ratios" = some (some (.ref f_compare_ratios)))
    (l_compare_ratios : K.lookup f_compare_ratios = some ⟨oc_compare_ratios, od_compare_ratios, .func (PySem.W.fnOf "compare_ratios" "compare_ratios" (defArgs s_compare_ratios) (defBody s_compare_ratios) (defScope s_compare_ratios) .none kV_compare_ratios dc_compare_ratios pm_compare_ratios an_compare_ratios cd_compare_ratios ct_compare_ratios), sl_compare_ratios⟩)
    (c_compare_ratios : PySem.W.codeIn K cd_compare_ratios "compare_ratios" = true) (k_compare_ratios : PySem.W.keepIn K (.ref f_compare_ratios) = true)
    {f_law_cell : Addr} {od_law_cell an_law_cell : Option Addr} {sl_law_cell : Array (Option Value)} {oc_law_cell kV_law_cell dc_law_cell pm_law_cell cd_law_cell ct_law_cell : Value}
    (g_law_cell : PySem.W.nsIn K mainGlobals "_law_cell" = some (some (.ref f_law_cell)))
    (l_law_cell : K.lookup f_law_cell = some ⟨oc_law_cell, od_law_cell, .func (PySem.W.fnOf "_law_cell" "_law_cell" (defArgs s_law_cell) (defBody s_law_cell) (defScope s_law_cell) .none kV_law_cell dc_law_cell pm_law_cell an_law_cell cd_law_cell ct_law_cell), sl_law_cell⟩)
    (c_law_cell : PySem.W.codeIn K cd_law_cell "_law_cell" = true) (k_law_cell : PySem.W.keepIn K (.ref f_law_cell) = true)
    {f_law_is_integer : Addr} {od_law_is_integer an_law_is_integer : Option Addr} {sl_law_is_integer : Array (Option Value)} {oc_law_is_integer kV_law_is_integer dc_law_is_integer pm_law_is_integer cd_law_is_integer ct_law_is_integer : Value}
    (g_law_is_integer : PySem.W.nsIn K mainGlobals "_law_is_integer" = some (some (.ref f_law_is_integer)))
    (l_law_is_integer : K.lookup f_law_is_integer = some ⟨oc_law_is_integer, od_law_is_integer, .func (PySem.W.fnOf "_law_is_integer" "_law_is_integer" (defArgs s_law_is_integer) (defBody s_law_is_integer) (defScope s_law_is_integer) .none kV_law_is_integer dc_law_is_integer pm_law_is_integer an_law_is_integer cd_law_is_integer ct_law_is_integer), sl_law_is_integer⟩)
    (c_law_is_integer : PySem.W.codeIn K cd_law_is_integer "_law_is_integer" = true) (k_law_is_integer : PySem.W.keepIn K (.ref f_law_is_integer) = true)
    {f_law_divisor : Addr} {od_law_divisor an_law_divisor : Option Addr} {sl_law_divisor : Array (Option Value)} {oc_law_divisor kV_law_divisor dc_law_divisor pm_law_divisor cd_law_divisor ct_law_divisor : Value}
    (g_law_divisor : PySem.W.nsIn K mainGlobals "_law_divisor" = some (some (.ref f_law_divisor)))
    (l_law_divisor : K.lookup f_law_divisor = some ⟨oc_law_divisor, od_law_divisor, .func (PySem.W.fnOf "_law_divisor" "_law_divisor" (defArgs s_law_divisor) (defBody s_law_divisor) (defScope s_law_divisor) .none kV_law_divisor dc_law_divisor pm_law_divisor an_law_divisor cd_law_divisor ct_law_divisor), sl_law_divisor⟩)
    (c_law_divisor : PySem.W.codeIn K cd_law_divisor "_law_divisor" = true) (k_law_divisor : PySem.W.keepIn K (.ref f_law_divisor) = true)
    {f_law_is_ratio : Addr} {od_law_is_ratio an_law_is_ratio : Option Addr} {sl_law_is_ratio : Array (Option Value)} {oc_law_is_ratio kV_law_is_ratio dc_law_is_ratio pm_law_is_ratio cd_law_is_ratio ct_law_is_ratio : Value}
    (g_law_is_ratio : PySem.W.nsIn K mainGlobals "_law_is_ratio" = some (some (.ref f_law_is_ratio)))
    (l_law_is_ratio : K.lookup f_law_is_ratio = some ⟨oc_law_is_ratio, od_law_is_ratio, .func (PySem.W.fnOf "_law_is_ratio" "_law_is_ratio" (defArgs s_law_is_ratio) (defBody s_law_is_ratio) (defScope s_law_is_ratio) .none kV_law_is_ratio dc_law_is_ratio pm_law_is_ratio an_law_is_ratio cd_law_is_ratio ct_law_is_ratio), sl_law_is_ratio⟩)
    (c_law_is_ratio : PySem.W.codeIn K cd_law_is_ratio "_law_is_ratio" = true) (k_law_is_ratio : PySem.W.keepIn K (.ref f_law_is_ratio) = true)
    {f_law_lowest : Addr} {od_law_lowest an_law_lowest : Option Addr} {sl_law_lowest : Array (Option Value)} {oc_law_lowest kV_law_lowest dc_law_lowest pm_law_lowest cd_law_lowest ct_law_lowest : Value}
    (g_law_lowest : PySem.W.nsIn K mainGlobals "_law_lowest" = some (some (.ref f_law_lowest)))
    (l_law_lowest : K.lookup f_law_lowest = some ⟨oc_law_lowest, od_law_lowest, .func (PySem.W.fnOf "_law_lowest" "_law_lowest" (defArgs s_law_lowest) (defBody s_law_lowest) (defScope s_law_lowest) .none kV_law_lowest dc_law_lowest pm_law_lowest an_law_lowest cd_law_lowest ct_law_lowest), sl_law_lowest⟩)
    (c_law_lowest : PySem.W.codeIn K cd_law_lowest "_law_lowest" = true) (k_law_lowest : PySem.W.keepIn K (.ref f_law_lowest) = true)
    {f_law_ratio : Addr} {od_law_ratio an_law_ratio : Option Addr} {sl_law_ratio : Array (Option Value)} {oc_law_ratio kV_law_ratio dc_law_ratio pm_law_ratio cd_law_ratio ct_law_ratio : Value}
    (g_law_ratio : PySem.W.nsIn K mainGlobals "_law_ratio" = some (some (.ref f_law_ratio)))
    (l_law_ratio : K.lookup f_law_ratio = some ⟨oc_law_ratio, od_law_ratio, .func (PySem.W.fnOf "_law_ratio" "_law_ratio" (defArgs s_law_ratio) (defBody s_law_ratio) (defScope s_law_ratio) .none kV_law_ratio dc_law_ratio pm_law_ratio an_law_ratio cd_law_ratio ct_law_ratio), sl_law_ratio⟩)
    (c_law_ratio : PySem.W.codeIn K cd_law_ratio "_law_ratio" = true) (k_law_ratio : PySem.W.keepIn K (.ref f_law_ratio) = true)
    {f_law_sign : Addr} {od_law_sign an_law_sign : Option Addr} {sl_law_sign : Array (Option Value)} {oc_law_sign kV_law_sign dc_law_sign pm_law_sign cd_law_sign ct_law_sign : Value}
    (g_law_sign : PySem.W.nsIn K mainGlobals "_law_sign" = some (some (.ref f_law_sign)))
    (l_law_sign : K.lookup f_law_sign = some ⟨oc_law_sign, od_law_sign, .func (PySem.W.fnOf "_law_sign" "_law_sign" (defArgs s_law_sign) (defBody s_law_sign) (defScope s_law_sign) .none kV_law_sign dc_law_sign pm_law_sign an_law_sign cd_law_sign ct_law_sign), sl_law_sign⟩)
    (c_law_sign : PySem.W.codeIn K cd_law_sign "_law_sign" = true) (k_law_sign : PySem.W.keepIn K (.ref f_law_sign) = true)
    {f_law : Addr} {od_law an_law : Option Addr} {sl_law : Array (Option Value)} {oc_law kV_law dc_law pm_law cd_law ct_law : Value}
    (g_law : PySem.W.nsIn K mainGlobals "law" = some (some (.ref f_law)))
    (l_law : K.lookup f_law = some ⟨oc_law, od_law, .func (PySem.W.fnOf "law" "law" (defArgs s_law) (defBody s_law) (defScope s_law) .none kV_law dc_law pm_law an_law cd_law ct_law), sl_law⟩)
    (c_law : PySem.W.codeIn K cd_law "law" = true) (k_law : PySem.W.keepIn K (.ref f_law) = true)
    : ∃ fd : FuncData, (∀ (s : Shared) (v : Value), BindsTo s fd ⟨[v], []⟩ [("script", v)]) ∧ ∀ base : Heap, K.In base → base.Ns mainGlobals mg → FnOk l.prog w K mg base CX0 4 fa fd ["script"] (spTrue K) := by
  have T : TX K mg := {
    n_abs := PySem.W.mg_none_of X G z_abs
    n_bool := PySem.W.mg_none_of X G z_bool
    n_int := PySem.W.mg_none_of X G z_int
    n_isinstance := PySem.W.mg_none_of X G z_isinstance
    n_len := PySem.W.mg_none_of X G z_len
    n_range := PySem.W.mg_none_of X G z_range
    n_tuple := PySem.W.mg_none_of X G z_tuple
    x_gcd := PySem.W.mg_of X G z_gcd
    a_make_ratio := f_make_ratio
    d_make_ratio := _
    F_make_ratio := fun_mk (st := s_make_ratio) l_make_ratio c_make_ratio k_make_ratio
    k_make_ratio := k_make_ratio
    m_make_ratio := PySem.W.mg_of X G g_make_ratio
    b_make_ratio := (fun_mk (st := s_make_ratio) l_make_ratio c_make_ratio k_make_ratio).binds (ps := ["top", "bottom"]) fun _ _ _ _ _ _ us hl => match us, hl with | [_, _], _ => rfl
    a_add_ratios := f_add_ratios
    d_add_ratios := _
    F_add_ratios := fun_mk (st := s_add_ratios) l_add_ratios c_add_ratios k_add_ratios
    k_add_ratios := k_add_ratios
    m_add_ratios := PySem.W.mg_of X G g_add_ratios
    b_add_ratios := (fun_mk (st := s_add_ratios) l_add_ratios c_add_ratios k_add_ratios).binds (ps := ["first", "second"]) fun _ _ _ _ _ _ us hl => match us, hl with | [_, _], _ => rfl
    a_subtract_ratios := f_subtract_ratios
    d_subtract_ratios := _
    F_subtract_ratios := fun_mk (st := s_subtract_ratios) l_subtract_ratios c_subtract_ratios k_subtract_ratios
    k_subtract_ratios := k_subtract_ratios
    m_subtract_ratios := PySem.W.mg_of X G g_subtract_ratios
    b_subtract_ratios := (fun_mk (st := s_subtract_ratios) l_subtract_ratios c_subtract_ratios k_subtract_ratios).binds (ps := ["first", "second"]) fun _ _ _ _ _ _ us hl => match us, hl with | [_, _], _ => rfl
    a_compare_ratios := f_compare_ratios
    d_compare_ratios := _
    F_compare_ratios := fun_mk (st := s_compare_ratios) l_compare_ratios c_compare_ratios k_compare_ratios
    k_compare_ratios := k_compare_ratios
    m_compare_ratios := PySem.W.mg_of X G g_compare_ratios
    b_compare_ratios := (fun_mk (st := s_compare_ratios) l_compare_ratios c_compare_ratios k_compare_ratios).binds (ps := ["first", "second"]) fun _ _ _ _ _ _ us hl => match us, hl with | [_, _], _ => rfl
    a_law_cell := f_law_cell
    d_law_cell := _
    F_law_cell := fun_mk (st := s_law_cell) l_law_cell c_law_cell k_law_cell
    k_law_cell := k_law_cell
    m_law_cell := PySem.W.mg_of X G g_law_cell
    b_law_cell := (fun_mk (st := s_law_cell) l_law_cell c_law_cell k_law_cell).binds (ps := ["script", "k"]) fun _ _ _ _ _ _ us hl => match us, hl with | [_, _], _ => rfl
    a_law_is_integer := f_law_is_integer
    d_law_is_integer := _
    F_law_is_integer := fun_mk (st := s_law_is_integer) l_law_is_integer c_law_is_integer k_law_is_integer
    k_law_is_integer := k_law_is_integer
    m_law_is_integer := PySem.W.mg_of X G g_law_is_integer
    b_law_is_integer := (fun_mk (st := s_law_is_integer) l_law_is_integer c_law_is_integer k_law_is_integer).binds (ps := ["actual"]) fun _ _ _ _ _ _ us hl => match us, hl with | [_], _ => rfl
    a_law_divisor := f_law_divisor
    d_law_divisor := _
    F_law_divisor := fun_mk (st := s_law_divisor) l_law_divisor c_law_divisor k_law_divisor
    k_law_divisor := k_law_divisor
    m_law_divisor := PySem.W.mg_of X G g_law_divisor
    b_law_divisor := (fun_mk (st := s_law_divisor) l_law_divisor c_law_divisor k_law_divisor).binds (ps := ["first", "second"]) fun _ _ _ _ _ _ us hl => match us, hl with | [_, _], _ => rfl
    a_law_is_ratio := f_law_is_ratio
    d_law_is_ratio := _
    F_law_is_ratio := fun_mk (st := s_law_is_ratio) l_law_is_ratio c_law_is_ratio k_law_is_ratio
    k_law_is_ratio := k_law_is_ratio
    m_law_is_ratio := PySem.W.mg_of X G g_law_is_ratio
    b_law_is_ratio := (fun_mk (st := s_law_is_ratio) l_law_is_ratio c_law_is_ratio k_law_is_ratio).binds (ps := ["actual"]) fun _ _ _ _ _ _ us hl => match us, hl with | [_], _ => rfl
    a_law_lowest := f_law_lowest
    d_law_lowest := _
    F_law_lowest := fun_mk (st := s_law_lowest) l_law_lowest c_law_lowest k_law_lowest
    k_law_lowest := k_law_lowest
    m_law_lowest := PySem.W.mg_of X G g_law_lowest
    b_law_lowest := (fun_mk (st := s_law_lowest) l_law_lowest c_law_lowest k_law_lowest).binds (ps := ["top", "bottom"]) fun _ _ _ _ _ _ us hl => match us, hl with | [_, _], _ => rfl
    a_law_ratio := f_law_ratio
    d_law_ratio := _
    F_law_ratio := fun_mk (st := s_law_ratio) l_law_ratio c_law_ratio k_law_ratio
    k_law_ratio := k_law_ratio
    m_law_ratio := PySem.W.mg_of X G g_law_ratio
    b_law_ratio := (fun_mk (st := s_law_ratio) l_law_ratio c_law_ratio k_law_ratio).binds (ps := ["top_cell", "bottom_cell"]) fun _ _ _ _ _ _ us hl => match us, hl with | [_, _], _ => rfl
    a_law_sign := f_law_sign
    d_law_sign := _
    F_law_sign := fun_mk (st := s_law_sign) l_law_sign c_law_sign k_law_sign
    k_law_sign := k_law_sign
    m_law_sign := PySem.W.mg_of X G g_law_sign
    b_law_sign := (fun_mk (st := s_law_sign) l_law_sign c_law_sign k_law_sign).binds (ps := ["number"]) fun _ _ _ _ _ _ us hl => match us, hl with | [_], _ => rfl
    a_law := f_law
    d_law := _
    F_law := fun_mk (st := s_law) l_law c_law k_law
    k_law := k_law
    m_law := PySem.W.mg_of X G g_law
    b_law := (fun_mk (st := s_law) l_law c_law k_law).binds (ps := ["script"]) fun _ _ _ _ _ _ us hl => match us, hl with | [_], _ => rfl
    e_law := fun s v => .of_eq rfl }
  have e : fa = T.a_law := Value.ref.inj (Option.some.inj (hfa.symm.trans T.m_law))
  subst e
  exact ⟨T.d_law, T.e_law, fun base _ _ => (ok_law (P := l.prog) (w := w) (base := base) T).imp fun vs H Q E h => spTrue_of law_true h⟩
theorem walk {l : PySem.W.OpenLaw} {q : Program} {loose : List Str} {XP : (Str → Option Value) → Heap → Prop} {YP : World → Heap → Prop} {d : DefRec} {K : Params → Frag} (hn : l.most = some 63) (hdf : d.params.defaults = [])
    (hY : ∀ (w : World) (h : Heap), YP w h → (K w.params).In h)
    (hF : ∀ (w : World) (mg : Mg) (fa : Addr) (h : Heap), (K w.params).In h → h.Ns mainGlobals mg → mg d.name = some (.ref fa) → ∃ fd : FuncData, (∀ (s : Shared) (u : Value), BindsTo s fd ⟨[u], []⟩ [("script", u)]) ∧
      ∀ base : Heap, (K w.params).In base → base.Ns mainGlobals mg → FnOk l.prog w (K w.params) mg base CX0 4 fa fd ["script"] (spTrue (K w.params))) : PySem.W.WalkO q loose XP YP l.row.toRowW d [] (fun f vs => PySem.call f vs) :=
  L2.walk_of (n := 63) (k := 4) (x := "script") (CX := fun _ => CX0) (sp := fun w => spTrue (K w.params)) hn (by decide) hdf ⟨rfl, by decide, by decide⟩ hY hF (fun _ _ a ns hl _ hS => ⟨a, ns, rfl, hS, hl, fun _ => rfl⟩) fun _ _ _ _ _ z => z
end
end My
open PySem PySem.W PyProof.Rows in
set_option maxRecDepth 100000 in
set_option maxHeartbeats 0 in
theorem PySem.Challenge.cw_neverlate_k01_add_subtract_compare_holds : PySem.Challenge.rw_neverlate_k01_add_subtract_compare.Holds := by
  w_on; o_law; k_head; (case hw => w_witness2)
  k_fill
  refine My.walk (l := PySem.Challenge.rw_neverlate_k01_add_subtract_compare) rfl rfl (fun w h Y => PySem.W.kIn_of Y) ?hF
  case hF =>
    intro w mg fa h KX G hmg
    refine' My.all_mk KX G hmg ?z_abs ?z_bool ?z_int ?z_isinstance ?z_len ?z_range ?z_tuple ?z_gcd ?g_make_ratio ?l_make_ratio ?c_make_ratio ?k_make_ratio ?g_add_ratios ?l_add_ratios ?c_add_ratios ?k_add_ratios ?g_subtract_ratios ?l_subtract_ratios ?c_subtract_ratios ?k_subtract_ratios ?g_compare_ratios ?l_compare_ratios ?c_compare_ratios ?k_compare_ratios ?g_law_cell ?l_law_cell ?c_law_cell ?k_law_cell ?g_law_is_integer ?l_law_is_integer ?c_law_is_integer ?k_law_is_integer ?g_law_divisor ?l_law_divisor ?c_law_divisor ?k_law_divisor ?g_law_is_ratio ?l_law_is_ratio ?c_law_is_ratio ?k_law_is_ratio ?g_law_lowest ?l_law_lowest ?c_law_lowest ?k_law_lowest ?g_law_ratio ?l_law_ratio ?c_law_ratio ?k_law_ratio ?g_law_sign ?l_law_sign ?c_law_sign ?k_law_sign ?g_law ?l_law ?c_law ?k_law
    (case z_abs => k_is)
    (case z_bool => k_is)
    (case z_int => k_is)
    (case z_isinstance => k_is)
    (case z_len => k_is)
    (case z_range => k_is)
    (case z_tuple => k_is)
    (case z_gcd => k_is)
    (case g_make_ratio => k_is)
    (case l_make_ratio => k_is)
    (case c_make_ratio => k_is)
    (case k_make_ratio => k_is)
    (case g_add_ratios => k_is)
    (case l_add_ratios => k_is)
    (case c_add_ratios => k_is)
    (case k_add_ratios => k_is)
    (case g_subtract_ratios => k_is)
    (case l_subtract_ratios => k_is)
    (case c_subtract_ratios => k_is)
    (case k_subtract_ratios => k_is)
    (case g_compare_ratios => k_is)
    (case l_compare_ratios => k_is)
    (case c_compare_ratios => k_is)
    (case k_compare_ratios => k_is)
    (case g_law_cell => k_is)
    (case l_law_cell => k_is)
    (case c_law_cell => k_is)
    (case k_law_cell => k_is)
    (case g_law_is_integer => k_is)
    (case l_law_is_integer => k_is)
    (case c_law_is_integer => k_is)
    (case k_law_is_integer => k_is)
    (case g_law_divisor => k_is)
    (case l_law_divisor => k_is)
    (case c_law_divisor => k_is)
    (case k_law_divisor => k_is)
    (case g_law_is_ratio => k_is)
    (case l_law_is_ratio => k_is)
    (case c_law_is_ratio => k_is)
    (case k_law_is_ratio => k_is)
    (case g_law_lowest => k_is)
    (case l_law_lowest => k_is)
    (case c_law_lowest => k_is)
    (case k_law_lowest => k_is)
    (case g_law_ratio => k_is)
    (case l_law_ratio => k_is)
    (case c_law_ratio => k_is)
    (case k_law_ratio => k_is)
    (case g_law_sign => k_is)
    (case l_law_sign => k_is)
    (case c_law_sign => k_is)
    (case k_law_sign => k_is)
    (case g_law => k_is)
    (case l_law => k_is)
    (case c_law => k_is)
    (case k_law => k_is)

