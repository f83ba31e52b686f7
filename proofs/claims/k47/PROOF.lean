import PyProof.Rows.All
import Wide.All
import OpenK.AllK
import Wide.FinOn
import HandS.ForMost
import HandS.ForExc
import HandS.IsInst
import HandS.Gcd
import HandS.Wide
import HandS.Property
import HandS.MakeKw
import HandS.MakeKwOnly
import HandS.Iter
import HandS.Strs
import HandS.Text
import KE.GoesMore
import PyProof.EnumMake
import KE.DataEq
import HandS.Style
import KE.KTupSum
import KE.DatumOrd
import HandS.SortKw
import HandS.Defaults
import KE.KMathGC
import PySem.Challenge.RW_neverlate_k47_overfull_windows
set_option Elab.async false
set_option linter.all false
set_option maxRecDepth 100000
set_option maxHeartbeats 0
/-! Nz: states with frozen data and live objects. -/
namespace Nz
open PySem PySem.Spec PyProof.Rows L2

/-- data that never changes any more -/
inductive D where
  | non | bl (b : Bool) | int (i : Int) | str (s : Str)
  | tup (xs : List D) | lst (xs : List D) | obj (c : Str) (fs : List (Str × D))

abbrev Frag := PySem.W.Frag
abbrev Mg := Str → Option Value

mutual
inductive Rep (K : Frag) (mg : Mg) (F : Hp) : D → V → Prop
  | non : Rep K mg F .non .non
  | bl (b : Bool) : Rep K mg F (.bl b) (.bl b)
  | int (i : Int) : Rep K mg F (.int i) (.int i)
  | str (s : Str) : Rep K mg F (.str s) (.str s)
  | tup {a : Addr} {ds : List D} {vs : List V} : SqT K F a vs → Reps K mg F ds vs → Rep K mg F (.tup ds) (.ref a)
  | lst {a : Addr} {ds : List D} {vs : List V} : SqL K F a vs → Reps K mg F ds vs → Rep K mg F (.lst ds) (.ref a)
  | obj {a dx C : Addr} {c : Str} {fs : List (Str × D)} {vs : List (Str × V)} : mg c = some (.ref C) → F a = some (.ins C dx vs) → F dx = some (.own a) →
      RepF K mg F fs vs → Rep K mg F (.obj c fs) (.ref a)
inductive Reps (K : Frag) (mg : Mg) (F : Hp) : List D → List V → Prop
  | nil : Reps K mg F [] []
  | cons {d : D} {v : V} {ds : List D} {vs : List V} : Rep K mg F d v → Reps K mg F ds vs → Reps K mg F (d :: ds) (v :: vs)
inductive RepF (K : Frag) (mg : Mg) (F : Hp) : List (Str × D) → List (Str × V) → Prop
  | nil : RepF K mg F [] []
  | cons {n : Str} {d : D} {v : V} {ds : List (Str × D)} {vs : List (Str × V)} : Rep K mg F d v → RepF K mg F ds vs → RepF K mg F ((n, d) :: ds) ((n, v) :: vs)
end

theorem _root_.L2.Same.seqT {K : Frag} {H H' : Hp} {a : Addr} {xs : List V} (e : Same H H') (h : SqT K H a xs) : SqT K H' a xs := by
  rcases h with (h | ⟨o, h⟩) | h
  · exact .inl (.inl (e _ _ h))
  · exact .inl (.inr ⟨o, e _ _ h⟩)
  · exact .inr h

section
variable {K : Frag} {mg : Mg} {F F' : Hp}
mutual
theorem Rep.mono (s : Same F F') : ∀ {d : D} {v : V}, Rep K mg F d v → Rep K mg F' d v
  | _, _, .non => .non
  | _, _, .bl b => .bl b
  | _, _, .int i => .int i
  | _, _, .str x => .str x
  | _, _, .tup h r => .tup (s.seqT h) (Reps.mono s r)
  | _, _, .lst h r => .lst (s.seq h) (Reps.mono s r)
  | _, _, .obj m h1 h2 r => .obj m (s _ _ h1) (s _ _ h2) (RepF.mono s r)
theorem Reps.mono (s : Same F F') : ∀ {d : List D} {v : List V}, Reps K mg F d v → Reps K mg F' d v
  | _, _, .nil => .nil
  | _, _, .cons h r => .cons (Rep.mono s h) (Reps.mono s r)
theorem RepF.mono (s : Same F F') : ∀ {d : List (Str × D)} {v : List (Str × V)}, RepF K mg F d v → RepF K mg F' d v
  | _, _, .nil => .nil
  | _, _, .cons h r => .cons (Rep.mono s h) (RepF.mono s r)
end
theorem Reps.length : ∀ {ds : List D} {vs : List V}, Reps K mg F ds vs → ds.length = vs.length
  | _, _, .nil => rfl
  | _, _, .cons _ r => congrArg (· + 1) (Reps.length r)
theorem Reps.get : ∀ {ds : List D} {vs : List V} {i : Nat} {d : D}, Reps K mg F ds vs → ds[i]? = some d → ∃ v, vs[i]? = some v ∧ Rep K mg F d v
  | _, _, _, _, .nil, h => by simp at h
  | _, _, 0, _, .cons h r, e => by simp at e; subst e; exact ⟨_, rfl, h⟩
  | _, _, i + 1, _, .cons h r, e => by
    obtain ⟨v, h1, h2⟩ := Reps.get (i := i) r (by simpa using e)
    exact ⟨v, by simpa using h1, h2⟩
theorem Reps.getV : ∀ {ds : List D} {vs : List V} {i : Nat} {v : V}, Reps K mg F ds vs → vs[i]? = some v → ∃ d, ds[i]? = some d ∧ Rep K mg F d v
  | _, _, _, _, .nil, h => by simp at h
  | _, _, 0, _, .cons h r, e => by simp at e; subst e; exact ⟨_, rfl, h⟩
  | _, _, i + 1, _, .cons h r, e => by
    obtain ⟨v, h1, h2⟩ := Reps.getV (i := i) r (by simpa using e)
    exact ⟨v, by simpa using h1, h2⟩
theorem Reps.append : ∀ {ds es : List D} {vs us : List V}, Reps K mg F ds vs → Reps K mg F es us → Reps K mg F (ds ++ es) (vs ++ us)
  | _, _, _, _, .nil, s => s
  | _, _, _, _, .cons h r, s => .cons h (r.append s)
theorem Reps.ints : ∀ {ns : List Int}, Reps K mg F (ns.map D.int) (ns.map V.int)
  | [] => .nil
  | _ :: ns => .cons (.int _) (Reps.ints (ns := ns))
theorem Reps.ints_eq : ∀ {ns : List Int} {vs : List V}, Reps K mg F (ns.map D.int) vs → vs = ns.map V.int
  | [], _, .nil => rfl
  | _ :: ns, _, .cons h r => by
    cases h
    rw [Reps.ints_eq (ns := ns) r]; rfl
theorem Reps.set : ∀ {ds : List D} {vs : List V} (i : Nat) {d : D} {v : V}, Reps K mg F ds vs → Rep K mg F d v → Reps K mg F (ds.set i d) (vs.set i v)
  | _, _, _, _, _, .nil, _ => .nil
  | _, _, 0, _, _, .cons _ r, h => .cons h r
  | _, _, i + 1, _, _, .cons q r, h => .cons q (r.set i h)
theorem Reps.take : ∀ {ds : List D} {vs : List V} (i : Nat), Reps K mg F ds vs → Reps K mg F (ds.take i) (vs.take i)
  | _, _, 0, _ => by simpa using Reps.nil
  | _, _, _ + 1, .nil => .nil
  | _, _, i + 1, .cons q r => .cons q (r.take i)
theorem Reps.drop : ∀ {ds : List D} {vs : List V} (i : Nat), Reps K mg F ds vs → Reps K mg F (ds.drop i) (vs.drop i)
  | _, _, 0, r => r
  | _, _, _ + 1, .nil => .nil
  | _, _, i + 1, .cons _ r => r.drop i
theorem RepF.look : ∀ {ds : List (Str × D)} {vs : List (Str × V)} {n : Str} {d : D}, RepF K mg F ds vs → ds.lookup n = some d → ∃ v, vs.lookup n = some v ∧ Rep K mg F d v
  | _, _, _, _, .nil, h => by simp at h
  | _, _, n, d, .cons (n := m) h r, e => by
    rw [List.lookup_cons] at e ⊢
    cases q : (n == m) with
    | true => rw [q] at e; cases e; exact ⟨_, rfl, h⟩
    | false => rw [q] at e; exact RepF.look r e
end

/-- a cell: frozen data, or the live object of this name -/
inductive Ce where
  | fr (d : D) | ad (n : Nat)
/-- a live object -/
inductive LO where
  | fl (ds : List D)                    -- a list of frozen data
  | cl (cs : List Ce)                   -- a list of cells
  | ins (c : Str) (fs : List (Str × Ce)) -- an instance
  | dT (kvs : List (List Key × D))
  | dK (kvs : List (Key × Ce))
/-- a state: the slots, the live objects -/
structure S where
  ρ : List (Option Ce)
  L : List (Nat × LO)

def names (L : List (Nat × LO)) : List Nat := L.map (·.1)

def CRel (K : Frag) (mg : Mg) (F : Hp) (α : Nat → Addr) (L : List (Nat × LO)) (c : Ce) (v : V) : Prop :=
  match c with
  | .fr d => Rep K mg F d v
  | .ad n => n ∈ names L ∧ v = .ref (α n)
inductive CRels (K : Frag) (mg : Mg) (F : Hp) (α : Nat → Addr) (L : List (Nat × LO)) : List Ce → List V → Prop
  | nil : CRels K mg F α L [] []
  | cons {c : Ce} {v : V} {cs : List Ce} {vs : List V} : CRel K mg F α L c v → CRels K mg F α L cs vs → CRels K mg F α L (c :: cs) (v :: vs)
inductive CRelF (K : Frag) (mg : Mg) (F : Hp) (α : Nat → Addr) (L : List (Nat × LO)) : List (Str × Ce) → List (Str × V) → Prop
  | nil : CRelF K mg F α L [] []
  | cons {n : Str} {c : Ce} {v : V} {cs : List (Str × Ce)} {vs : List (Str × V)} : CRel K mg F α L c v → CRelF K mg F α L cs vs → CRelF K mg F α L ((n, c) :: cs) ((n, v) :: vs)
inductive CRelK {κ : Type} (K : Frag) (mg : Mg) (F : Hp) (α : Nat → Addr) (L : List (Nat × LO)) : List (κ × Ce) → List (κ × V) → Prop
  | nil : CRelK K mg F α L [] []
  | cons {n : κ} {c : Ce} {v : V} {cs : List (κ × Ce)} {vs : List (κ × V)} : CRel K mg F α L c v → CRelK K mg F α L cs vs → CRelK K mg F α L ((n, c) :: cs) ((n, v) :: vs)
/-- the slots -/
inductive SlR (K : Frag) (mg : Mg) (F : Hp) (α : Nat → Addr) (L : List (Nat × LO)) : List (Option Ce) → L2.St → Prop
  | nil : SlR K mg F α L [] []
  | no {o : Option V} {cs : List (Option Ce)} {vs : L2.St} : SlR K mg F α L cs vs → SlR K mg F α L (none :: cs) (o :: vs)
  | so {c : Ce} {v : V} {cs : List (Option Ce)} {vs : L2.St} : CRel K mg F α L c v → SlR K mg F α L cs vs → SlR K mg F α L (some c :: cs) (some v :: vs)

/-- what a def was entered with: the frozen heap, the heap, what it may change -/
structure Bd where
  F0 : Hp
  H0 : Hp
  fp : Addr → Prop
  pa : Nat → Option Addr
  hpa : ∀ n, 100 ≤ n → pa n = none

/-- the live object o stands at a -/
def LAt (K : Frag) (mg : Mg) (B : Bd) (F : Hp) (α : Nat → Addr) (L : List (Nat × LO)) (H : Hp) (a : Addr) : LO → Prop
  | .fl ds => ∃ vs, H a = some (.lst vs) ∧ Reps K mg F ds vs
  | .cl cs => ∃ vs, H a = some (.lst vs) ∧ CRels K mg F α L cs vs
  | .ins c fs => ∃ C dx vs, mg c = some (.ref C) ∧ H a = some (.ins C dx vs) ∧ H dx = some (.own a) ∧ F dx = none ∧ (B.H0 dx = none ∨ B.fp dx) ∧ CRelF K mg F α L fs vs
  | .dT kvs => ∃ vs, H a = some (.dT vs) ∧ Paired (fun (p : List Key × D) (q : List Key × V) => p.1 = q.1 ∧ Rep K mg F p.2 q.2) kvs vs
  | .dK kvs => ∃ vs, H a = some (.dK vs) ∧ CRelK K mg F α L kvs vs

structure Rel (K : Frag) (mg : Mg) (B : Bd) (F : Hp) (α : Nat → Addr) (H : Hp) (σ : L2.St) (S : S) : Prop where
  sub : Same F H
  bF : Same B.F0 F
  nF : ∀ b o, F b = some o → B.F0 b = some o ∨ B.H0 b = none ∨ B.fp b
  frame : ∀ b o, B.H0 b = some o → ¬ B.fp b → H b = some o
  nd : (names S.L).Nodup
  inj : ∀ n m, n ∈ names S.L → m ∈ names S.L → α n = α m → n = m
  live : ∀ n o, (n, o) ∈ S.L → F (α n) = none ∧ (B.H0 (α n) = none ∨ B.fp (α n)) ∧ LAt K mg B F α S.L H (α n) o
  slots : SlR K mg F α S.L S.ρ σ
  fix : ∀ n a, B.pa n = some a → n ∈ names S.L → α n = a

/-- a step keeps what is frozen, and the names of what lives -/
structure Stp (F : Hp) (α : Nat → Addr) (L : List (Nat × LO)) (F' : Hp) (α' : Nat → Addr) : Prop where
  fro : Same F F'
  nm : ∀ n, n ∈ names L → α' n = α n

def wE (X : Cx) (e : Expr) (σ : L2.St) (H : Hp) (Q : VK) : Prop :=
  ∀ pins s, Inv X pins σ H s → wpAny (model X.prog X.w) X.A (eval e X.env) (EP X pins σ Q) X.xe s
def wT (X : Cx) (e : Expr) (σ : L2.St) (H : Hp) (Q : Bool → Hp → Prop) : Prop :=
  ∀ pins s, Inv X pins σ H s → wpAny (model X.prog X.w) X.A (isTrue e X.env (eval e X.env)) (TP X pins σ Q) X.xe s
def wA (X : Cx) (es : List Expr) (σ : L2.St) (H : Hp) (Q : List V → Hp → Prop) : Prop :=
  ∀ pos pins s, Inv X pins σ H s → wpAny (model X.prog X.w) X.A (spliced (backTo pos (starEach es X.env))) (AP X pins σ Q) X.xe s
def wS (X : Cx) (st : Stmt) (D : Ends) (σ : L2.St) (H : Hp) : Prop :=
  ∀ pins s, Inv X pins σ H s → wpAny (model X.prog X.w) X.A (exec st X.env) (SP X pins D) X.xe s
def wSs (X : Cx) (st : List Stmt) (D : Ends) (σ : L2.St) (H : Hp) : Prop :=
  ∀ pins s, Inv X pins σ H s → wpAny (model X.prog X.w) X.A (execs st X.env) (SP X pins D) X.xe s
theorem pe_w {X : Cx} {e : Expr} : PE X e (wE X e) := ⟨fun pins s σ H Q I h => h pins s I⟩
theorem pt_w {X : Cx} {e : Expr} : PT X e (wT X e) := ⟨fun pins s σ H Q I h => h pins s I⟩
theorem pa_w {X : Cx} {e : List Expr} : PA X e (wA X e) := ⟨fun pos pins s σ H Q I h => h pos pins s I⟩
theorem ps_w {X : Cx} {e : Stmt} : PS X e (wS X e) := ⟨fun pins s σ H Q I h => h pins s I⟩
theorem pss_w {X : Cx} {e : List Stmt} : PSs X e (wSs X e) := ⟨fun pins s σ H Q I h => h pins s I⟩
theorem wE.of {X : Cx} {e : Expr} {t : TE} {σ : L2.St} {H : Hp} {Q : VK} (h : PE X e t) (q : t σ H Q) : wE X e σ H Q := fun pins s I => h.run pins s σ H Q I q
theorem wT.of {X : Cx} {e : Expr} {t : TT} {σ : L2.St} {H : Hp} {Q : Bool → Hp → Prop} (h : PT X e t) (q : t σ H Q) : wT X e σ H Q := fun pins s I => h.run pins s σ H Q I q
theorem wA.of {X : Cx} {e : List Expr} {t : TA} {σ : L2.St} {H : Hp} {Q : List V → Hp → Prop} (h : PA X e t) (q : t σ H Q) : wA X e σ H Q := fun pos pins s I => h.run pos pins s σ H Q I q
theorem wS.of {X : Cx} {e : Stmt} {t : TS} {σ : L2.St} {H : Hp} {D : Ends} (h : PS X e t) (q : t D σ H) : wS X e D σ H := fun pins s I => h.run pins s σ H D I q
theorem wSs.of {X : Cx} {e : List Stmt} {t : TS} {σ : L2.St} {H : Hp} {D : Ends} (h : PSs X e t) (q : t D σ H) : wSs X e D σ H := fun pins s I => h.run pins s σ H D I q

abbrev RelX (X : Cx) := Rel X.K X.mg
abbrev CR (X : Cx) := CRel X.K X.mg

/-- e in the state S gives c and leaves S' -/
def Ev (X : Cx) (B : Bd) (e : Expr) (S : S) (c : Ce) (S' : Nz.S) : Prop :=
  ∀ F α H σ Q, RelX X B F α H σ S → (∀ F' α' v H', RelX X B F' α' H' σ S' → Stp F α S.L F' α' → CR X F' α' S'.L c v → Q v H') → wE X e σ H Q
def Et (X : Cx) (B : Bd) (e : Expr) (S : S) (b : Bool) (S' : Nz.S) : Prop :=
  ∀ F α H σ Q, RelX X B F α H σ S → (∀ F' α' H', RelX X B F' α' H' σ S' → Stp F α S.L F' α' → Q b H') → wT X e σ H Q
def Ea (X : Cx) (B : Bd) (es : List Expr) (S : S) (cs : List Ce) (S' : Nz.S) : Prop :=
  ∀ F α H σ Q, RelX X B F α H σ S → (∀ F' α' vs H', RelX X B F' α' H' σ S' → Stp F α S.L F' α' → CRels X.K X.mg F' α' S'.L cs vs → Q vs H') → wA X es σ H Q

/-- how a statement ends -/
inductive Out where
  | nx (S : S) | ret (c : Ce) (S : S) | bk (S : S) | ct (S : S)
structure OutOk (X : Cx) (B : Bd) (F : Hp) (K : Out → Prop) (D : Ends) : Prop where
  nx : ∀ S' F' α' H' σ', K (.nx S') → RelX X B F' α' H' σ' S' → Same F F' → D.nx σ' H'
  bk : ∀ S' F' α' H' σ', K (.bk S') → RelX X B F' α' H' σ' S' → Same F F' → D.bk σ' H'
  ct : ∀ S' F' α' H' σ', K (.ct S') → RelX X B F' α' H' σ' S' → Same F F' → D.ct σ' H'
  ret : ∀ c S' F' α' H' σ' v, K (.ret c S') → RelX X B F' α' H' σ' S' → Same F F' → CR X F' α' S'.L c v → D.rt v H'
theorem OutOk.mono {X : Cx} {B : Bd} {F F' : Hp} {K : Out → Prop} {D : Ends} (h : OutOk X B F K D) (s : Same F F') : OutOk X B F' K D :=
  ⟨fun S' F1 α' H' σ' k r q => h.nx _ _ _ _ _ k r (s.trans q), fun S' F1 α' H' σ' k r q => h.bk _ _ _ _ _ k r (s.trans q), fun S' F1 α' H' σ' k r q => h.ct _ _ _ _ _ k r (s.trans q),
    fun c S' F1 α' H' σ' v k r q z => h.ret _ _ _ _ _ _ _ k r (s.trans q) z⟩
def Ex (X : Cx) (B : Bd) (st : Stmt) (S : S) (K : Out → Prop) : Prop :=
  ∀ F α H σ D, RelX X B F α H σ S → OutOk X B F K D → wS X st D σ H
def Exs (X : Cx) (B : Bd) (st : List Stmt) (S : S) (K : Out → Prop) : Prop :=
  ∀ F α H σ D, RelX X B F α H σ S → OutOk X B F K D → wSs X st D σ H
end Nz

namespace Nz
open PySem PySem.Spec PyProof.Rows L2

def getL (n : Nat) : List (Nat × LO) → Option LO
  | [] => none
  | (m, o) :: r => if n = m then some o else getL n r
def setL (n : Nat) (o : LO) : List (Nat × LO) → List (Nat × LO)
  | [] => []
  | (m, u) :: r => if n = m then (m, o) :: r else (m, u) :: setL n o r
theorem getL_mem : ∀ {L : List (Nat × LO)} {n : Nat} {o : LO}, getL n L = some o → (n, o) ∈ L
  | (m, u) :: r, n, o, h => by
    unfold getL at h
    split at h
    · rename_i e; cases h; rw [e]; exact List.mem_cons_self
    · exact List.mem_cons_of_mem _ (getL_mem h)
theorem mem_names {L : List (Nat × LO)} {n : Nat} {o : LO} (h : (n, o) ∈ L) : n ∈ names L := List.mem_map.mpr ⟨_, h, rfl⟩
theorem names_setL : ∀ (L : List (Nat × LO)) (n : Nat) (o : LO), names (setL n o L) = names L
  | [], _, _ => rfl
  | (m, u) :: r, n, o => by
    unfold setL
    split
    · rfl
    · show m :: names (setL n o r) = m :: names r
      rw [names_setL r n o]
theorem mem_setL : ∀ {L : List (Nat × LO)} {n m : Nat} {o u : LO}, (names L).Nodup → (m, u) ∈ setL n o L → (m = n ∧ u = o) ∨ (m ≠ n ∧ (m, u) ∈ L)
  | (k, w) :: r, n, m, o, u, nd, h => by
    have nd' : k ∉ names r ∧ (names r).Nodup := List.nodup_cons.mp nd
    unfold setL at h
    split at h
    · rename_i e
      subst e
      rcases List.mem_cons.mp h with h | h
      · cases h; exact .inl ⟨rfl, rfl⟩
      · exact .inr ⟨fun q => nd'.1 (q ▸ mem_names h), List.mem_cons_of_mem _ h⟩
    · rename_i e
      rcases List.mem_cons.mp h with h | h
      · cases h; exact .inr ⟨fun q => e q.symm, List.mem_cons_self⟩
      · rcases mem_setL nd'.2 h with h | ⟨h1, h2⟩
        · exact .inl h
        · exact .inr ⟨h1, List.mem_cons_of_mem _ h2⟩

section
variable {K : Frag} {mg : Mg} {F F' : Hp} {α α' : Nat → Addr} {L L' : List (Nat × LO)}
theorem Stp.refl : Stp F α L F α := ⟨Same.refl _, fun _ _ => rfl⟩
theorem Stp.trans {F2 : Hp} {α2 : Nat → Addr} (a : Stp F α L F' α') (b : Stp F' α' L' F2 α2) (s : ∀ n, n ∈ names L → n ∈ names L') : Stp F α L F2 α2 :=
  ⟨a.fro.trans b.fro, fun n h => (b.nm n (s n h)).trans (a.nm n h)⟩
theorem CRel.step (st : Stp F α L F' α') (hs : ∀ n, n ∈ names L → n ∈ names L') : ∀ {c : Ce} {v : V}, CRel K mg F α L c v → CRel K mg F' α' L' c v
  | .fr _, _, h => Rep.mono st.fro h
  | .ad n, _, ⟨h1, h2⟩ => ⟨hs n h1, by rw [h2, st.nm n h1]⟩
theorem CRels.step (st : Stp F α L F' α') (hs : ∀ n, n ∈ names L → n ∈ names L') : ∀ {c : List Ce} {v : List V}, CRels K mg F α L c v → CRels K mg F' α' L' c v
  | _, _, .nil => .nil
  | _, _, .cons h r => .cons (h.step st hs) (r.step st hs)
theorem CRelF.step (st : Stp F α L F' α') (hs : ∀ n, n ∈ names L → n ∈ names L') : ∀ {c : List (Str × Ce)} {v : List (Str × V)}, CRelF K mg F α L c v → CRelF K mg F' α' L' c v
  | _, _, .nil => .nil
  | _, _, .cons h r => .cons (h.step st hs) (r.step st hs)
theorem CRelK.step {κ : Type} (st : Stp F α L F' α') (hs : ∀ n, n ∈ names L → n ∈ names L') : ∀ {c : List (κ × Ce)} {v : List (κ × V)}, CRelK K mg F α L c v → CRelK K mg F' α' L' c v
  | _, _, .nil => .nil
  | _, _, .cons h r => .cons (h.step st hs) (r.step st hs)
theorem SlR.step (st : Stp F α L F' α') (hs : ∀ n, n ∈ names L → n ∈ names L') : ∀ {c : List (Option Ce)} {v : L2.St}, SlR K mg F α L c v → SlR K mg F' α' L' c v
  | _, _, .nil => .nil
  | _, _, .no r => .no (r.step st hs)
  | _, _, .so h r => .so (h.step st hs) (r.step st hs)
theorem SlR.get : ∀ {c : List (Option Ce)} {σ : L2.St} {i : Nat} {x : Ce}, SlR K mg F α L c σ → c[i]? = some (some x) → ∃ v, σ[i]? = some (some v) ∧ CRel K mg F α L x v
  | _, _, _, _, .nil, h => by simp at h
  | _, _, 0, _, .no _, h => by simp at h
  | _, _, 0, _, .so h _, e => by simp at e; subst e; exact ⟨_, rfl, h⟩
  | _, _, i + 1, _, .no r, e => by
    obtain ⟨v, h1, h2⟩ := SlR.get (i := i) r (by simpa using e)
    exact ⟨v, by simpa using h1, h2⟩
  | _, _, i + 1, _, .so _ r, e => by
    obtain ⟨v, h1, h2⟩ := SlR.get (i := i) r (by simpa using e)
    exact ⟨v, by simpa using h1, h2⟩
theorem SlR.set : ∀ {c : List (Option Ce)} {σ : L2.St} (i : Nat) {x : Ce} {v : V}, SlR K mg F α L c σ → CRel K mg F α L x v → SlR K mg F α L (c.set i (some x)) (σ.set i (some v))
  | _, _, _, _, _, .nil, _ => .nil
  | _, _, 0, _, _, .no r, h => .so h r
  | _, _, 0, _, _, .so _ r, h => .so h r
  | _, _, i + 1, _, _, .no r, h => .no (r.set i h)
  | _, _, i + 1, _, _, .so q r, h => .so q (r.set i h)
theorem SlR.forget : ∀ {c : List (Option Ce)} {σ : L2.St} (i : Nat), SlR K mg F α L c σ → SlR K mg F α L (c.set i none) σ
  | _, _, _, .nil => .nil
  | _, _, 0, .no r => .no r
  | _, _, 0, .so _ r => .no r
  | _, _, i + 1, .no r => .no (r.forget i)
  | _, _, i + 1, .so q r => .so q (r.forget i)
theorem CRels.fr : ∀ {ds : List D} {vs : List V}, CRels K mg F α L (ds.map Ce.fr) vs → Reps K mg F ds vs
  | [], _, .nil => .nil
  | _ :: _, _, .cons h r => .cons h (CRels.fr r)
theorem CRels.of_fr : ∀ {ds : List D} {vs : List V}, Reps K mg F ds vs → CRels K mg F α L (ds.map Ce.fr) vs
  | [], _, .nil => .nil
  | _ :: _, _, .cons h r => .cons h (CRels.of_fr r)
theorem CRels.length : ∀ {c : List Ce} {v : List V}, CRels K mg F α L c v → c.length = v.length
  | _, _, .nil => rfl
  | _, _, .cons _ r => congrArg (· + 1) r.length
theorem CRels.append : ∀ {c c' : List Ce} {v v' : List V}, CRels K mg F α L c v → CRels K mg F α L c' v' → CRels K mg F α L (c ++ c') (v ++ v')
  | _, _, _, _, .nil, s => s
  | _, _, _, _, .cons h r, s => .cons h (r.append s)
theorem CRels.get : ∀ {ds : List Ce} {vs : List V} {i : Nat} {d : Ce}, CRels K mg F α L ds vs → ds[i]? = some d → ∃ v, vs[i]? = some v ∧ CRel K mg F α L d v
  | _, _, _, _, .nil, h => by simp at h
  | _, _, 0, _, .cons h r, e => by simp at e; subst e; exact ⟨_, rfl, h⟩
  | _, _, i + 1, _, .cons h r, e => by
    obtain ⟨v, h1, h2⟩ := CRels.get (i := i) r (by simpa using e)
    exact ⟨v, by simpa using h1, h2⟩
theorem CRelF.look : ∀ {ds : List (Str × Ce)} {vs : List (Str × V)} {n : Str} {d : Ce}, CRelF K mg F α L ds vs → ds.lookup n = some d → ∃ v, vs.lookup n = some v ∧ CRel K mg F α L d v
  | _, _, _, _, .nil, h => by simp at h
  | _, _, n, d, .cons (n := m) h r, e => by
    rw [List.lookup_cons] at e ⊢
    cases q : (n == m) with
    | true => rw [q] at e; cases e; exact ⟨_, rfl, h⟩
    | false => rw [q] at e; exact CRelF.look r e

variable {B : Bd} {H H' : Hp} {a : Addr}
theorem Paired.imp {κ μ : Type} {R R' : κ → μ → Prop} (h : ∀ a b, R a b → R' a b) : ∀ {xs : List κ} {ys : List μ}, Paired R xs ys → Paired R' xs ys
  | _, _, .nil => .nil
  | _, _, .cons r t => .cons (h _ _ r) (Paired.imp h t)
theorem LAt.step {o : LO} (st : Stp F α L F' α') (hs : ∀ n, n ∈ names L → n ∈ names L') (hH : ∀ b u, H b = some u → H' b = some u) (hF : ∀ b u, F' b = some u → F b = some u ∨ H b = none)
    (h : LAt K mg B F α L H a o) : LAt K mg B F' α' L' H' a o := by
  cases o with
  | fl ds => obtain ⟨vs, e, r⟩ := h; exact ⟨vs, hH _ _ e, r.mono st.fro⟩
  | cl cs => obtain ⟨vs, e, r⟩ := h; exact ⟨vs, hH _ _ e, r.step st hs⟩
  | ins c fs =>
    obtain ⟨C, dx, vs, m, e1, e2, e3, e4, r⟩ := h
    refine ⟨C, dx, vs, m, hH _ _ e1, hH _ _ e2, ?_, e4, r.step st hs⟩
    cases q : F' dx with
    | none => rfl
    | some u =>
      rcases hF _ _ q with z | z
      · rw [e3] at z; cases z
      · rw [e2] at z; cases z
  | dT kvs => obtain ⟨vs, e, r⟩ := h; exact ⟨vs, hH _ _ e, Paired.imp (fun _ _ z => ⟨z.1, z.2.mono st.fro⟩) r⟩
  | dK kvs => obtain ⟨vs, e, r⟩ := h; exact ⟨vs, hH _ _ e, r.step st hs⟩
theorem LAt.is {o : LO} (h : LAt K mg B F α L H a o) : ∃ u, H a = some u := by
  cases o with
  | fl ds => obtain ⟨vs, e, r⟩ := h; exact ⟨_, e⟩
  | cl cs => obtain ⟨vs, e, r⟩ := h; exact ⟨_, e⟩
  | ins c fs => obtain ⟨C, dx, vs, m, e1, _⟩ := h; exact ⟨_, e1⟩
  | dT kvs => obtain ⟨vs, e, r⟩ := h; exact ⟨_, e⟩
  | dK kvs => obtain ⟨vs, e, r⟩ := h; exact ⟨_, e⟩

variable {σ : L2.St} {S : Nz.S}
/-- the heap grows, and what is frozen by new things -/
theorem Rel.grow (R : Rel K mg B F α H σ S) (hF : Same F F') (hH : Same H H') (hs : Same F' H') (hn : ∀ b u, F' b = some u → F b = some u ∨ H b = none) : Rel K mg B F' α H' σ S := by
  have st : Stp F α S.L F' α := ⟨hF, fun _ _ => rfl⟩
  refine ⟨hs, R.bF.trans hF, fun b o e => ?_, fun b o e n => hH _ _ (R.frame b o e n), R.nd, R.inj, fun n o h => ?_, R.slots.step st fun _ z => z, R.fix⟩
  · rcases hn b o e with z | z
    · exact R.nF b o z
    · refine .inr ?_
      by_cases f : B.fp b
      · exact .inr f
      · refine .inl ?_
        cases q : B.H0 b with
        | none => rfl
        | some u => rw [R.frame b u q f] at z; cases z
  · obtain ⟨h1, h2, h3⟩ := R.live n o h
    refine ⟨?_, h2, h3.step st (fun _ z => z) hH hn⟩
    cases q : F' (α n) with
    | none => rfl
    | some u =>
      obtain ⟨w', hw⟩ := h3.is
      rcases hn _ _ q with z | z
      · rw [h1] at z; cases z
      · rw [hw] at z; cases z
theorem same_upd {H : Hp} {p : Addr} {o : HO} (h : H p = none) : Same H (upd H p o) := fun b u e => by rw [upd_ne (ne_of_none e h)]; exact e
theorem Rel.fresh (R : Rel K mg B F α H σ S) {p : Addr} (h : H p = none) : F p = none := R.sub.free h
/-- a new frozen thing -/
theorem Rel.allocF (R : Rel K mg B F α H σ S) {p : Addr} {o : HO} (h : H p = none) : Rel K mg B (upd F p o) α (upd H p o) σ S := by
  refine R.grow (same_upd (R.fresh h)) (same_upd h) (fun b u e => ?_) fun b u e => ?_
  · by_cases q : b = p
    · subst q; rw [upd_same] at e ⊢; exact e
    · rw [upd_ne q] at e ⊢; exact R.sub b u e
  · by_cases q : b = p
    · subst q; exact .inr h
    · rw [upd_ne q] at e; exact .inl e
theorem stp_allocF {p : Addr} {o : HO} (h : F p = none) : Stp F α L (upd F p o) α := ⟨same_upd h, fun _ _ => rfl⟩
def setα (α : Nat → Addr) (n : Nat) (p : Addr) : Nat → Addr := fun m => if m = n then p else α m
theorem stp_setα {n : Nat} {p : Addr} (h : n ∉ names L) : Stp F α L F (setα α n p) := ⟨Same.refl _, fun m hm => by show (if m = n then p else α m) = α m; rw [if_neg (show ¬ m = n from fun q => h (by rw [← q]; exact hm))]⟩
theorem names_append (L : List (Nat × LO)) (n : Nat) (o : LO) : names (L ++ [(n, o)]) = names L ++ [n] := by simp [names]
/-- a new live thing -/
theorem Rel.allocL (R : Rel K mg B F α H σ S) {p : Addr} {o : HO} {n : Nat} {u : LO} (h : H p = none) (hn : n ∉ names S.L) (h100 : 100 ≤ n)
    (new : LAt K mg B F (setα α n p) (S.L ++ [(n, u)]) (upd H p o) p u) : Rel K mg B F (setα α n p) (upd H p o) σ ⟨S.ρ, S.L ++ [(n, u)]⟩ := by
  have st : Stp F α S.L F (setα α n p) := stp_setα hn
  have hsub : ∀ m, m ∈ names S.L → m ∈ names (S.L ++ [(n, u)]) := fun m hm => by rw [names_append]; exact List.mem_append_left _ hm
  have hself : setα α n p n = p := by unfold setα; rw [if_pos rfl]
  have hp0 : B.H0 p = none ∨ B.fp p := by
    by_cases f : B.fp p
    · exact .inr f
    · refine .inl ?_
      cases q : B.H0 p with
      | none => rfl
      | some w' => rw [R.frame p w' q f] at h; cases h
  refine ⟨fun b w' e => same_upd h b w' (R.sub b w' e), R.bF, R.nF, fun b w' e f => same_upd h b w' (R.frame b w' e f), ?_, ?_, ?_, R.slots.step st hsub, fun m a e hm => ?_⟩
  · rw [names_append]
    exact List.nodup_append.mpr ⟨R.nd, by simp, fun a ha b hb => by
      have : b = n := by simpa using hb
      subst this
      exact fun q => hn (q ▸ ha)⟩
  · have key : ∀ m, m ∈ names S.L → setα α n p m ≠ p := fun m hm e => by
      rw [st.nm m hm] at e
      obtain ⟨⟨m', o'⟩, h1, h2⟩ := List.mem_map.mp hm
      cases h2
      obtain ⟨w', hw⟩ := (R.live _ _ h1).2.2.is
      rw [e, h] at hw; cases hw
    intro a b ha hb e
    rw [names_append] at ha hb
    rcases List.mem_append.mp ha with ha' | ha' <;> rcases List.mem_append.mp hb with hb' | hb'
    · rw [st.nm a ha', st.nm b hb'] at e; exact R.inj a b ha' hb' e
    · have h2 : b = n := by simpa using hb'
      rw [h2, hself] at e
      exact absurd e (key a ha')
    · have h2 : a = n := by simpa using ha'
      rw [h2, hself] at e
      exact absurd e.symm (key b hb')
    · have h1 : a = n := by simpa using ha'
      have h2 : b = n := by simpa using hb'
      rw [h1, h2]
  · intro m o' hm
    rcases List.mem_append.mp hm with hm | hm
    · obtain ⟨h1, h2, h3⟩ := R.live m o' hm
      have e : setα α n p m = α m := st.nm m (mem_names hm)
      rw [e]
      exact ⟨h1, h2, h3.step st hsub (same_upd h) fun b w' z => .inl z⟩
    · have e : (m, o') = (n, u) := by simpa using hm
      cases e
      rw [hself]
      exact ⟨R.fresh h, hp0, new⟩
  · have hm : m ∈ names (S.L ++ [(n, u)]) := hm
    rw [names_append] at hm
    rcases List.mem_append.mp hm with hm | hm
    · rw [st.nm m hm]; exact R.fix m a e hm
    · have : m = n := by simpa using hm
      rw [this, B.hpa n h100] at e; cases e
/-- a live thing is changed -/
theorem Rel.write (R : Rel K mg B F α H σ S) {n : Nat} {o u : LO} {o' : HO} (hn : (n, o) ∈ S.L)
    (no : ∀ b y, H b = some (.own y) → b ≠ α n) (new : LAt K mg B F α (setL n u S.L) (upd H (α n) o') (α n) u)
    (oth : ∀ m w', (m, w') ∈ S.L → m ≠ n → LAt K mg B F α S.L H (α m) w' → LAt K mg B F α (setL n u S.L) (upd H (α n) o') (α m) w') :
    Rel K mg B F α (upd H (α n) o') σ ⟨S.ρ, setL n u S.L⟩ := by
  obtain ⟨f0, f1, f2⟩ := R.live n o hn
  obtain ⟨w0, hw0⟩ := f2.is
  have st : Stp F α S.L F α := Stp.refl
  have hsub : ∀ m, m ∈ names S.L → m ∈ names (setL n u S.L) := fun m hm => by rw [names_setL]; exact hm
  refine ⟨fun b w' e => ?_, R.bF, R.nF, fun b w' e f => ?_, by rw [names_setL]; exact R.nd, fun a b ha hb e => R.inj a b (by rw [names_setL] at ha; exact ha) (by rw [names_setL] at hb; exact hb) e, fun m w' hm => ?_, R.slots.step st hsub, fun m a e hm => R.fix m a e (by rw [names_setL] at hm; exact hm)⟩
  · rw [upd_ne (fun q => by rw [q, f0] at e; cases e)]; exact R.sub b w' e
  · have hb : b ≠ α n := fun q => by
      subst q
      rcases f1 with z | z
      · rw [z] at e; cases e
      · exact f z
    rw [upd_ne hb]; exact R.frame b w' e f
  · rcases mem_setL R.nd hm with ⟨h1, h2⟩ | ⟨h1, h2⟩
    · subst h1; subst h2
      exact ⟨f0, f1, new⟩
    · obtain ⟨g0, g1, g2⟩ := R.live m w' h2
      exact ⟨g0, g1, oth m w' h2 h1 g2⟩
theorem LAt.other {o : LO} {p : Addr} {w' : HO} (ne : a ≠ p) (no : ∀ b, H b = some (.own a) → b ≠ p) (hs : ∀ n, n ∈ names L → n ∈ names L') (h : LAt K mg B F α L H a o) : LAt K mg B F α L' (upd H p w') a o := by
  have st : Stp F α L F α := Stp.refl
  cases o with
  | fl ds => obtain ⟨vs, e, r⟩ := h; exact ⟨vs, by rw [upd_ne ne]; exact e, r⟩
  | cl cs => obtain ⟨vs, e, r⟩ := h; exact ⟨vs, by rw [upd_ne ne]; exact e, r.step st hs⟩
  | ins c fs => obtain ⟨C, dx, vs, m, e1, e2, e3, e4, r⟩ := h; exact ⟨C, dx, vs, m, by rw [upd_ne ne]; exact e1, by rw [upd_ne (no _ e2)]; exact e2, e3, e4, r.step st hs⟩
  | dT kvs => obtain ⟨vs, e, r⟩ := h; exact ⟨vs, by rw [upd_ne ne]; exact e, r⟩
  | dK kvs => obtain ⟨vs, e, r⟩ := h; exact ⟨vs, by rw [upd_ne ne]; exact e, r.step st hs⟩
theorem LAt.notown {o : LO} (h : LAt K mg B F α L H a o) : ∀ b y, H b = some (.own y) → b ≠ a := fun b y e q => by
  subst q
  cases o with
  | fl ds => obtain ⟨vs, e1, r⟩ := h; rw [e] at e1; cases e1
  | cl cs => obtain ⟨vs, e1, r⟩ := h; rw [e] at e1; cases e1
  | ins c fs => obtain ⟨C, dx, vs, m, e1, _⟩ := h; rw [e] at e1; cases e1
  | dT kvs => obtain ⟨vs, e1, r⟩ := h; rw [e] at e1; cases e1
  | dK kvs => obtain ⟨vs, e1, r⟩ := h; rw [e] at e1; cases e1
/-- .. in short -/
theorem Rel.put (R : Rel K mg B F α H σ S) {n : Nat} {o u : LO} {o' : HO} (hn : (n, o) ∈ S.L) (new : LAt K mg B F α (setL n u S.L) (upd H (α n) o') (α n) u) : Rel K mg B F α (upd H (α n) o') σ ⟨S.ρ, setL n u S.L⟩ := by
  have no := (R.live n o hn).2.2.notown
  refine R.write hn no new fun m w' hm ne h => h.other (fun q => ne (R.inj _ _ (mem_names hm) (mem_names hn) q)) (fun b e => no b _ e) fun k hk => by rw [names_setL]; exact hk
end
end Nz

namespace Nz
open PySem PySem.Spec PyProof.Rows L2

def Sub (L L' : List (Nat × LO)) : Prop := ∀ n, n ∈ names L → n ∈ names L'
theorem Sub.refl {L : List (Nat × LO)} : Sub L L := fun _ h => h
theorem Sub.app {L M : List (Nat × LO)} : Sub L (L ++ M) := fun n h => by rw [names, List.map_append]; exact List.mem_append_left _ h
theorem Sub.setL {L : List (Nat × LO)} {n : Nat} {o : LO} : Sub L (setL n o L) := fun k h => by rw [names_setL]; exact h

/-- the cell c looks like the list ds, the tuple ds -/
def AsL (L : List (Nat × LO)) (c : Ce) (ds : List D) : Prop :=
  match c with
  | .fr d => d = .lst ds
  | .ad n => getL n L = some (.fl ds)
def AsT (c : Ce) (ds : List D) : Prop := c = .fr (.tup ds)
section
variable {X : Cx} {B : Bd} {F : Hp} {α : Nat → Addr} {H : Hp} {σ : L2.St} {S : Nz.S}
theorem Rel.asL (R : RelX X B F α H σ S) {c : Ce} {ds : List D} {v : V} (h : AsL S.L c ds) (r : CR X F α S.L c v) : ∃ a vs, v = .ref a ∧ SqL X.K H a vs ∧ Reps X.K X.mg F ds vs := by
  cases c with
  | fr d =>
    have e : d = .lst ds := h
    subst e
    have r' : Rep X.K X.mg F (.lst ds) v := r
    cases r' with
    | lst h1 h2 => exact ⟨_, _, rfl, R.sub.seq h1, h2⟩
  | ad n =>
    obtain ⟨_, rfl⟩ := r
    obtain ⟨_, _, vs, e, q⟩ := R.live n _ (getL_mem h)
    exact ⟨_, vs, rfl, SqL.of e, q⟩
theorem Rel.asT (R : RelX X B F α H σ S) {ds : List D} {v : V} (r : Rep X.K X.mg F (.tup ds) v) : ∃ a vs, v = .ref a ∧ SqT X.K H a vs ∧ Reps X.K X.mg F ds vs := by
  cases r with
  | tup h1 h2 => exact ⟨_, _, rfl, R.sub.seqT h1, h2⟩
end

/-! ### operations on values -/
def Op2 (X : Cx) (f : Value → Value → Sem Value) (d1 d2 d : D) : Prop :=
  ∀ B F α H σ (S : Nz.S) (Q : VK) x y, RelX X B F α H σ S → Rep X.K X.mg F d1 x → Rep X.K X.mg F d2 y → (∀ F' α' v H', RelX X B F' α' H' σ S → Stp F α S.L F' α' → Rep X.K X.mg F' d v → Q v H') →
    ∀ pins s v u, Inv X pins σ H s → RelV x v → RelV y u → wpAny (model X.prog X.w) X.A (f v u) (EP X pins σ Q) X.xe s
theorem Op2.pure {X : Cx} {f : Value → Value → Sem Value} {d1 d2 d : D} {r : R2} {v : V} (h : OpR X f r) (hd : ∀ F, Rep X.K X.mg F d v)
    (hr : ∀ F H (Q : VK) x y, Same F H → Rep X.K X.mg F d1 x → Rep X.K X.mg F d2 y → Q v H → r x y H Q) : Op2 X f d1 d2 d :=
  fun B F α H σ S Q x y R rx ry k pins s v' u I rv ru => h pins s σ H x y v' u Q I rv ru (hr F H Q x y R.sub rx ry (k F α v H R Stp.refl (hd F)))
section
variable {X : Cx}
theorem op2I {f : Value → Value → Sem Value} {C : Int → Int → Prop} {g : Int → Int → V} {i j : Int} {d : D} (h : OpR X f (rI C g)) (hc : C i j) (hd : ∀ F, Rep X.K X.mg F d (g i j)) : Op2 X f (.int i) (.int j) d :=
  .pure h hd fun F H Q x y _ rx ry q => by cases rx; cases ry; exact ⟨_, _, rfl, rfl, hc, q⟩
theorem op2I0 {f : Value → Value → Sem Value} {g : Int → Int → V} {i j : Int} {d : D} (h : OpR X f (rI0 g)) (hd : ∀ F, Rep X.K X.mg F d (g i j)) : Op2 X f (.int i) (.int j) d :=
  .pure h hd fun F H Q x y _ rx ry q => by cases rx; cases ry; exact ⟨_, _, rfl, rfl, q⟩
theorem o_add {i j : Int} : Op2 X (binaryOp .Add) (.int i) (.int j) (.int (i + j)) := op2I0 op_add fun _ => .int _
theorem o_sub {i j : Int} : Op2 X (binaryOp .Sub) (.int i) (.int j) (.int (i - j)) := op2I0 op_sub fun _ => .int _
theorem o_mul {i j : Int} (h : CMul i j) : Op2 X (binaryOp .Mult) (.int i) (.int j) (.int (i * j)) := op2I op_mul h fun _ => .int _
theorem o_div {i j : Int} (h : 0 < j) (h' : j < 1073741824) : Op2 X (binaryOp .FloorDiv) (.int i) (.int j) (.int (i / j)) := op2I op_fdiv ⟨h, h'⟩ fun _ => .int _
theorem o_mod {i j : Int} (h : 0 < j) : Op2 X (binaryOp .Mod) (.int i) (.int j) (.int (i % j)) := op2I op_mod h fun _ => .int _
theorem o_pow {i j : Int} (h : CPow i j) : Op2 X (binaryOp .Pow) (.int i) (.int j) (.int (i ^ j.toNat)) := op2I op_pow h fun _ => .int _
theorem o_adds {i j : Str} (h : i.length + j.length ≤ sizeLine) : Op2 X (binaryOp .Add) (.str i) (.str j) (.str (i ++ j)) :=
  .pure (v := .str (i ++ j)) op_add_str (fun _ => .str _) fun F H Q x y _ rx ry q => by cases rx; cases ry; exact ⟨_, _, rfl, rfl, h, q⟩
theorem o_lt {i j : Int} : Op2 X (compareOp .Lt) (.int i) (.int j) (.bl (decide (i < j))) := op2I0 op_lt fun _ => .bl _
theorem o_le {i j : Int} : Op2 X (compareOp .LtE) (.int i) (.int j) (.bl (decide (i ≤ j))) := op2I0 op_le fun _ => .bl _
theorem o_gt {i j : Int} : Op2 X (compareOp .Gt) (.int i) (.int j) (.bl (decide (j < i))) := op2I0 op_gt fun _ => .bl _
theorem o_ge {i j : Int} : Op2 X (compareOp .GtE) (.int i) (.int j) (.bl (decide (j ≤ i))) := op2I0 op_ge fun _ => .bl _

theorem o_eqi {i j : Int} : Op2 X (compareOp .Eq) (.int i) (.int j) (.bl (decide (i = j))) :=
  .pure (v := .bl (decide (V.int i = V.int j))) op_eq (fun _ => by rw [show decide (V.int i = V.int j) = decide (i = j) from by simp]; exact .bl _) fun F H Q x y _ rx ry q => by cases rx; cases ry; exact ⟨rfl, q⟩
theorem o_nei {i j : Int} : Op2 X (compareOp .NotEq) (.int i) (.int j) (.bl (!decide (i = j))) :=
  .pure (v := .bl (!decide (V.int i = V.int j))) op_ne (fun _ => by rw [show decide (V.int i = V.int j) = decide (i = j) from by simp]; exact .bl _) fun F H Q x y _ rx ry q => by cases rx; cases ry; exact ⟨rfl, q⟩
theorem o_eqs {i j : Str} : Op2 X (compareOp .Eq) (.str i) (.str j) (.bl (decide (i = j))) :=
  .pure (v := .bl (decide (V.str i = V.str j))) op_eq (fun _ => by rw [show decide (V.str i = V.str j) = decide (i = j) from by simp]; exact .bl _) fun F H Q x y _ rx ry q => by cases rx; cases ry; exact ⟨rfl, q⟩
theorem o_nes {i j : Str} : Op2 X (compareOp .NotEq) (.str i) (.str j) (.bl (!decide (i = j))) :=
  .pure (v := .bl (!decide (V.str i = V.str j))) op_ne (fun _ => by rw [show decide (V.str i = V.str j) = decide (i = j) from by simp]; exact .bl _) fun F H Q x y _ rx ry q => by cases rx; cases ry; exact ⟨rfl, q⟩
theorem o_eqb {i j : Bool} : Op2 X (compareOp .Eq) (.bl i) (.bl j) (.bl (decide (i = j))) :=
  .pure (v := .bl (decide (V.bl i = V.bl j))) op_eq (fun _ => by rw [show decide (V.bl i = V.bl j) = decide (i = j) from by simp]; exact .bl _) fun F H Q x y _ rx ry q => by cases rx; cases ry; exact ⟨rfl, q⟩
theorem o_neb {i j : Bool} : Op2 X (compareOp .NotEq) (.bl i) (.bl j) (.bl (!decide (i = j))) :=
  .pure (v := .bl (!decide (V.bl i = V.bl j))) op_ne (fun _ => by rw [show decide (V.bl i = V.bl j) = decide (i = j) from by simp]; exact .bl _) fun F H Q x y _ rx ry q => by cases rx; cases ry; exact ⟨rfl, q⟩
end

/-! ### expressions -/
section
variable {X : Cx} {B : Bd} {S S1 S2 S3 : Nz.S} {a b c e : Expr} {es : List Expr} {pos p : Pos} {d d1 d2 d3 : D}
theorem ev_var (i : Nat) {x : Str} {c : Ce} (hN : X.N[i]? = some x) (hv : Vis X.env.scope x) (hρ : S.ρ[i]? = some (some c)) (hd : (x == ("__debug__" : Str)) = false := by decide) (hcd : (x == ("__classdict__" : Str)) = false := by decide) : Ev X B (.Name x pos) S c S :=
  fun F α H σ Q R k => wE.of (pe_var hN hv hd hcd) (by
    obtain ⟨v, e, r⟩ := R.slots.get hρ
    exact ⟨v, e, k F α v H R Stp.refl r⟩)
theorem ev_int {i : Int} {j pos} : Ev X B (.Constant (.int i) j pos) S (.fr (.int i)) S := fun F α H σ Q R k => wE.of pe_int (k F α _ H R Stp.refl (.int i))
theorem ev_bl {i : Bool} {j pos} : Ev X B (.Constant (.bool i) j pos) S (.fr (.bl i)) S := fun F α H σ Q R k => wE.of pe_bl (k F α _ H R Stp.refl (.bl i))
theorem ev_non {j pos} : Ev X B (.Constant .none j pos) S (.fr .non) S := fun F α H σ Q R k => wE.of pe_non (k F α _ H R Stp.refl .non)
theorem ev_str {i : Str} {j pos} : Ev X B (.Constant (.str i) j pos) S (.fr (.str i)) S := fun F α H σ Q R k => wE.of pe_str (k F α _ H R Stp.refl (.str i))
theorem ev_gi {x : Str} {i : Int} {t : Tok} (hg : Gl X x) (hm : X.mg x = some (.int i t)) (hd : (x == ("__debug__" : Str)) = false := by decide) : Ev X B (.Name x pos) S (.fr (.int i)) S :=
  fun F α H σ Q R k => wE.of (pe_glob (v := .int i) hg hm ⟨t, rfl⟩ hd) (k F α _ H R Stp.refl (.int i))
theorem ev_gs {x : Str} {i : Str} {t : Tok} (hg : Gl X x) (hm : X.mg x = some (.str i t)) (hd : (x == ("__debug__" : Str)) = false := by decide) : Ev X B (.Name x pos) S (.fr (.str i)) S :=
  fun F α H σ Q R k => wE.of (pe_glob (v := .str i) hg hm ⟨t, rfl⟩ hd) (k F α _ H R Stp.refl (.str i))
theorem ev_bin {op : Operator} (ho : Op2 X (binaryOp op) d1 d2 d) (ha : Ev X B a S (.fr d1) S1) (hb : Ev X B b S1 (.fr d2) S2) (h1 : Sub S.L S1.L := by exact Sub.refl) (h2 : Sub S1.L S2.L := by exact Sub.refl) : Ev X B (.BinOp a op b pos) S (.fr d) S2 :=
  fun F α H σ Q R k pins s I => by
    refine wpAny_BinOp (thn (ha F α H σ _ R (fun F1 α1 v1 H1 R1 st1 r1 => hb F1 α1 H1 σ (fun v2 H2 => ∃ F2 α2, RelX X B F2 α2 H2 σ S2 ∧ Stp F α S.L F2 α2 ∧ Rep X.K X.mg F2 d1 v1 ∧ Rep X.K X.mg F2 d2 v2) R1 fun F2 α2 v2 H2 R2 st2 r2 =>
      ⟨F2, α2, R2, st1.trans st2 h1, Rep.mono st2.fro r1, r2⟩) pins s I) fun v s1 ⟨x, H1, I1, rv, q1⟩ => thn (q1 pins s1 I1) fun u s2 ⟨y, H2, I2, ru, F2, α2, R2, st, r1, r2⟩ => ?_)
    exact ho B F2 α2 H2 σ S2 Q x y R2 r1 r2 (fun F' α' v' H' R' st' r' => k F' α' v' H' R' (st.trans st' fun n h => h2 n (h1 n h)) r') pins s2 v u I2 rv ru
theorem ev_cmp {op : CmpOp} (ho : Op2 X (compareOp op) d1 d2 d) (ha : Ev X B a S (.fr d1) S1) (hb : Ev X B b S1 (.fr d2) S2) (hm : behindInMarks op b = false) (h1 : Sub S.L S1.L := by exact Sub.refl) (h2 : Sub S1.L S2.L := by exact Sub.refl) : Ev X B (.Compare a [op] [b] pos) S (.fr d) S2 :=
  fun F α H σ Q R k pins s I => by
    refine wpAny_Compare1 (thn (ha F α H σ _ R (fun F1 α1 v1 H1 R1 st1 r1 => hb F1 α1 H1 σ (fun v2 H2 => ∃ F2 α2, RelX X B F2 α2 H2 σ S2 ∧ Stp F α S.L F2 α2 ∧ Rep X.K X.mg F2 d1 v1 ∧ Rep X.K X.mg F2 d2 v2) R1 fun F2 α2 v2 H2 R2 st2 r2 =>
      ⟨F2, α2, R2, st1.trans st2 h1, Rep.mono st2.fro r1, r2⟩) pins s I) fun v s1 ⟨x, H1, I1, rv, q1⟩ => thn (q1 pins s1 I1) fun u s2 ⟨y, H2, I2, ru, F2, α2, R2, st, r1, r2⟩ => ?_) hm
    exact ho B F2 α2 H2 σ S2 Q x y R2 r1 r2 (fun F' α' v' H' R' st' r' => k F' α' v' H' R' (st.trans st' fun n h => h2 n (h1 n h)) r') pins s2 v u I2 rv ru
theorem ev_un {op : UnaryOp} {g : Int → V} {i : Int} (ho : UnR X (unaryOp op) (rU g)) (hd : ∀ F, Rep X.K X.mg F d (g i)) (ha : Ev X B a S (.fr (.int i)) S1) : Ev X B (.UnaryOp op a pos) S (.fr d) S1 :=
  fun F α H σ Q R k => wE.of (pe_un ho pe_w) (ha F α H σ _ R fun F1 α1 v1 H1 R1 st1 r1 => by cases r1; exact ⟨_, rfl, k F1 α1 _ H1 R1 st1 (hd F1)⟩)
theorem ev_neg {i : Int} (ha : Ev X B a S (.fr (.int i)) S1) : Ev X B (.UnaryOp .USub a pos) S (.fr (.int (-i))) S1 := ev_un un_neg (fun _ => .int _) ha
theorem ev_not {i : Bool} (ha : Ev X B a S (.fr (.bl i)) S1) : Ev X B (.UnaryOp .Not a pos) S (.fr (.bl (!i))) S1 :=
  fun F α H σ Q R k => wE.of (pe_not pe_w) (ha F α H σ _ R fun F1 α1 v1 H1 R1 st1 r1 => by cases r1; exact ⟨_, rfl, k F1 α1 _ H1 R1 st1 (.bl _)⟩)
theorem ev_one {op : BoolOp} {c : Ce} (ha : Ev X B a S c S1) : Ev X B (.BoolOp op [a] pos) S c S1 :=
  fun F α H σ Q R k => wE.of (pe_one pe_w) (ha F α H σ _ R k)
theorem ev_and {i j : Bool} (ha : Ev X B a S (.fr (.bl i)) S) (hb : i = true → Ev X B (.BoolOp .And (b :: es) pos) S (.fr (.bl j)) S) : Ev X B (.BoolOp .And (a :: b :: es) pos) S (.fr (.bl (i && j))) S :=
  fun F α H σ Q R k => wE.of (pe_and pe_w pe_w) (ha F α H σ _ R fun F1 α1 v1 H1 R1 st1 r1 => by
    cases r1
    refine ⟨i, rfl, ?_⟩
    cases i with
    | true => rw [if_pos rfl]; exact hb rfl F1 α1 H1 σ _ R1 fun F2 α2 v2 H2 R2 st2 r2 => k F2 α2 v2 H2 R2 (st1.trans st2 Sub.refl) (by simpa using r2)
    | false => rw [if_neg Bool.false_ne_true]; exact k F1 α1 _ H1 R1 st1 (.bl _))
theorem ev_or {i j : Bool} (ha : Ev X B a S (.fr (.bl i)) S) (hb : i = false → Ev X B (.BoolOp .Or (b :: es) pos) S (.fr (.bl j)) S) : Ev X B (.BoolOp .Or (a :: b :: es) pos) S (.fr (.bl (i || j))) S :=
  fun F α H σ Q R k => wE.of (pe_or pe_w pe_w) (ha F α H σ _ R fun F1 α1 v1 H1 R1 st1 r1 => by
    cases r1
    refine ⟨i, rfl, ?_⟩
    cases i with
    | false => rw [if_neg Bool.false_ne_true]; exact hb rfl F1 α1 H1 σ _ R1 fun F2 α2 v2 H2 R2 st2 r2 => k F2 α2 v2 H2 R2 (st1.trans st2 Sub.refl) (by simpa using r2)
    | true => rw [if_pos rfl]; exact k F1 α1 _ H1 R1 st1 (.bl _))
/-- tests -/
theorem et_val {i : Bool} (ha : Ev X B a S (.fr (.bl i)) S1) (he : ∀ whole, isTrue a X.env whole = (do let v ← whole; standAt a.pos; holding [v] (truthy v)) := by intro _; rfl) : Et X B a S i S1 :=
  fun F α H σ Q R k => wT.of (pt_val pe_w he) (ha F α H σ _ R fun F1 α1 v1 H1 R1 st1 r1 => by cases r1; exact ⟨i, rfl, k F1 α1 H1 R1 st1⟩)
theorem et_cmp {op : CmpOp} {i : Bool} (ho : Op2 X (compareOp op) d1 d2 (.bl i)) (ha : Ev X B a S (.fr d1) S1) (hb : Ev X B b S1 (.fr d2) S2) (hm : behindInMarks op b = false) (h1 : Sub S.L S1.L := by exact Sub.refl) (h2 : Sub S1.L S2.L := by exact Sub.refl) : Et X B (.Compare a [op] [b] pos) S i S2 :=
  fun F α H σ Q R k pins s I => by
    refine wpAny_isTrue_Compare1 (thn (ha F α H σ _ R (fun F1 α1 v1 H1 R1 st1 r1 => hb F1 α1 H1 σ (fun v2 H2 => ∃ F2 α2, RelX X B F2 α2 H2 σ S2 ∧ Stp F α S.L F2 α2 ∧ Rep X.K X.mg F2 d1 v1 ∧ Rep X.K X.mg F2 d2 v2) R1 fun F2 α2 v2 H2 R2 st2 r2 =>
      ⟨F2, α2, R2, st1.trans st2 h1, Rep.mono st2.fro r1, r2⟩) pins s I) fun v s1 ⟨x, H1, I1, rv, q1⟩ => thn (q1 pins s1 I1) fun u s2 ⟨y, H2, I2, ru, F2, α2, R2, st, r1, r2⟩ => ?_) hm
    refine thn (ho B F2 α2 H2 σ S2 (fun v' H' => ∃ k, v' = .bl k ∧ Q k H') x y R2 r1 r2 (fun F' α' v' H' R' st' r' => by cases r'; exact ⟨i, rfl, k F' α' H' R' (st.trans st' fun n h => h2 n (h1 n h))⟩) pins s2 v u I2 rv ru) fun c s3 ⟨z, H3, I3, r3, k', e, q3⟩ => ?_
    subst e
    cases r3
    exact wpAny_truthy_bool ⟨H3, I3, q3⟩
theorem et_not {i : Bool} (ha : Et X B a S i S1) : Et X B (.UnaryOp .Not a pos) S (!i) S1 := fun F α H σ Q R k => wT.of (pt_not pt_w) (ha F α H σ _ R k)
/-- a chain of tests, whatever its whole -/
def Ew (X : Cx) (B : Bd) (e : Expr) (S : Nz.S) (b : Bool) : Prop :=
  ∀ F α H σ (Q : Bool → Hp → Prop), RelX X B F α H σ S → (∀ F' α' H', RelX X B F' α' H' σ S → Stp F α S.L F' α' → Q b H') → ∀ whole pins s, Inv X pins σ H s → wpAny (model X.prog X.w) X.A (isTrue e X.env whole) (TP X pins σ Q) X.xe s
def tW (X : Cx) (e : Expr) : TT := fun σ H Q => ∀ whole pins s, Inv X pins σ H s → wpAny (model X.prog X.w) X.A (isTrue e X.env whole) (TP X pins σ Q) X.xe s
theorem pw_w {e : Expr} : PW X e (tW X e) := ⟨fun whole pins s σ H Q I h => h whole pins s I⟩
theorem Ew.of {e : Expr} {t : TT} {i : Bool} (h : PW X e t) (q : ∀ F α H σ (Q : Bool → Hp → Prop), RelX X B F α H σ S → (∀ F' α' H', RelX X B F' α' H' σ S → Stp F α S.L F' α' → Q i H') → t σ H Q) : Ew X B e S i :=
  fun F α H σ Q R k whole pins s I => h.run whole pins s σ H Q I (q F α H σ Q R k)
theorem Ew.et {e : Expr} {i : Bool} (h : Ew X B e S i) : Et X B e S i S := fun F α H σ Q R k pins s I => h F α H σ Q R k _ pins s I
theorem ew_and1 {i : Bool} (ha : Et X B a S i S) : Ew X B (.BoolOp .And [a] pos) S i := .of (pw_and1 pt_w) fun F α H σ Q R k => ha F α H σ _ R k
theorem ew_or1 {i : Bool} (ha : Et X B a S i S) : Ew X B (.BoolOp .Or [a] pos) S i := .of (pw_or1 pt_w) fun F α H σ Q R k => ha F α H σ _ R k
theorem ew_and {i j : Bool} (ha : Et X B a S i S) (hb : i = true → Ew X B (.BoolOp .And (b :: es) pos) S j) : Ew X B (.BoolOp .And (a :: b :: es) pos) S (i && j) :=
  .of (pw_and pt_w pw_w) fun F α H σ Q R k => ha F α H σ _ R fun F1 α1 H1 R1 st1 => by
    cases i with
    | true => rw [if_pos rfl]; exact hb rfl F1 α1 H1 σ _ R1 fun F2 α2 H2 R2 st2 => by simpa using k F2 α2 H2 R2 (st1.trans st2 Sub.refl)
    | false => rw [if_neg Bool.false_ne_true]; simpa using k F1 α1 H1 R1 st1
theorem ew_or {i j : Bool} (ha : Et X B a S i S) (hb : i = false → Ew X B (.BoolOp .Or (b :: es) pos) S j) : Ew X B (.BoolOp .Or (a :: b :: es) pos) S (i || j) :=
  .of (pw_or pt_w pw_w) fun F α H σ Q R k => ha F α H σ _ R fun F1 α1 H1 R1 st1 => by
    cases i with
    | false => rw [if_neg Bool.false_ne_true]; exact hb rfl F1 α1 H1 σ _ R1 fun F2 α2 H2 R2 st2 => by simpa using k F2 α2 H2 R2 (st1.trans st2 Sub.refl)
    | true => rw [if_pos rfl]; simpa using k F1 α1 H1 R1 st1
theorem ev_if {t : Expr} {i : Bool} (ht : Et X B t S i S) (ha : i = true → Ev X B a S (.fr d1) S) (hb : i = false → Ev X B b S (.fr d2) S) : Ev X B (.IfExp t a b pos) S (.fr (if i = true then d1 else d2)) S :=
  fun F α H σ Q R k => wE.of (pe_ifExp pt_w pe_w pe_w) (ht F α H σ _ R fun F1 α1 H1 R1 st1 => by
    cases i with
    | true => rw [if_pos rfl]; exact ha rfl F1 α1 H1 σ _ R1 fun F2 α2 v2 H2 R2 st2 r2 => k F2 α2 v2 H2 R2 (st1.trans st2 Sub.refl) (by simpa using r2)
    | false => rw [if_neg Bool.false_ne_true]; exact hb rfl F1 α1 H1 σ _ R1 fun F2 α2 v2 H2 R2 st2 r2 => k F2 α2 v2 H2 R2 (st1.trans st2 Sub.refl) (by simpa using r2))

/-! argument lists -/
theorem ea_nil : Ea X B [] S [] S := fun F α H σ Q R k => wA.of pa_nil (k F α _ H R Stp.refl .nil)
theorem ea_cons {c : Ce} {cs : List Ce} (ha : Ev X B a S c S1) (hr : Ea X B es S1 cs S2) (h1 : Sub S.L S1.L := by exact Sub.refl) (h2 : Sub S1.L S2.L := by exact Sub.refl) (hs : starEach (a :: es) X.env = (false, eval a X.env) :: starEach es X.env := by rfl) : Ea X B (a :: es) S (c :: cs) S2 :=
  fun F α H σ Q R k => wA.of (pa_cons pe_w pa_w hs) (ha F α H σ _ R fun F1 α1 v1 H1 R1 st1 r1 => hr F1 α1 H1 σ _ R1 fun F2 α2 vs H2 R2 st2 r2 => k F2 α2 _ H2 R2 (st1.trans st2 h1) (.cons (r1.step st2 h2) r2))

/-! displays -/
theorem ev_lst {ds : List D} (h : Ea X B es S (ds.map Ce.fr) S1) (hz : ds.length ≤ sizeLine) : Ev X B (.List es pos) S (.fr (.lst ds)) S1 :=
  fun F α H σ Q R k => wE.of (pe_lst pa_w) (h F α H σ _ R fun F1 α1 vs H1 R1 st1 r1 => by
    have r := r1.fr
    refine ⟨by rw [← r.length]; exact hz, fun p hp => ?_⟩
    have hf := R1.fresh hp
    exact k _ α1 _ _ (R1.allocF hp) ⟨st1.fro.trans (same_upd hf), st1.nm⟩ (Rep.lst (SqL.of upd_same) (r.mono (same_upd hf))))
theorem ev_tup {ds : List D} {k1} (h : Ea X B es S (ds.map Ce.fr) S1) (hz : ds.length ≤ sizeLine) : Ev X B (.Tuple es k1 pos) S (.fr (.tup ds)) S1 :=
  fun F α H σ Q R k => wE.of (pe_tup pa_w) (h F α H σ _ R fun F1 α1 vs H1 R1 st1 r1 => by
    have r := r1.fr
    refine ⟨by rw [← r.length]; exact hz, fun p hp => ?_⟩
    have hf := R1.fresh hp
    exact k _ α1 _ _ (R1.allocF hp) ⟨st1.fro.trans (same_upd hf), st1.nm⟩ (Rep.tup (SqT.of upd_same) (r.mono (same_upd hf))))
theorem ev_lstL (n : Nat) {ds : List D} (h : Ea X B es S (ds.map Ce.fr) S1) (hz : ds.length ≤ sizeLine) (hn : n ∉ names S1.L) (h100 : 100 ≤ n) (h1 : Sub S.L S1.L := by exact Sub.refl) : Ev X B (.List es pos) S (.ad n) ⟨S1.ρ, S1.L ++ [(n, .fl ds)]⟩ :=
  fun F α H σ Q R k => wE.of (pe_lst pa_w) (h F α H σ _ R fun F1 α1 vs H1 R1 st1 r1 => by
    have r := r1.fr
    refine ⟨by rw [← r.length]; exact hz, fun p hp => ?_⟩
    refine k F1 (setα α1 n p) _ _ (R1.allocL hp hn h100 ⟨vs, upd_same, r⟩) (st1.trans (stp_setα hn) h1) ⟨?_, ?_⟩
    · rw [names_append]; exact List.mem_append_right _ (List.mem_singleton.mpr rfl)
    · show V.ref p = V.ref (if n = n then p else α1 n)
      rw [if_pos rfl])

/-! items -/
theorem ev_ixL {ca : Ce} {i : Int} {ds : List D} (ha : Ev X B a S ca S1) (hb : Ev X B b S1 (.fr (.int i)) S2) (hl : AsL S2.L ca ds) (hi : atI ds i = some d) (hs : PlainIx b := by exact fun _ _ => rfl) (h1 : Sub S.L S1.L := by exact Sub.refl) (h2 : Sub S1.L S2.L := by exact Sub.refl) :
    Ev X B (.Subscript a b pos) S (.fr d) S2 :=
  fun F α H σ Q R k => wE.of (pe_ix ix_list pe_w pe_w hs) (ha F α H σ _ R fun F1 α1 v1 H1 R1 st1 r1 => hb F1 α1 H1 σ _ R1 fun F2 α2 v2 H2 R2 st2 r2 => by
    obtain ⟨p, vs, rfl, hq, rs⟩ := R2.asL hl (r1.step st2 h2)
    cases r2
    obtain ⟨v, hv, rv⟩ : ∃ v, atI vs i = some v ∧ Rep X.K X.mg F2 d v := by
      unfold atI at hi ⊢
      rw [← rs.length]
      cases q : ixN ds.length i with
      | none => rw [q] at hi; cases hi
      | some j => rw [q] at hi; exact rs.get hi
    exact ⟨p, vs, i, v, rfl, rfl, hq, hv, k F2 α2 v H2 R2 (st1.trans st2 h1) rv⟩)
theorem ev_ixT {i : Int} {ds : List D} (ha : Ev X B a S (.fr (.tup ds)) S1) (hb : Ev X B b S1 (.fr (.int i)) S2) (hi : atI ds i = some d) (hs : PlainIx b := by exact fun _ _ => rfl) (h1 : Sub S.L S1.L := by exact Sub.refl) (h2 : Sub S1.L S2.L := by exact Sub.refl) :
    Ev X B (.Subscript a b pos) S (.fr d) S2 :=
  fun F α H σ Q R k => wE.of (pe_ix ix_tup pe_w pe_w hs) (ha F α H σ _ R fun F1 α1 v1 H1 R1 st1 r1 => hb F1 α1 H1 σ _ R1 fun F2 α2 v2 H2 R2 st2 r2 => by
    obtain ⟨p, vs, rfl, hq, rs⟩ := R2.asT (Rep.mono st2.fro r1)
    cases r2
    obtain ⟨v, hv, rv⟩ : ∃ v, atI vs i = some v ∧ Rep X.K X.mg F2 d v := by
      unfold atI at hi ⊢
      rw [← rs.length]
      cases q : ixN ds.length i with
      | none => rw [q] at hi; cases hi
      | some j => rw [q] at hi; exact rs.get hi
    exact ⟨p, vs, i, v, rfl, rfl, hq, hv, k F2 α2 v H2 R2 (st1.trans st2 h1) rv⟩)
end
end Nz

namespace Nz
open PySem PySem.Spec PyProof.Rows L2

/-! ### what is walked -/
def wI (X : Cx) (tg iter : Expr) (σ : L2.St) (H : Hp) (R : It → Hp → Prop) : Prop :=
  ∀ pins s, Inv X pins σ H s → wpAny (model X.prog X.w) X.A (eval iter X.env) (fun v s1 => wpAny (model X.prog X.w) X.A (pyIter v) (PIE X pins σ tg R) X.xe s1) X.xe s
theorem pi_w {X : Cx} {tg iter : Expr} : PI X tg iter (wI X tg iter) := ⟨fun pins s σ H R I h => h pins s I⟩
theorem wI.of {X : Cx} {tg iter : Expr} {t : TI} {σ : L2.St} {H : Hp} {R : It → Hp → Prop} (h : PI X tg iter t) (q : t σ H R) : wI X tg iter σ H R := fun pins s I => h.run pins s σ H R I q
structure JOk (K : Frag) (mg : Mg) (F : Hp) (J : It) (xs : List D) : Prop where
  go : ∀ (B : Bd) F' α H σ (S : Nz.S) (i : Nat) (d : D), Rel K mg B F' α H σ S → Same F F' → xs[i]? = some d → J.go i H ∧ ∀ x H', J.yld i H x H' → ∃ F2, Rel K mg B F2 α H' σ S ∧ Same F' F2 ∧ Rep K mg F2 d x
  stop : ∀ (B : Bd) F' α H σ (S : Nz.S) (i : Nat), Rel K mg B F' α H σ S → Same F F' → xs.length ≤ i → J.stop i H
def Src (X : Cx) (B : Bd) (tg iter : Expr) (S : Nz.S) (xs : List D) (S1 : Nz.S) : Prop :=
  ∀ F α H σ R, RelX X B F α H σ S → (∀ F' α' H' J, RelX X B F' α' H' σ S1 → Stp F α S.L F' α' → JOk X.K X.mg F' J xs → R J H') → wI X tg iter σ H R
section
variable {X : Cx} {B : Bd} {S S1 S2 S3 : Nz.S} {tg a b c e : Expr} {es : List Expr} {pos p : Pos} {d d1 d2 d3 : D} {xs : List D}
theorem src_list (h : Ev X B e S (.fr (.lst xs)) S1) : Src X B tg e S xs S1 := fun F α H σ R RR k => wI.of (pi_list pe_w) (h F α H σ _ RR fun F1 α1 v1 H1 R1 st1 r1 => by
  cases r1 with
  | lst h1 h2 =>
    rename_i a vs
    refine ⟨a, rfl, ⟨vs, R1.sub.seq h1⟩, k F1 α1 H1 _ R1 st1 ⟨fun B F' α H σ S i d R' hs hi => ?_, fun B F' α H σ S i R' hs hi => ⟨vs, R'.sub.seq (hs.seq h1), by rw [← h2.length]; exact hi⟩⟩⟩
    obtain ⟨v, hv, rv⟩ := h2.get hi
    refine ⟨⟨vs, v, R'.sub.seq (hs.seq h1), hv⟩, fun x H' y => ?_⟩
    obtain ⟨rfl, y⟩ := y
    have := y vs (R'.sub.seq (hs.seq h1))
    rw [hv] at this; cases this
    exact ⟨F', R', Same.refl _, rv.mono hs⟩)
theorem src_tup (h : Ev X B e S (.fr (.tup xs)) S1) : Src X B tg e S xs S1 := fun F α H σ R RR k => wI.of (pi_tup pe_w) (h F α H σ _ RR fun F1 α1 v1 H1 R1 st1 r1 => by
  cases r1 with
  | tup h1 h2 =>
    rename_i a vs
    refine ⟨a, rfl, ⟨vs, R1.sub.seqT h1⟩, k F1 α1 H1 _ R1 st1 ⟨fun B F' α H σ S i d R' hs hi => ?_, fun B F' α H σ S i R' hs hi => ⟨vs, R'.sub.seqT (hs.seqT h1), by rw [← h2.length]; exact hi⟩⟩⟩
    obtain ⟨v, hv, rv⟩ := h2.get hi
    refine ⟨⟨vs, v, R'.sub.seqT (hs.seqT h1), hv⟩, fun x H' y => ?_⟩
    obtain ⟨rfl, y⟩ := y
    have := y vs (R'.sub.seqT (hs.seqT h1))
    rw [hv] at this; cases this
    exact ⟨F', R', Same.refl _, rv.mono hs⟩)
/-- lo, lo + 1, .. -/
def rngD (lo : Int) (n : Nat) : List D := (List.range n).map fun (i : Nat) => D.int (lo + (i : Int))
theorem rngD_get {lo : Int} {n i : Nat} {d : D} (h : (rngD lo n)[i]? = some d) : i < n ∧ d = .int (lo + i) := by
  unfold rngD at h
  rw [List.getElem?_map] at h
  by_cases hi : i < n
  · rw [List.getElem?_range hi] at h
    exact ⟨hi, (Option.some.inj h).symm⟩
  · rw [List.getElem?_eq_none (by simpa using hi)] at h
    cases h
theorem rngD_len {lo : Int} {n : Nat} : (rngD lo n).length = n := by simp [rngD]
theorem jok_range {K : Frag} {mg : Mg} {F : Hp} {lo : Int} {n : Nat} : JOk K mg F (Itr lo n) (rngD lo n) :=
  ⟨fun B F' α H σ S i d R' hs hi => by
    obtain ⟨h1, rfl⟩ := rngD_get hi
    refine ⟨h1, fun x H' y => ?_⟩
    obtain ⟨rfl, rfl⟩ := y
    exact ⟨F', R', Same.refl _, .int _⟩, fun B F' α H σ S i R' hs hi => by rw [rngD_len] at hi; exact hi⟩
theorem src_range1 {j : Int} (h : Ea X B [a] S [.fr (.int j)] S1) (hg : Gl X "range") (hm : X.mg "range" = none) (h1 : -(2 ^ 62) ≤ j) (h2 : j < 2 ^ 62) (hs : starEach [a] X.env = [(false, eval a X.env)] := by rfl) : Src X B tg (.Call (.Name "range" p) [a] [] pos) S (rngD 0 j.toNat) S1 :=
  fun F α H σ R RR k => wI.of (pi_range1 hg hm pa_w hs) (h F α H σ _ RR fun F1 α1 vs H1 R1 st1 r1 => by
    cases r1 with
    | cons r1 r2 =>
      cases r2
      cases r1
      exact ⟨j, rfl, h1, h2, k F1 α1 H1 _ R1 st1 jok_range⟩)
theorem src_range2 {i j : Int} (h : Ea X B [a, b] S [.fr (.int i), .fr (.int j)] S1) (hg : Gl X "range") (hm : X.mg "range" = none) (h1 : -(2 ^ 62) ≤ i) (h2 : i < 2 ^ 62) (h3 : -(2 ^ 62) ≤ j) (h4 : j < 2 ^ 62) (hs : starEach [a, b] X.env = [(false, eval a X.env), (false, eval b X.env)] := by rfl) (hs2 : starEach [b] X.env = [(false, eval b X.env)] := by rfl) :
    Src X B tg (.Call (.Name "range" p) [a, b] [] pos) S (rngD i (j - i).toNat) S1 :=
  fun F α H σ R RR k => wI.of (pi_range2 hg hm pa_w hs hs2) (h F α H σ _ RR fun F1 α1 vs H1 R1 st1 r1 => by
    cases r1 with
    | cons r1 r2 =>
      cases r2 with
      | cons r2 r3 =>
        cases r3
        cases r1
        cases r2
        exact ⟨i, j, rfl, ⟨h1, h2, h3, h4⟩, k F1 α1 H1 _ R1 st1 jok_range⟩)

/-! ### targets -/
def wG (X : Cx) (tg : Expr) (v : V) (σ : L2.St) (H : Hp) (Q : L2.St → Hp → Prop) : Prop :=
  ∀ pins s u, Inv X pins σ H s → RelV v u → wpAny (model X.prog X.w) X.A (assign tg X.env u) (fun _ s' => ∃ σ' H', Inv X pins σ' H' s' ∧ Q σ' H') X.xe s
theorem pg_w {tg : Expr} : PG X tg (fun v σ H Q => wG X tg v σ H Q) := ⟨fun pins s σ H v u Q I r h => h pins s u I r⟩
def Eg (X : Cx) (B : Bd) (tg : Expr) (c : Ce) (S S2 : Nz.S) : Prop :=
  ∀ F α H σ v Q, RelX X B F α H σ S → CR X F α S.L c v → (∀ σ' F' H', RelX X B F' α H' σ' S2 → Same F F' → Q σ' H') → wG X tg v σ H Q
def setS (S : Nz.S) (i : Nat) (c : Ce) : Nz.S := ⟨S.ρ.set i (some c), S.L⟩
theorem Rel.setS {K : Frag} {mg : Mg} {F : Hp} {α : Nat → Addr} {H : Hp} {σ : L2.St} (R : Rel K mg B F α H σ S) {i : Nat} {c : Ce} {v : V} (r : CRel K mg F α S.L c v) : Rel K mg B F α H (σ.set i (some v)) (setS S i c) :=
  ⟨R.sub, R.bF, R.nF, R.frame, R.nd, R.inj, R.live, R.slots.set i r, R.fix⟩
theorem eg_name (i : Nat) {x : Str} {c : Ce} (hN : X.N.Nodup) (hi : X.N[i]? = some x) (hx : Loc X.env.scope x) (hf : X.fn x = true ∨ X.env.scope.names.lookup x = some .local := by first | exact .inl rfl | exact .inr rfl | assumption) : Eg X B (.Name x pos) c S (setS S i c) :=
  fun F α H σ v Q R r k pins s u I ru => (pg_name hN hi hx hf).run pins s σ H v u Q I ru (k _ F H (R.setS r) (Same.refl _))
/-- several -/
def Egs (X : Cx) (B : Bd) (ts : List Expr) (cs : List D) (S S2 : Nz.S) : Prop :=
  ∀ F α H σ vs (Q : L2.St → Hp → Prop), RelX X B F α H σ S → Reps X.K X.mg F cs vs → (∀ σ' F' H', RelX X B F' α H' σ' S2 → Same F F' → Q σ' H') →
    ∀ pins s us, Inv X pins σ H s → Vals vs us → wpAny (model X.prog X.w) X.A (assignInOrder ((assignEach ts X.env).map (·.2)) us) (fun _ s' => ∃ σ' H', Inv X pins σ' H' s' ∧ Q σ' H') X.xe s
theorem egs_nil : Egs X B [] [] S S := fun F α H σ vs Q R r k pins s us I ru => by
  cases r
  cases ru
  exact assignInOrder_nil ⟨σ, H, I, k σ F H R (Same.refl _)⟩
theorem egs_cons {ds : List D} (h1 : Eg X B e (.fr d) S S1) (h2 : Egs X B es ds S1 S2) (hL : S1.L = S.L := by rfl) (hs : (assignEach (e :: es) X.env).map (·.2) = assign e X.env :: (assignEach es X.env).map (·.2) := by rfl) : Egs X B (e :: es) (d :: ds) S S2 :=
  fun F α H σ vs Q R r k pins s us I ru => by
    cases r with
    | cons r rr =>
      cases ru with
      | cons u uu =>
        rw [hs]
        refine assignInOrder_cons (thn (h1 F α H σ _ (fun σ1 H1 => ∃ F1, RelX X B F1 α H1 σ1 S1 ∧ Same F F1) R r (fun σ' F' H' R' s' => ⟨F', R', s'⟩) pins s _ I u) fun _ s1 ⟨σ1, H1, I1, F1, R1, sm⟩ => ?_)
        exact h2 F1 α H1 σ1 _ Q R1 (rr.mono sm) (fun σ' F' H' R' s' => k σ' F' H' R' (sm.trans s')) pins s1 _ I1 uu
theorem eg_tup {ds : List D} {k1} (hc : X.calm = true) (h : Egs X B es ds S S2) (hn : (assignEach es X.env).length = ds.length := by rfl) (hst : (assignEach es X.env).findIdx? (·.1) = none := by rfl) : Eg X B (.Tuple es k1 pos) (.fr (.tup ds)) S S2 :=
  fun F α H σ v Q R r k pins s u I ru => by
    cases (show Rep X.K X.mg F (.tup ds) v from r) with
    | tup hq hr =>
      have hq' := R.sub.seqT hq
      cases ru
      obtain ⟨its, rv, ht, hz⟩ := I.tuple hq'
      refine assign_Tuple_tuple (I.ok.hd hc) ht (by simp [hn, hr.length, rv.length]) hst fun h' hx => ?_
      have I1 : Inv X pins σ H { s with heap := h' } := I.kept (t' := s.toks) fun b o e => hx b o (Nat.ne_of_lt (Heap.lt_size e)) e
      exact h F α H σ _ Q R hr k pins _ _ I1 (by simpa using rv)

/-! ### statements -/
variable {K : Out → Prop} {st : Stmt} {sts body els : List Stmt}
def seqK (X : Cx) (B : Bd) (rest : List Stmt) (K : Out → Prop) : Out → Prop
  | .nx S => Exs X B rest S K
  | .ret c S => K (.ret c S)
  | .bk S => K (.bk S)
  | .ct S => K (.ct S)
theorem exs_nil (h : K (.nx S)) : Exs X B [] S K := fun F α H σ D R o => wSs.of pss_nil (o.nx S F α H σ h R (Same.refl _))
theorem exs_cons (h : Ex X B st S (seqK X B sts K)) : Exs X B (st :: sts) S K := fun F α H σ D R o => wSs.of (pss_cons ps_w pss_w) (h F α H σ _ R
  ⟨fun S' F' α' H' σ' k R' s' => k F' α' H' σ' D R' (o.mono s'), fun S' F' α' H' σ' k R' s' => o.bk S' F' α' H' σ' k R' s', fun S' F' α' H' σ' k R' s' => o.ct S' F' α' H' σ' k R' s',
    fun c S' F' α' H' σ' v k R' s' r => o.ret c S' F' α' H' σ' v k R' s' r⟩)
theorem exs_one (h : Ex X B st S K) : Exs X B [st] S K := fun F α H σ D R o => wSs.of (pss_one ps_w) (h F α H σ _ R o)
theorem ex_asg {cv : Ce} (he : Ev X B e S cv S1) (hg : Eg X B tg cv S1 S2) (k : K (.nx S2)) (hs : swapsWithSole [tg] e pos.line X.env = pure false := by rfl) (hw : swappedStores [tg] e X.env = pure none := by rfl)
    (h1 : (assignEach [tg] X.env).map (·.2) = [assign tg X.env] := by rfl) : Ex X B (.Assign [tg] e pos) S K := fun F α H σ D R o => wS.of (ps_asg pe_w pg_w hs hw h1) (he F α H σ _ R fun F1 α1 v1 H1 R1 st1 r1 =>
      hg F1 α1 H1 σ v1 _ R1 r1 fun σ' F' H' R' s' => o.nx S2 F' α1 H' σ' k R' (st1.fro.trans s'))
theorem ex_set (i : Nat) {x : Str} {c : Ce} {pos' : Pos} (he : Ev X B e S c S1) (k : K (.nx (setS S1 i c))) (hN : X.N.Nodup) (hi : X.N[i]? = some x) (hx : Loc X.env.scope x) (hs : swapsWith e (some (.Name x pos')) pos.line X.env = pure false := by rfl)
    (hf : X.fn x = true ∨ X.env.scope.names.lookup x = some .local := by first | exact .inl rfl | exact .inr rfl | assumption) : Ex X B (.Assign [.Name x pos'] e pos) S K :=
  fun F α H σ D R o => wS.of (ps_set hN hi hx pe_w hs hf) (he F α H σ _ R fun F1 α1 v1 H1 R1 st1 r1 => o.nx _ F1 α1 H1 _ k (R1.setS r1) st1.fro)
theorem ex_ret {c : Ce} (he : Ev X B e S c S1) (k : K (.ret c S1)) : Ex X B (.Return (some e) pos) S K := fun F α H σ D R o => wS.of (ps_ret pe_w) (he F α H σ _ R fun F1 α1 v1 H1 R1 st1 r1 => o.ret c S1 F1 α1 H1 σ v1 k R1 st1.fro r1)
theorem ex_retN (k : K (.ret (.fr .non) S)) : Ex X B (.Return none pos) S K := fun F α H σ D R o => wS.of ps_retN (o.ret _ S F α H σ _ k R (Same.refl _) .non)
theorem ex_expr {c : Ce} (he : Ev X B e S c S1) (k : K (.nx S1)) (hs : swapsWith e none pos.line X.env = pure false := by rfl) : Ex X B (.Expr e pos) S K := fun F α H σ D R o => wS.of (ps_expr pe_w hs) (he F α H σ _ R fun F1 α1 v1 H1 R1 st1 r1 => o.nx S1 F1 α1 H1 σ k R1 st1.fro)
theorem ex_pass (k : K (.nx S)) : Ex X B (.Pass pos) S K := fun F α H σ D R o => wS.of ps_pass (o.nx S F α H σ k R (Same.refl _))
theorem ex_break (k : K (.bk S)) : Ex X B (.Break pos) S K := fun F α H σ D R o => wS.of ps_break (o.bk S F α H σ k R (Same.refl _))
theorem ex_cont (k : K (.ct S)) : Ex X B (.Continue pos) S K := fun F α H σ D R o => wS.of ps_continue (o.ct S F α H σ k R (Same.refl _))
theorem ex_if {i : Bool} (ht : Et X B e S i S1) (ha : i = true → Exs X B body S1 K) (hb : i = false → Exs X B els S1 K) : Ex X B (.If e body els pos) S K := fun F α H σ D R o => wS.of (ps_if pt_w pss_w pss_w) (ht F α H σ _ R fun F1 α1 H1 R1 st1 => by
  cases i with
  | true => rw [if_pos rfl]; exact ha rfl F1 α1 H1 σ D R1 (o.mono st1.fro)
  | false => rw [if_neg Bool.false_ne_true]; exact hb rfl F1 α1 H1 σ D R1 (o.mono st1.fro))
theorem ex_never (h : False) : Ex X B st S K := h.elim
theorem ex_doc {x j pos pos'} (k : K (.nx S)) : Ex X B (.Expr (.Constant (.str x) j pos) pos') S K := fun F α H σ D R o => wS.of ps_doc (o.nx S F α H σ k R (Same.refl _))
def loopK (I : Nat → Nz.S → Prop) (K : Out → Prop) (i : Nat) : Out → Prop
  | .nx S => I (i + 1) S
  | .ct S => I (i + 1) S
  | .bk S => K (.nx S)
  | .ret c S => K (.ret c S)
theorem ex_for (hp : PassesOwn (model X.prog X.w) X.A X.env X.xe) (hc : X.calm = true) (I : Nat → Nz.S → Prop) (hsrc : Src X B tg e S xs S1) (h0 : I 0 S1)
    (hs : ∀ i d S', xs[i]? = some d → I i S' → ∃ S2, Eg X B tg (.fr d) S' S2 ∧ Exs X B body S2 (loopK I K i)) (hd : ∀ S', I xs.length S' → K (.nx S')) (hf : ∀ x, foldedSetIterable e X.env x = pure x := by intro _; rfl) : Ex X B (.For tg e body [] pos) S K :=
  fun F α H σ D R o => wS.of (ps_for hp hc pi_w pg_w pss_w hf) (hsrc F α H σ _ R fun F1 α1 H1 J R1 st1 j => by
    have o1 := o.mono st1.fro
    refine ⟨fun i m σ' H' => m = xs.length - i ∧ i ≤ xs.length ∧ ∃ F' α' S', RelX X B F' α' H' σ' S' ∧ Same F1 F' ∧ I i S', ⟨xs.length, by simp, Nat.zero_le _, F1, α1, S1, R1, Same.refl _, h0⟩, ?_⟩
    rintro i m σ' H' ⟨rfl, hi, F', α', S', R', sm, q⟩
    by_cases hlt : i < xs.length
    · have e1 : xs[i]? = some xs[i] := by simp [hlt]
      obtain ⟨g, y⟩ := j.go B F' α' H' σ' S' i _ R' sm e1
      obtain ⟨S2, hg, hb⟩ := hs i _ S' e1 q
      refine .inr ⟨g, fun σ2 H2 => ∃ F2 α2 S2, RelX X B F2 α2 H2 σ2 S2 ∧ Same F1 F2 ∧ I (i + 1) S2, fun σ2 H2 ⟨F2, α2, S3, R2, s2, q2⟩ => ⟨xs.length - (i + 1), by omega, rfl, hlt, F2, α2, S3, R2, s2, q2⟩, fun x H2 yy => ?_⟩
      obtain ⟨F2, R2, s2, r2⟩ := y x H2 yy
      refine hg F2 α' H2 σ' x _ R2 r2 fun σ3 F3 H3 R3 s3 => hb F3 α' H3 σ3 _ R3 ?_
      have sall : Same F1 F3 := sm.trans (s2.trans s3)
      refine ⟨fun S4 F4 α4 H4 σ4 k4 R4 s4 => ⟨F4, α4, S4, R4, sall.trans s4, k4⟩, fun S4 F4 α4 H4 σ4 k4 R4 s4 => o1.nx S4 F4 α4 H4 σ4 k4 R4 (sall.trans s4), fun S4 F4 α4 H4 σ4 k4 R4 s4 => ⟨F4, α4, S4, R4, sall.trans s4, k4⟩,
        fun c S4 F4 α4 H4 σ4 v k4 R4 s4 r4 => o1.ret c S4 F4 α4 H4 σ4 v k4 R4 (sall.trans s4) r4⟩
    · have e1 : i = xs.length := by omega
      subst e1
      exact .inl ⟨j.stop B F' α' H' σ' S' _ R' sm (Nat.le_refl _), o1.nx S' F' α' H' σ' (hd S' q) R' sm⟩)
def whileK (I : Nat → Nz.S → Prop) (K : Out → Prop) (m : Nat) : Out → Prop
  | .nx S => ∃ m', m' < m ∧ I m' S
  | .ct S => ∃ m', m' < m ∧ I m' S
  | .bk S => K (.nx S)
  | .ret c S => K (.ret c S)
theorem ex_while (hp : PassesOwn (model X.prog X.w) X.A X.env X.xe) (I : Nat → Nz.S → Prop) (h0 : ∃ m, I m S)
    (hs : ∀ m S', I m S' → ∃ b S2, Et X B e S' b S2 ∧ (b = true → Exs X B body S2 (whileK I K m)) ∧ (b = false → K (.nx S2))) : Ex X B (.While e body [] pos) S K :=
  fun F α H σ D R o => wS.of (ps_while hp pt_w pss_w) (by
    obtain ⟨m0, h0⟩ := h0
    refine ⟨fun m σ' H' => ∃ F' α' S', RelX X B F' α' H' σ' S' ∧ Same F F' ∧ I m S', ⟨m0, F, α, S, R, Same.refl _, h0⟩, ?_⟩
    rintro m σ' H' ⟨F', α', S', R', sm, q⟩
    obtain ⟨b, S2, ht, h1, h2⟩ := hs m S' q
    refine ht F' α' H' σ' _ R' fun F1 α1 H1 R1 st1 => ?_
    cases b with
    | true =>
      rw [if_pos rfl]
      refine ⟨fun σ2 H2 => ∃ m', m' < m ∧ ∃ F2 α2 S2, RelX X B F2 α2 H2 σ2 S2 ∧ Same F F2 ∧ I m' S2, fun σ2 H2 ⟨m', hm, z⟩ => ⟨m', hm, z⟩, h1 rfl F1 α1 H1 σ' _ R1 ?_⟩
      have sall : Same F F1 := sm.trans st1.fro
      refine ⟨fun S4 F4 α4 H4 σ4 ⟨m', hm, k4⟩ R4 s4 => ⟨m', hm, F4, α4, S4, R4, sall.trans s4, k4⟩, fun S4 F4 α4 H4 σ4 k4 R4 s4 => o.nx S4 F4 α4 H4 σ4 k4 R4 (sall.trans s4), fun S4 F4 α4 H4 σ4 ⟨m', hm, k4⟩ R4 s4 => ⟨m', hm, F4, α4, S4, R4, sall.trans s4, k4⟩,
        fun c S4 F4 α4 H4 σ4 v k4 R4 s4 r4 => o.ret c S4 F4 α4 H4 σ4 v k4 R4 (sall.trans s4) r4⟩
    | false =>
      rw [if_neg Bool.false_ne_true]
      exact o.nx S2 F1 α1 H1 σ' (h2 rfl) R1 (sm.trans st1.fro))
theorem Exs.mono {K' : Out → Prop} (h : Exs X B sts S K) (hk : ∀ o, K o → K' o) : Exs X B sts S K' := fun F α H σ D R o => h F α H σ D R
  ⟨fun S' F' α' H' σ' k => o.nx S' F' α' H' σ' (hk _ k), fun S' F' α' H' σ' k => o.bk S' F' α' H' σ' (hk _ k), fun S' F' α' H' σ' k => o.ct S' F' α' H' σ' (hk _ k), fun c S' F' α' H' σ' v k => o.ret c S' F' α' H' σ' v (hk _ k)⟩
theorem Ex.mono {K' : Out → Prop} (h : Ex X B st S K) (hk : ∀ o, K o → K' o) : Ex X B st S K' := fun F α H σ D R o => h F α H σ D R
  ⟨fun S' F' α' H' σ' k => o.nx S' F' α' H' σ' (hk _ k), fun S' F' α' H' σ' k => o.bk S' F' α' H' σ' (hk _ k), fun S' F' α' H' σ' k => o.ct S' F' α' H' σ' (hk _ k), fun c S' F' α' H' σ' v k => o.ret c S' F' α' H' σ' v (hk _ k)⟩
end
end Nz

namespace Nz
open PySem PySem.Spec PyProof.Rows L2

/-! ### freezing, forgetting -/
def delL (n : Nat) : List (Nat × LO) → List (Nat × LO)
  | [] => []
  | (m, o) :: r => if n = m then delL n r else (m, o) :: delL n r
def frC (n : Nat) (d : D) : Ce → Ce
  | .fr e => .fr e
  | .ad m => if n = m then .fr d else .ad m
def frO (n : Nat) (d : D) : LO → LO
  | .fl ds => .fl ds
  | .cl cs => .cl (cs.map (frC n d))
  | .ins c fs => .ins c (fs.map fun p => (p.1, frC n d p.2))
  | .dT kvs => .dT kvs
  | .dK kvs => .dK (kvs.map fun p => (p.1, frC n d p.2))
def frS (n : Nat) (d : D) (S : Nz.S) : Nz.S := ⟨S.ρ.map (Option.map (frC n d)), (delL n S.L).map fun p => (p.1, frO n d p.2)⟩
section
variable {K : Frag} {mg : Mg} {B : Bd} {F F' : Hp} {α α' : Nat → Addr} {L L' : List (Nat × LO)} {H H' : Hp} {σ : L2.St} {S : Nz.S}
theorem mem_delL : ∀ {L : List (Nat × LO)} {n m : Nat} {o : LO}, (m, o) ∈ delL n L ↔ m ≠ n ∧ (m, o) ∈ L
  | [], n, m, o => by simp [delL]
  | (k, u) :: r, n, m, o => by
    unfold delL
    by_cases q : n = k
    · subst q
      rw [if_pos rfl, mem_delL, List.mem_cons]
      constructor
      · rintro ⟨h1, h2⟩; exact ⟨h1, .inr h2⟩
      · rintro ⟨h1, h2 | h2⟩
        · cases h2; exact absurd rfl h1
        · exact ⟨h1, h2⟩
    · rw [if_neg q, List.mem_cons, mem_delL, List.mem_cons]
      constructor
      · rintro (h | ⟨h1, h2⟩)
        · cases h; exact ⟨fun z => q z.symm, .inl rfl⟩
        · exact ⟨h1, .inr h2⟩
      · rintro ⟨h1, h2 | h2⟩
        · exact .inl h2
        · exact .inr ⟨h1, h2⟩
theorem names_delL {n m : Nat} : m ∈ names (delL n L) ↔ m ≠ n ∧ m ∈ names L := by
  constructor
  · intro h
    obtain ⟨⟨a, o⟩, h1, h2⟩ := List.mem_map.mp h
    have h2 : a = m := h2
    subst h2
    obtain ⟨h3, h4⟩ := mem_delL.mp h1
    exact ⟨h3, mem_names h4⟩
  · rintro ⟨h1, h2⟩
    obtain ⟨⟨a, o⟩, h3, h4⟩ := List.mem_map.mp h2
    have h4 : a = m := h4
    subst h4
    exact mem_names (mem_delL.mpr ⟨h1, h3⟩)
theorem names_frS {n : Nat} {d : D} : names ((delL n L).map fun p => (p.1, frO n d p.2)) = names (delL n L) := by simp [names]
theorem nodup_delL {n : Nat} (h : (names L).Nodup) : (names (delL n L)).Nodup := by
  refine h.sublist (List.Sublist.map _ ?_)
  induction L with
  | nil => exact .slnil
  | cons p r ih =>
    obtain ⟨m, o⟩ := p
    have ih' := ih (List.nodup_cons.mp h).2
    unfold delL
    split
    · exact .cons _ ih'
    · exact .cons₂ _ ih'
theorem CRel.freeze {n : Nat} {d : D} (hF : Same F F') (hd : Rep K mg F' d (.ref (α n))) : ∀ {c : Ce} {v : V}, CRel K mg F α L c v → CRel K mg F' α ((delL n L).map fun p => (p.1, frO n d p.2)) (frC n d c) v
  | .fr e, v, h => Rep.mono hF h
  | .ad m, v, ⟨h1, h2⟩ => by
    subst h2
    show CRel K mg F' α _ (if n = m then .fr d else .ad m) _
    by_cases q : n = m
    · subst q; rw [if_pos rfl]; exact hd
    · rw [if_neg q]
      exact ⟨by rw [names_frS]; exact names_delL.mpr ⟨fun z => q z.symm, h1⟩, rfl⟩
theorem CRels.freeze {n : Nat} {d : D} (hF : Same F F') (hd : Rep K mg F' d (.ref (α n))) : ∀ {c : List Ce} {v : List V}, CRels K mg F α L c v → CRels K mg F' α ((delL n L).map fun p => (p.1, frO n d p.2)) (c.map (frC n d)) v
  | _, _, .nil => .nil
  | _, _, .cons h r => .cons (h.freeze hF hd) (r.freeze hF hd)
theorem CRelF.freeze {n : Nat} {d : D} (hF : Same F F') (hd : Rep K mg F' d (.ref (α n))) : ∀ {c : List (Str × Ce)} {v : List (Str × V)}, CRelF K mg F α L c v → CRelF K mg F' α ((delL n L).map fun p => (p.1, frO n d p.2)) (c.map fun p => (p.1, frC n d p.2)) v
  | _, _, .nil => .nil
  | _, _, .cons h r => .cons (h.freeze hF hd) (r.freeze hF hd)
theorem CRelK.freeze {κ : Type} {n : Nat} {d : D} (hF : Same F F') (hd : Rep K mg F' d (.ref (α n))) : ∀ {c : List (κ × Ce)} {v : List (κ × V)}, CRelK K mg F α L c v → CRelK K mg F' α ((delL n L).map fun p => (p.1, frO n d p.2)) (c.map fun p => (p.1, frC n d p.2)) v
  | _, _, .nil => .nil
  | _, _, .cons h r => .cons (h.freeze hF hd) (r.freeze hF hd)
theorem SlR.freeze {n : Nat} {d : D} (hF : Same F F') (hd : Rep K mg F' d (.ref (α n))) : ∀ {c : List (Option Ce)} {v : L2.St}, SlR K mg F α L c v → SlR K mg F' α ((delL n L).map fun p => (p.1, frO n d p.2)) (c.map (Option.map (frC n d))) v
  | _, _, .nil => .nil
  | _, _, .no r => .no (r.freeze hF hd)
  | _, _, .so h r => .so (h.freeze hF hd) (r.freeze hF hd)
/-- a live list whose items are frozen is frozen -/
theorem Rel.freeze (R : Rel K mg B F α H σ S) {n : Nat} {ds : List D} (hn : getL n S.L = some (.fl ds)) :
    ∃ F', Rel K mg B F' α H σ (frS n (.lst ds) S) ∧ Stp F α S.L F' α ∧ Rep K mg F' (.lst ds) (.ref (α n)) ∧ ∀ c v, CRel K mg F α S.L c v → CRel K mg F' α (frS n (.lst ds) S).L (frC n (.lst ds) c) v := by
  obtain ⟨f0, f1, vs, e, r⟩ := R.live n _ (getL_mem hn)
  have hF : Same F (upd F (α n) (.lst vs)) := same_upd f0
  have hd : Rep K mg (upd F (α n) (.lst vs)) (.lst ds) (.ref (α n)) := .lst (SqL.of upd_same) (r.mono hF)
  refine ⟨upd F (α n) (.lst vs), ⟨fun b u q => ?_, R.bF.trans hF, fun b u q => ?_, R.frame, ?_, fun a b ha hb => ?_, fun m o hm => ?_, R.slots.freeze hF hd, fun m a e hm => R.fix m a e (names_delL.mp (by rw [← names_frS]; exact hm)).2⟩, ⟨hF, fun _ _ => rfl⟩, hd, fun c v h => h.freeze hF hd⟩
  · by_cases z : b = α n
    · subst z; rw [upd_same] at q; rw [e]; exact q
    · rw [upd_ne z] at q; exact R.sub b u q
  · by_cases z : b = α n
    · subst z; exact .inr f1
    · rw [upd_ne z] at q; exact R.nF b u q
  · show (names ((delL n S.L).map fun p => (p.1, frO n (.lst ds) p.2))).Nodup
    rw [names_frS]; exact nodup_delL R.nd
  · have ha : a ∈ names ((delL n S.L).map fun p => (p.1, frO n (.lst ds) p.2)) := ha
    have hb : b ∈ names ((delL n S.L).map fun p => (p.1, frO n (.lst ds) p.2)) := hb
    rw [names_frS] at ha hb
    exact R.inj a b (names_delL.mp ha).2 (names_delL.mp hb).2
  · obtain ⟨⟨m', o'⟩, h1, h2⟩ := List.mem_map.mp hm
    cases h2
    obtain ⟨h3, h4⟩ := mem_delL.mp h1
    obtain ⟨g0, g1, g2⟩ := R.live m' o' h4
    have ne : α m' ≠ α n := fun q => h3 (R.inj _ _ (mem_names h4) (mem_names (getL_mem hn)) q)
    refine ⟨(upd_ne ne).trans g0, g1, ?_⟩
    cases o' with
    | fl ds' => obtain ⟨us, e1, r1⟩ := g2; exact ⟨us, e1, r1.mono hF⟩
    | cl cs => obtain ⟨us, e1, r1⟩ := g2; exact ⟨us, e1, r1.freeze hF hd⟩
    | ins c fs =>
      obtain ⟨C, dx, us, m1, e1, e2, e3, e4, r1⟩ := g2
      exact ⟨C, dx, us, m1, e1, e2, by rw [upd_ne (fun q => by rw [q, e] at e2; cases e2)]; exact e3, e4, r1.freeze hF hd⟩
    | dT kvs => obtain ⟨us, e1, r1⟩ := g2; exact ⟨us, e1, Paired.imp (fun _ _ z => ⟨z.1, z.2.mono hF⟩) r1⟩
    | dK kvs => obtain ⟨us, e1, r1⟩ := g2; exact ⟨us, e1, r1.freeze hF hd⟩
theorem frC_other {n : Nat} {d : D} {c : Ce} : True := trivial

/-- an object's cells speak of L alone -/
theorem CRel.res : ∀ {c : Ce} {v v1 : V} {F1 : Hp} {α1 : Nat → Addr} {mg1 : Mg}, CRel K mg F α L' c v → CRel K mg1 F1 α1 L c v1 → CRel K mg F α L c v
  | .fr _, _, _, _, _, _, h, _ => h
  | .ad n, _, _, _, _, _, ⟨_, h2⟩, ⟨h3, _⟩ => ⟨h3, h2⟩
theorem CRels.res : ∀ {c : List Ce} {v v1 : List V} {F1 : Hp} {α1 : Nat → Addr}, CRels K mg F α L' c v → CRels K mg F1 α1 L c v1 → CRels K mg F α L c v
  | _, _, _, _, _, .nil, .nil => .nil
  | _, _, _, _, _, .cons h r, .cons h' r' => .cons (h.res h') (r.res r')
theorem CRelF.res : ∀ {c : List (Str × Ce)} {v v1 : List (Str × V)} {F1 : Hp} {α1 : Nat → Addr}, CRelF K mg F α L' c v → CRelF K mg F1 α1 L c v1 → CRelF K mg F α L c v
  | _, _, _, _, _, .nil, .nil => .nil
  | _, _, _, _, _, .cons h r, .cons h' r' => .cons (h.res h') (r.res r')
theorem CRelK.res {κ : Type} : ∀ {c : List (κ × Ce)} {v v1 : List (κ × V)} {F1 : Hp} {α1 : Nat → Addr}, CRelK K mg F α L' c v → CRelK K mg F1 α1 L c v1 → CRelK K mg F α L c v
  | _, _, _, _, _, .nil, .nil => .nil
  | _, _, _, _, _, .cons h r, .cons h' r' => .cons (h.res h') (r.res r')
theorem LAt.res {a a1 : Addr} {o : LO} {F1 H1 : Hp} {α1 : Nat → Addr} (h : LAt K mg B F α L' H a o) (h1 : LAt K mg B F1 α1 L H1 a1 o) : LAt K mg B F α L H a o := by
  cases o with
  | fl ds => exact h
  | cl cs => obtain ⟨us, e1, r1⟩ := h; obtain ⟨_, _, q⟩ := h1; exact ⟨us, e1, r1.res q⟩
  | ins c fs => obtain ⟨C, dx, us, m1, e1, e2, e3, e4, r1⟩ := h; obtain ⟨_, _, _, _, _, _, _, _, q⟩ := h1; exact ⟨C, dx, us, m1, e1, e2, e3, e4, r1.res q⟩
  | dT kvs => exact h
  | dK kvs => obtain ⟨us, e1, r1⟩ := h; obtain ⟨_, _, q⟩ := h1; exact ⟨us, e1, r1.res q⟩
theorem LAt.frz {a p : Addr} {o : LO} {vs : List V} (f0 : F p = none) (e : H p = some (.lst vs)) (h : LAt K mg B F α L H a o) : LAt K mg B (upd F p (.lst vs)) α L H a o := by
  have hF : Same F (upd F p (.lst vs)) := same_upd f0
  have st : Stp F α L (upd F p (.lst vs)) α := ⟨hF, fun _ _ => rfl⟩
  cases o with
  | fl ds => obtain ⟨us, e1, r1⟩ := h; exact ⟨us, e1, r1.mono hF⟩
  | cl cs => obtain ⟨us, e1, r1⟩ := h; exact ⟨us, e1, r1.step st fun _ z => z⟩
  | ins c fs =>
    obtain ⟨C, dx, us, m1, e1, e2, e3, e4, r1⟩ := h
    exact ⟨C, dx, us, m1, e1, e2, by rw [upd_ne (fun q => by rw [q, e] at e2; cases e2)]; exact e3, e4, r1.step st fun _ z => z⟩
  | dT kvs => obtain ⟨us, e1, r1⟩ := h; exact ⟨us, e1, Paired.imp (fun _ _ z => ⟨z.1, z.2.mono hF⟩) r1⟩
  | dK kvs => obtain ⟨us, e1, r1⟩ := h; exact ⟨us, e1, r1.step st fun _ z => z⟩
/-- the last live list is frozen, the rest is as it was -/
theorem Rel.close {F1 H1 : Hp} {α1 : Nat → Addr} {σ1 : L2.St} {ρ ρ1 : List (Option Ce)} {n : Nat} {ds : List D} (R1 : Rel K mg B F1 α1 H1 σ1 ⟨ρ1, L⟩) (R : Rel K mg B F α H σ ⟨ρ, L ++ [(n, .fl ds)]⟩) (st : Stp F1 α1 L F α) (hn : n ∉ names L) :
    ∃ F', Rel K mg B F' α H σ1 ⟨ρ1, L⟩ ∧ Stp F1 α1 L F' α ∧ Rep K mg F' (.lst ds) (.ref (α n)) := by
  obtain ⟨f0, f1, vs, e, r⟩ := R.live n (.fl ds) (List.mem_append_right _ (List.mem_singleton.mpr rfl))
  have hF : Same F (upd F (α n) (.lst vs)) := same_upd f0
  have hd : Rep K mg (upd F (α n) (.lst vs)) (.lst ds) (.ref (α n)) := .lst (SqL.of upd_same) (r.mono hF)
  have st2 : Stp F1 α1 L (upd F (α n) (.lst vs)) α := ⟨st.fro.trans hF, st.nm⟩
  have nn : ∀ m, m ∈ names L → m ∈ names (L ++ [(n, LO.fl ds)]) := fun m h => Sub.app m h
  refine ⟨upd F (α n) (.lst vs), ⟨fun b u q => ?_, R.bF.trans hF, fun b u q => ?_, R.frame, R1.nd, fun a b ha hb => R.inj a b (nn a ha) (nn b hb), fun m o hm => ?_, R1.slots.step st2 fun _ z => z, fun m a e hm => R.fix m a e (nn m hm)⟩, st2, hd⟩
  · by_cases z : b = α n
    · subst z; rw [upd_same] at q; rw [e]; exact q
    · rw [upd_ne z] at q; exact R.sub b u q
  · by_cases z : b = α n
    · subst z; exact .inr f1
    · rw [upd_ne z] at q; exact R.nF b u q
  · have hm' : (m, o) ∈ L := hm
    obtain ⟨g0, g1, g2⟩ := R.live m o (List.mem_append_left _ hm')
    have ne : α m ≠ α n := fun q => hn (by rw [← R.inj _ _ (nn m (mem_names hm')) (by rw [names_append]; exact List.mem_append_right _ (List.mem_singleton.mpr rfl)) q]; exact mem_names hm')
    refine ⟨by rw [upd_ne ne]; exact g0, g1, ?_⟩
    have g3 : LAt K mg B (upd F (α n) (.lst vs)) α (L ++ [(n, .fl ds)]) H (α m) o := g2.frz f0 e
    exact g3.res (R1.live m o hm').2.2
end
end Nz

namespace Nz
open PySem PySem.Spec PyProof.Rows L2

/-! ### targets of a comprehension -/
def EgC (X : Cx) (B : Bd) (tg : Expr) (c : Ce) (S S2 : Nz.S) (vs : List Nat) : Prop :=
  ∀ F α H σ v Q, RelX X B F α H σ S → CR X F α S.L c v → (∀ σ' F' H', RelX X B F' α H' σ' S2 → Same F F' → wipe σ' vs = wipe σ vs → Q σ' H') → wG X tg v σ H Q
theorem set_none_set {σ : L2.St} {i : Nat} {x y : Option V} : (σ.set i x).set i y = σ.set i y := List.set_set ..
theorem wipe_set : ∀ {vs : List Nat} {σ : L2.St} {i : Nat} {x : Option V}, i ∈ vs → wipe (σ.set i x) vs = wipe σ vs
  | v :: vs, σ, i, x, h => by
    show (wipe (σ.set i x) vs).set v none = (wipe σ vs).set v none
    by_cases hi : i ∈ vs
    · rw [wipe_set hi]
    · have e : v = i := by
        rcases List.mem_cons.mp h with h | h
        · exact h.symm
        · exact absurd h hi
      subst e
      clear h
      have key : ∀ (vs : List Nat) (σ : L2.St), v ∉ vs → wipe (σ.set v x) vs = (wipe σ vs).set v x := by
        intro vs
        induction vs with
        | nil => intro σ _; rfl
        | cons u us ih =>
          intro σ hn
          show (wipe (σ.set v x) us).set u none = ((wipe σ us).set u none).set v x
          rw [ih σ (fun z => hn (List.mem_cons_of_mem _ z)), List.set_comm _ _ (fun z => hn (by rw [z]; exact List.mem_cons_self))]
      rw [key vs σ hi, List.set_set]
theorem wipe_idem {σ : L2.St} : ∀ {vs : List Nat}, wipe (wipe σ vs) vs = wipe σ vs
  | [] => rfl
  | v :: vs => by
    show (wipe ((wipe σ vs).set v none) vs).set v none = (wipe σ vs).set v none
    by_cases h : v ∈ vs
    · rw [wipe_set h, wipe_idem]
    · have key : ∀ (ws : List Nat) (τ : L2.St), v ∉ ws → wipe (τ.set v none) ws = (wipe τ ws).set v none := by
        intro ws
        induction ws with
        | nil => intro τ _; rfl
        | cons u us ih =>
          intro τ hn
          show (wipe (τ.set v none) us).set u none = ((wipe τ us).set u none).set v none
          rw [ih τ (fun z => hn (List.mem_cons_of_mem _ z)), List.set_comm _ _ (fun z => hn (by rw [z]; exact List.mem_cons_self))]
      rw [key vs _ h, wipe_idem, List.set_set]
theorem getL_app : ∀ {L : List (Nat × LO)} {n : Nat} {o : LO}, n ∉ names L → getL n (L ++ [(n, o)]) = some o
  | [], n, o, _ => by simp [getL]
  | (m, u) :: r, n, o, h => by
    show (if n = m then some u else getL n (r ++ [(n, o)])) = _
    rw [if_neg (fun z => h (by rw [z]; exact List.mem_cons_self)), getL_app (fun z => h (List.mem_cons_of_mem _ z))]
theorem setL_app : ∀ {L : List (Nat × LO)} {n : Nat} {o u : LO}, n ∉ names L → setL n u (L ++ [(n, o)]) = L ++ [(n, u)]
  | [], n, o, u, _ => by simp [setL]
  | (m, w) :: r, n, o, u, h => by
    show (if n = m then (m, u) :: (r ++ [(n, o)]) else (m, w) :: setL n u (r ++ [(n, o)])) = _
    rw [if_neg (fun z => h (by rw [z]; exact List.mem_cons_self)), setL_app (fun z => h (List.mem_cons_of_mem _ z))]
    rfl
theorem eg_nameC {X : Cx} {B : Bd} {S : Nz.S} {vs : List Nat} (i : Nat) {x : Str} {c : Ce} {pos : Pos} (hN : X.N.Nodup) (hi : X.N[i]? = some x) (hx : Loc X.env.scope x) (hv : i ∈ vs) (hf : X.fn x = true ∨ X.env.scope.names.lookup x = some .local) : EgC X B (.Name x pos) c S (setS S i c) vs :=
  fun F α H σ v Q R r k pins s u I ru => (pg_name hN hi hx hf).run pins s σ H v u Q I ru (k _ F H (R.setS r) (Same.refl _) (wipe_set hv))
def EgsC (X : Cx) (B : Bd) (ts : List Expr) (cs : List D) (S S2 : Nz.S) (ws : List Nat) : Prop :=
  ∀ F α H σ vs (Q : L2.St → Hp → Prop), RelX X B F α H σ S → Reps X.K X.mg F cs vs → (∀ σ' F' H', RelX X B F' α H' σ' S2 → Same F F' → wipe σ' ws = wipe σ ws → Q σ' H') →
    ∀ pins s us, Inv X pins σ H s → Vals vs us → wpAny (model X.prog X.w) X.A (assignInOrder ((assignEach ts X.env).map (·.2)) us) (fun _ s' => ∃ σ' H', Inv X pins σ' H' s' ∧ Q σ' H') X.xe s
section
variable {X : Cx} {B : Bd} {S S1 S2 : Nz.S} {ws : List Nat} {e : Expr} {es : List Expr} {d : D} {pos : Pos}
theorem egs_nilC : EgsC X B [] [] S S ws := fun F α H σ vs Q R r k pins s us I ru => by
  cases r
  cases ru
  exact assignInOrder_nil ⟨σ, H, I, k σ F H R (Same.refl _) rfl⟩
theorem egs_consC {ds : List D} (h1 : EgC X B e (.fr d) S S1 ws) (h2 : EgsC X B es ds S1 S2 ws) (hL : S1.L = S.L := by rfl) (hs : (assignEach (e :: es) X.env).map (·.2) = assign e X.env :: (assignEach es X.env).map (·.2) := by rfl) : EgsC X B (e :: es) (d :: ds) S S2 ws :=
  fun F α H σ vs Q R r k pins s us I ru => by
    cases r with
    | cons r rr =>
      cases ru with
      | cons u uu =>
        rw [hs]
        refine assignInOrder_cons (thn (h1 F α H σ _ (fun σ1 H1 => ∃ F1, RelX X B F1 α H1 σ1 S1 ∧ Same F F1 ∧ wipe σ1 ws = wipe σ ws) R r (fun σ' F' H' R' s' w' => ⟨F', R', s', w'⟩) pins s _ I u) fun _ s1 ⟨σ1, H1, I1, F1, R1, sm, w1⟩ => ?_)
        exact h2 F1 α H1 σ1 _ Q R1 (rr.mono sm) (fun σ' F' H' R' s' w' => k σ' F' H' R' (sm.trans s') (w'.trans w1)) pins s1 _ I1 uu
theorem eg_tupC {ds : List D} {k1} (hc : X.calm = true) (h : EgsC X B es ds S S2 ws) (hn : (assignEach es X.env).length = ds.length := by rfl) (hst : (assignEach es X.env).findIdx? (·.1) = none := by rfl) : EgC X B (.Tuple es k1 pos) (.fr (.tup ds)) S S2 ws :=
  fun F α H σ v Q R r k pins s u I ru => by
    cases (show Rep X.K X.mg F (.tup ds) v from r) with
    | tup hq hr =>
      have hq' := R.sub.seqT hq
      cases ru
      obtain ⟨its, rv, ht, hz⟩ := I.tuple hq'
      refine assign_Tuple_tuple (I.ok.hd hc) ht (by simp [hn, hr.length, rv.length]) hst fun h' hx => ?_
      have I1 : Inv X pins σ H { s with heap := h' } := I.kept (t' := s.toks) fun b o e => hx b o (Nat.ne_of_lt (Heap.lt_size e)) e
      exact h F α H σ _ Q R hr k pins _ _ I1 (by simpa using rv)
end

def wTs (X : Cx) (ifs : List Expr) (σ : L2.St) (H : Hp) (Q : Bool → Hp → Prop) : Prop :=
  ∀ pins s, Inv X pins σ H s → wpAny (model X.prog X.w) X.A (forIn ifs true fun c r => if r = true then do let ok ← isTrue c X.env (eval c X.env); pure (ForInStep.yield ok) else pure (ForInStep.yield r)) (TP X pins σ Q) X.xe s
def Ets (X : Cx) (B : Bd) (ifs : List Expr) (S : Nz.S) (b : Bool) : Prop :=
  ∀ F α H σ Q, RelX X B F α H σ S → (∀ F' α' H', RelX X B F' α' H' σ S → Stp F α S.L F' α' → Q b H') → wTs X ifs σ H Q
theorem ets_nil {X : Cx} {B : Bd} {S : Nz.S} : Ets X B [] S true := fun F α H σ Q R k pins s I => pts_nil.run pins s σ H Q I (k F α H R Stp.refl)
theorem ets_one {X : Cx} {B : Bd} {S : Nz.S} {c : Expr} {b : Bool} (h : Et X B c S b S) : Ets X B [c] S b := fun F α H σ Q R k pins s I => (pts_one pt_w).run pins s σ H Q I (h F α H σ Q R k)

def wipeC (ρ : List (Option Ce)) : List Nat → List (Option Ce)
  | [] => ρ
  | v :: vs => (wipeC ρ vs).set v none
theorem SlR.setN {K : Frag} {mg : Mg} {F : Hp} {α : Nat → Addr} {L : List (Nat × LO)} : ∀ {c : List (Option Ce)} {σ : L2.St} (i : Nat) {o : Option V}, SlR K mg F α L c σ → SlR K mg F α L (c.set i none) (σ.set i o)
  | _, _, _, _, .nil => .nil
  | _, _, 0, _, .no r => .no r
  | _, _, 0, _, .so _ r => .no r
  | _, _, i + 1, _, .no r => .no (r.setN i)
  | _, _, i + 1, _, .so q r => .so q (r.setN i)
theorem SlR.wipe {K : Frag} {mg : Mg} {F : Hp} {α : Nat → Addr} {L : List (Nat × LO)} {c : List (Option Ce)} {σ : L2.St} (h : SlR K mg F α L c σ) : ∀ vs : List Nat, SlR K mg F α L (wipeC c vs) (L2.wipe σ vs)
  | [] => h
  | v :: vs => (h.wipe vs).setN v
/-- the context of a comprehension's block -/
abbrev Blk (X : Cx) (scope : Scope) (s : Shared) (H : Hp) (C : Addr) (cl : List (Str × Addr)) (fp : List Addr) : Cx := X.blk s H scope (compEnvC scope cl C X.env) fp

section
variable {X : Cx} {B : Bd} {S S1 : Nz.S} {elt tg iter : Expr} {ifs : List Expr} {scope : Scope} {own : List (Str × Nat)} {pos : Pos}
/-- [elt for tg in iter if ..] of data -/
theorem lc_reading {τ : Type} (nD : Nat) {ys : List τ} {enc : τ → D} (f : τ → D) (p : τ → Bool) (Sx : Nat → τ → List D → Nz.S)
    (hsrc : Src X B tg iter S (ys.map enc) S1) (hn : nD ∉ names S1.L) (h100 : 100 ≤ nD) (hz : ys.length ≤ sizeLine) (hL : ∀ i y acc, (Sx i y acc).L = S1.L ++ [(nD, .fl acc)])
    (hg : ∀ i y acc, ys[i]? = some y → ∀ s H0 C cl fp, EgC (Blk X scope s H0 C cl fp) B tg (.fr (enc y)) ⟨wipeC S1.ρ (own.map (·.2)), S1.L ++ [(nD, .fl acc)]⟩ (Sx i y acc) (own.map (·.2)))
    (ht : ∀ i y acc, ys[i]? = some y → ∀ s H0 C cl fp, Ets (Blk X scope s H0 C cl fp) B ifs (Sx i y acc) (p y))
    (he : ∀ i y acc, ys[i]? = some y → p y = true → ∀ s H0 C cl fp, Ev (Blk X scope s H0 C cl fp) B elt (Sx i y acc) (.fr (f y)) (Sx i y acc))
    (F : Hp) (α : Nat → Addr) (H : Hp) (σ : L2.St) (Q : VK) (R : RelX X B F α H σ S) (hS : Sub S.L S1.L)
    (k : ∀ F' α' v H', RelX X B F' α' H' σ S1 → Stp F α S.L F' α' → Rep X.K X.mg F' (.lst ((ys.filter p).map f)) v → Q v H') :
    tLc (wI X tg iter) (fun v σ H Q => ∀ s H0 C cl fp, wG (Blk X scope s H0 C cl fp) tg v σ H Q) (fun σ H Q => ∀ s H0 C cl fp, wTs (Blk X scope s H0 C cl fp) ifs σ H Q) (fun σ H Q => ∀ s H0 C cl fp, wE (Blk X scope s H0 C cl fp) elt σ H Q) (own.map (·.2)) σ H Q := by
  refine hsrc F α H σ _ R fun F1 α1 H1 J R1 st1 j => ?_
  intro D hD
  have Rn := R1.allocL (n := nD) (u := .fl []) (o := .lst []) hD hn h100 ⟨[], upd_same, .nil⟩
  have stn : Stp F1 α1 S1.L F1 (setα α1 nD D) := stp_setα hn
  have eD : setα α1 nD D nD = D := by unfold setα; rw [if_pos rfl]
  -- the state at turn i
  let W : Nat → Hp → Prop := fun i H => ∃ F' α', RelX X B F' α' H (L2.wipe σ (own.map (·.2))) ⟨wipeC S1.ρ (own.map (·.2)), S1.L ++ [(nD, .fl (((ys.take i).filter p).map f))]⟩ ∧ Stp F1 (setα α1 nD D) (S1.L ++ [(nD, .fl [])]) F' α'
  have w0 : W 0 (upd H1 D (.lst [])) := ⟨F1, setα α1 nD D, ⟨Rn.sub, Rn.bF, Rn.nF, Rn.frame, Rn.nd, Rn.inj, Rn.live, Rn.slots.wipe _, Rn.fix⟩, Stp.refl⟩
  refine ⟨fun i m H => m = ys.length - i ∧ i ≤ ys.length ∧ W i H, ⟨ys.length, by simp, Nat.zero_le _, w0⟩, ?_⟩
  rintro i m H' ⟨rfl, hi, F', α', R', st'⟩
  have sm : Same F1 F' := st'.fro
  have nmD : α' nD = D := by rw [st'.nm nD (by rw [names_append]; exact List.mem_append_right _ (List.mem_singleton.mpr rfl)), eD]
  by_cases hlt : i < ys.length
  · obtain ⟨y, hy⟩ : ∃ y, ys[i]? = some y := ⟨ys[i], by simp [hlt]⟩
    obtain ⟨g, yl⟩ := j.go B F' α' H' _ _ i (enc y) R' sm (by rw [List.getElem?_map, hy]; rfl)
    have tk : (ys.take (i + 1)) = ys.take i ++ [y] := by rw [List.take_succ, hy]; rfl
    refine .inr ⟨g, W (i + 1), fun H2 w2 => ⟨ys.length - (i + 1), by omega, rfl, hlt, w2⟩, fun x H2 yy => ?_⟩
    obtain ⟨F2, R2, s2, r2⟩ := yl x H2 yy
    intro sA HA CA clA fpA
    refine hg i y (((ys.take i).filter p).map f) hy sA HA CA clA fpA F2 α' H2 _ x _ R2 r2 fun σ3 F3 H3 R3 s3 w3 => ⟨w3.trans wipe_idem, ?_⟩
    intro sB HB CB clB fpB
    refine ht i y (((ys.take i).filter p).map f) hy sB HB CB clB fpB F3 α' H3 σ3 _ R3 fun F4 α4 H4 R4 st4 => ?_
    have hLL := hL i y (((ys.take i).filter p).map f)
    have full : ∀ {F5 : Hp} {α5 : Nat → Addr} {acc : List Nz.D}, Same F' F5 → (∀ n, n ∈ names (S1.L ++ [(nD, LO.fl (((ys.take i).filter p).map f))]) → α5 n = α' n) → Stp F1 (setα α1 nD D) (S1.L ++ [(nD, .fl [])]) F5 α5 := fun {F5 α5 acc} h1 h2 =>
      ⟨sm.trans h1, fun n hn' => by
        rw [h2 n (by rw [names_append] at hn' ⊢; exact hn'), st'.nm n hn']⟩
    have back : ∀ {F5 : Hp} {α5 : Nat → Addr} {H5 : Hp} {acc : List Nz.D}, RelX X B F5 α5 H5 σ3 ⟨(Sx i y (((ys.take i).filter p).map f)).ρ, S1.L ++ [(nD, .fl acc)]⟩ → SlR X.K X.mg F5 α5 (S1.L ++ [(nD, .fl acc)]) (wipeC S1.ρ (own.map (·.2))) (L2.wipe σ (own.map (·.2))) →
        RelX X B F5 α5 H5 (L2.wipe σ (own.map (·.2))) ⟨wipeC S1.ρ (own.map (·.2)), S1.L ++ [(nD, .fl acc)]⟩ := fun {F5 α5 H5 acc} Rr sl => ⟨Rr.sub, Rr.bF, Rr.nF, Rr.frame, Rr.nd, Rr.inj, Rr.live, sl, Rr.fix⟩
    have sl0 : SlR X.K X.mg F' α' (S1.L ++ [(nD, .fl (((ys.take i).filter p).map f))]) (wipeC S1.ρ (own.map (·.2))) (L2.wipe σ (own.map (·.2))) := R'.slots
    have st4' : Stp F' α' (S1.L ++ [(nD, .fl (((ys.take i).filter p).map f))]) F4 α4 := ⟨s2.trans (s3.trans st4.fro), fun n hn' => st4.nm n (by rw [hLL]; exact hn')⟩
    cases hp : p y with
    | false =>
      rw [if_neg Bool.false_ne_true]
      have e2 : ((ys.take (i + 1)).filter p).map f = ((ys.take i).filter p).map f := by rw [tk, List.filter_append]; simp [hp]
      refine ⟨F4, α4, ?_, full (acc := []) st4'.fro st4'.nm⟩
      rw [e2]
      have R4' : RelX X B F4 α4 H4 σ3 ⟨(Sx i y (((ys.take i).filter p).map f)).ρ, S1.L ++ [(nD, .fl (((ys.take i).filter p).map f))]⟩ := by rw [← hLL]; exact R4
      exact back R4' (sl0.step st4' fun _ z => z)
    | true =>
      rw [if_pos rfl]
      intro sC HC CC clC fpC
      refine he i y (((ys.take i).filter p).map f) hy hp sC HC CC clC fpC F4 α4 H4 σ3 _ R4 fun F5 α5 v5 H5 R5 st5 r5 => ?_
      have st5' : Stp F' α' (S1.L ++ [(nD, .fl (((ys.take i).filter p).map f))]) F5 α5 := st4'.trans ⟨st5.fro, fun n hn' => st5.nm n (by rw [hLL]; exact hn')⟩ fun _ z => z
      have R5' : RelX X B F5 α5 H5 σ3 ⟨(Sx i y (((ys.take i).filter p).map f)).ρ, S1.L ++ [(nD, .fl (((ys.take i).filter p).map f))]⟩ := by rw [← hLL]; exact R5
      obtain ⟨q0, q1, vs5, e5, rs5⟩ := R5'.live nD _ (List.mem_append_right _ (List.mem_singleton.mpr rfl))
      have nm5 : α5 nD = D := by rw [st5'.nm nD (by rw [names_append]; exact List.mem_append_right _ (List.mem_singleton.mpr rfl)), nmD]
      have gl := getL_app (o := .fl (((ys.take i).filter p).map f)) hn
      have sl : ∀ (acc : List Nz.D), setL nD (.fl acc) (S1.L ++ [(nD, LO.fl (((ys.take i).filter p).map f))]) = S1.L ++ [(nD, .fl acc)] := fun acc => setL_app hn
      rw [nm5] at e5
      have e2 : ((ys.take (i + 1)).filter p).map f = ((ys.take i).filter p).map f ++ [f y] := by rw [tk, List.filter_append, List.map_append]; simp [hp]
      have lenv : vs5.length < sizeLine := by
        rw [← rs5.length, List.length_map]
        have := List.length_filter_le p (ys.take i)
        rw [List.length_take] at this
        omega
      refine ⟨vs5, e5, lenv, F5, α5, ?_, full (acc := []) st5'.fro st5'.nm⟩
      have Rp := R5'.put (n := nD) (u := .fl (((ys.take i).filter p).map f ++ [f y])) (o' := .lst (vs5 ++ [v5])) (getL_mem gl) ⟨vs5 ++ [v5], upd_same, rs5.append (.cons r5 .nil)⟩
      rw [nm5] at Rp
      rw [e2]
      have Rp' : RelX X B F5 α5 (upd H5 D (.lst (vs5 ++ [v5]))) σ3 ⟨(Sx i y (((ys.take i).filter p).map f)).ρ, S1.L ++ [(nD, .fl (((ys.take i).filter p).map f ++ [f y]))]⟩ := by rw [← sl]; exact Rp
      refine back Rp' (sl0.step (L' := S1.L ++ [(nD, .fl (((ys.take i).filter p).map f ++ [f y]))]) st5' fun n hn' => by rw [names_append] at hn' ⊢; exact hn')
  · have e1 : i = ys.length := by omega
    subst e1
    refine .inl ⟨j.stop B F' α' H' _ _ _ R' sm (by rw [List.length_map]; exact Nat.le_refl _), ?_⟩
    rw [List.take_length] at R'
    have stA : Stp F1 α1 S1.L F' α' := stn.trans ⟨st'.fro, fun n hn' => st'.nm n (Sub.app n hn')⟩ fun _ z => z
    obtain ⟨F6, R6, st6, r6⟩ := Rel.close (L := S1.L) R1 R' stA hn
    rw [nmD] at r6
    exact k F6 α' (.ref D) H' R6 (st1.trans st6 hS) r6

section
variable {τ : Type} {ys : List τ} {enc : τ → D}
theorem ev_lc (nD : Nat) (ys : List τ) (enc : τ → D) (f : τ → D) (p : τ → Bool) (Sx : Nat → τ → List D → Nz.S) (hc : X.calm = true) (hN : X.N.Nodup) (ok : BlkOk X.N X.env.scope scope own)
    (hsrc : Src X B tg iter S (ys.map enc) S1) (hn : nD ∉ names S1.L) (h100 : 100 ≤ nD) (hz : ys.length ≤ sizeLine) (hL : ∀ i y acc, (Sx i y acc).L = S1.L ++ [(nD, .fl acc)])
    (hg : ∀ i y acc, ys[i]? = some y → ∀ s H0 C cl fp, EgC (Blk X scope s H0 C cl fp) B tg (.fr (enc y)) ⟨wipeC S1.ρ (own.map (·.2)), S1.L ++ [(nD, .fl acc)]⟩ (Sx i y acc) (own.map (·.2)))
    (ht : ∀ i y acc, ys[i]? = some y → ∀ s H0 C cl fp, Ets (Blk X scope s H0 C cl fp) B ifs (Sx i y acc) (p y))
    (he : ∀ i y acc, ys[i]? = some y → p y = true → ∀ s H0 C cl fp, Ev (Blk X scope s H0 C cl fp) B elt (Sx i y acc) (.fr (f y)) (Sx i y acc)) (hS : Sub S.L S1.L := by exact Sub.refl) (hs : ∀ x, foldedSetIterable iter X.env x = pure x := by intro _; rfl) :
    Ev X B (.ListComp elt [⟨tg, iter, ifs, 0⟩] scope pos) S (.fr (.lst ((ys.filter p).map f))) S1 :=
  fun F α H σ Q R k => wE.of (pe_lc hc hN pi_w ok (fun s H0 C cl fp => ⟨fun pins s1 σ1 H1 v u Q1 I r h => h s H0 C cl fp pins s1 u I r⟩) (fun s H0 C cl fp => ⟨fun pins s1 σ1 H1 Q1 I h => h s H0 C cl fp pins s1 I⟩) (fun s H0 C cl fp => ⟨fun pins s1 σ1 H1 Q1 I h => h s H0 C cl fp pins s1 I⟩) hs)
    (lc_reading nD f p Sx hsrc hn h100 hz hL hg ht he F α H σ Q R hS k)
theorem ex_setLc (i : Nat) {y : Str} {py spos : Pos} {K : Out → Prop} (nD : Nat) (ys : List τ) (enc : τ → D) (f : τ → D) (p : τ → Bool) (Sx : Nat → τ → List D → Nz.S) (hc : X.calm = true) (hN : X.N.Nodup) (hy : X.N[i]? = some y) (hyl : X.env.scope.names.lookup y = some .local)
    (hsw : swapsWith (.ListComp elt [⟨tg, iter, ifs, 0⟩] scope pos) (some (.Name y py)) spos.line X.env = pure true) (ok : BlkOk X.N X.env.scope scope own)
    (hsrc : Src X B tg iter S (ys.map enc) S1) (hn : nD ∉ names S1.L) (h100 : 100 ≤ nD) (hz : ys.length ≤ sizeLine) (hL : ∀ i y acc, (Sx i y acc).L = S1.L ++ [(nD, .fl acc)])
    (hg : ∀ i y acc, ys[i]? = some y → ∀ s H0 C cl fp, EgC (Blk X scope s H0 C cl fp) B tg (.fr (enc y)) ⟨wipeC S1.ρ (own.map (·.2)), S1.L ++ [(nD, .fl acc)]⟩ (Sx i y acc) (own.map (·.2)))
    (ht : ∀ i y acc, ys[i]? = some y → ∀ s H0 C cl fp, Ets (Blk X scope s H0 C cl fp) B ifs (Sx i y acc) (p y))
    (he : ∀ i y acc, ys[i]? = some y → p y = true → ∀ s H0 C cl fp, Ev (Blk X scope s H0 C cl fp) B elt (Sx i y acc) (.fr (f y)) (Sx i y acc))
    (k : K (.nx (setS S1 i (.fr (.lst ((ys.filter p).map f)))))) (hS : Sub S.L S1.L := by exact Sub.refl) (hs : ∀ x, foldedSetIterable iter X.env x = pure x := by intro _; rfl) :
    Ex X B (.Assign [.Name y py] (.ListComp elt [⟨tg, iter, ifs, 0⟩] scope pos) spos) S K :=
  fun F α H σ D R o => wS.of (ps_setLc hc hN hy hyl hsw pi_w ok (fun s H0 C cl fp => ⟨fun pins s1 σ1 H1 v u Q1 I r h => h s H0 C cl fp pins s1 u I r⟩) (fun s H0 C cl fp => ⟨fun pins s1 σ1 H1 Q1 I h => h s H0 C cl fp pins s1 I⟩) (fun s H0 C cl fp => ⟨fun pins s1 σ1 H1 Q1 I h => h s H0 C cl fp pins s1 I⟩) hs)
    (lc_reading nD f p Sx hsrc hn h100 hz hL hg ht he F α H σ _ R hS fun F' α' v H' R' st r => o.nx _ F' α' H' _ k (R'.setS r) st.fro)
end
end

/-! ### calls of what is built in -/
def Cb (X : Cx) (f : Value) (ds : List D) (d : D) : Prop :=
  ∀ B F α H σ (S : Nz.S) (Q : VK) xs, RelX X B F α H σ S → Reps X.K X.mg F ds xs → (∀ F' α' v H', RelX X B F' α' H' σ S → Stp F α S.L F' α' → Rep X.K X.mg F' d v → Q v H') →
    ∀ pins s us, Inv X pins σ H s → Vals xs us → wpAny (model X.prog X.w) X.A (call f us) (EP X pins σ Q) X.xe s
theorem Cb.of {X : Cx} {f : Value} {ds : List D} {d : D} {r : List V → Hp → VK → Prop} (h : CallR X f r)
    (hr : ∀ B F α H σ (S : Nz.S) (Q : VK) xs, RelX X B F α H σ S → Reps X.K X.mg F ds xs → (∀ F' α' v H', RelX X B F' α' H' σ S → Stp F α S.L F' α' → Rep X.K X.mg F' d v → Q v H') → r xs H Q) : Cb X f ds d :=
  fun B F α H σ S Q xs R rx k pins s us I rv => h pins s σ H xs us Q I rv (hr B F α H σ S Q xs R rx k)
section
variable {X : Cx} {B : Bd} {S S1 : Nz.S} {a e : Expr} {es : List Expr} {pos p : Pos} {x : Str} {ds : List D} {d : D} {id T : String}
theorem ev_callB (hc : Cb X (.builtin id) ds d) (ha : Ea X B (e :: es) S (ds.map Ce.fr) S1) (hg : Gl X x) (hm : X.mg x = none) (hv : bootBuiltins x = some (.builtin id)) (h1 : Sub S.L S1.L := by exact Sub.refl) (hn : x ≠ "__name__" := by decide) (hdb : (x == ("__debug__" : Str)) = false := by decide)
    (he : starEach (e :: es) X.env = (false, eval e X.env) :: starEach es X.env := by rfl) (hpl : (backTo pos (starEach es X.env)).any (·.1) = false := by rfl) : Ev X B (.Call (.Name x p) (e :: es) [] pos) S (.fr d) S1 :=
  fun F α H σ Q R k pins s I => wpAny_Call_Name_kw (ld_blt I hg hm hv (PyProof.Rows.callWith_builtin1 (thn (ha F α H σ (fun vs H1 => ∃ F1 α1, RelX X B F1 α1 H1 σ S1 ∧ Stp F α S.L F1 α1 ∧ Reps X.K X.mg F1 ds vs) R
    (fun F1 α1 vs H1 R1 st1 r1 => ⟨F1, α1, R1, st1, r1.fr⟩) pos pins s I) fun us s1 ⟨vs, H1, I1, rv, F1, α1, R1, st1, r1⟩ =>
      hc B F1 α1 H1 σ S1 Q vs R1 r1 (fun F' α' v H' R' st' r' => k F' α' v H' R' (st1.trans st' h1) r') pins s1 us I1 rv) he hpl) hn hdb)
theorem ev_callTy (hc : Cb X (.type T) ds d) (ha : Ea X B (e :: es) S (ds.map Ce.fr) S1) (hg : Gl X x) (hm : X.mg x = none) (hv : bootBuiltins x = some (.type T)) (h1 : Sub S.L S1.L := by exact Sub.refl) (hn : x ≠ "__name__" := by decide) (hdb : (x == ("__debug__" : Str)) = false := by decide)
    (he : starEach (e :: es) X.env = (false, eval e X.env) :: starEach es X.env := by rfl) (hpl : (backTo pos (starEach es X.env)).any (·.1) = false := by rfl) : Ev X B (.Call (.Name x p) (e :: es) [] pos) S (.fr d) S1 :=
  fun F α H σ Q R k pins s I => wpAny_Call_Name_kw (ld_blt I hg hm hv (PyProof.Rows.callWith_type1 (thn (ha F α H σ (fun vs H1 => ∃ F1 α1, RelX X B F1 α1 H1 σ S1 ∧ Stp F α S.L F1 α1 ∧ Reps X.K X.mg F1 ds vs) R
    (fun F1 α1 vs H1 R1 st1 r1 => ⟨F1, α1, R1, st1, r1.fr⟩) pos pins s I) fun us s1 ⟨vs, H1, I1, rv, F1, α1, R1, st1, r1⟩ =>
      hc B F1 α1 H1 σ S1 Q vs R1 r1 (fun F' α' v H' R' st' r' => k F' α' v H' R' (st1.trans st' h1) r') pins s1 us I1 rv) he hpl) hn hdb)
theorem c_abs {i : Int} : Cb X (.builtin "abs") [.int i] (.int (if i < 0 then -i else i)) := .of call_abs fun B F α H σ S Q xs R rx k => by
  cases rx with | cons r rr => cases rr; cases r; exact ⟨i, rfl, k F α _ H R Stp.refl (.int _)⟩
theorem c_max2 {i j : Int} (hc : X.calm = true) : Cb X (.builtin "max") [.int i, .int j] (.int (if j > i then j else i)) := .of (call_max2 hc) fun B F α H σ S Q xs R rx k => by
  cases rx with | cons r rr => cases rr with | cons r2 rr => cases rr; cases r; cases r2; exact ⟨i, j, rfl, k F α _ H R Stp.refl (.int _)⟩
theorem c_min2 {i j : Int} (hc : X.calm = true) : Cb X (.builtin "min") [.int i, .int j] (.int (if j < i then j else i)) := .of (call_min2 hc) fun B F α H σ S Q xs R rx k => by
  cases rx with | cons r rr => cases rr with | cons r2 rr => cases rr; cases r; cases r2; exact ⟨i, j, rfl, k F α _ H R Stp.refl (.int _)⟩
theorem c_int {i : Int} : Cb X (.type "int") [.int i] (.int i) := .of call_int1 fun B F α H σ S Q xs R rx k => by
  cases rx with | cons r rr => cases rr; cases r; exact .inl ⟨i, rfl, k F α _ H R Stp.refl (.int _)⟩
theorem c_str {i : Int} (h : i.natAbs.log2 < 1920) : Cb X (.type "str") [.int i] (.str (toString i)) := .of call_str_int fun B F α H σ S Q xs R rx k => by
  cases rx with | cons r rr => cases rr; cases r; exact ⟨i, rfl, h, k F α _ H R Stp.refl (.str _)⟩
theorem c_lenL {xs : List D} : Cb X (.builtin "len") [.lst xs] (.int xs.length) := .of call_len_seq fun B F α H σ S Q vs R rx k => by
  cases rx with
  | cons r rr =>
    cases rr
    obtain ⟨a, us, rfl, hq, rs⟩ := R.asL (c := .fr (.lst xs)) rfl r
    exact ⟨a, us, rfl, .inl hq, by rw [← rs.length]; exact k F α _ H R Stp.refl (.int _)⟩
theorem c_lenT {xs : List D} : Cb X (.builtin "len") [.tup xs] (.int xs.length) := .of call_len_seq fun B F α H σ S Q vs R rx k => by
  cases rx with
  | cons r rr =>
    cases rr
    obtain ⟨a, us, rfl, hq, rs⟩ := R.asT r
    exact ⟨a, us, rfl, .inr hq, by rw [← rs.length]; exact k F α _ H R Stp.refl (.int _)⟩
theorem c_lenS {z : Str} (h : z.length ≤ sizeLine) : Cb X (.builtin "len") [.str z] (.int z.length) := .of call_len_str fun B F α H σ S Q vs R rx k => by
  cases rx with | cons r rr => cases rr; cases r; exact ⟨z, rfl, h, k F α _ H R Stp.refl (.int _)⟩
theorem c_sum {ns : List Int} (hc : X.calm = true) : Cb X (.builtin "sum") [.lst (ns.map D.int)] (.int ns.sum) := .of (cr_sum hc) fun B F α H σ S Q vs R rx k => by
  cases rx with
  | cons r rr =>
    cases rr
    obtain ⟨a, us, rfl, hq, rs⟩ := R.asL (c := .fr (.lst (ns.map D.int))) rfl r
    exact ⟨a, ns, rfl, by rw [← Reps.ints_eq rs]; exact hq, k F α _ H R Stp.refl (.int _)⟩
theorem c_list {xs : List D} : Cb X (.type "list") [.lst xs] (.lst xs) := .of call_list_of fun B F α H σ S Q vs R rx k => by
  cases rx with
  | cons r rr =>
    cases rr
    obtain ⟨a, us, rfl, hq, rs⟩ := R.asL (c := .fr (.lst xs)) rfl r
    exact ⟨a, us, rfl, .inl hq, fun l hl => k _ α _ _ (R.allocF hl) (stp_allocF (R.fresh hl)) (.lst (SqL.of upd_same) (rs.mono (same_upd (R.fresh hl))))⟩
theorem c_listT {xs : List D} : Cb X (.type "list") [.tup xs] (.lst xs) := .of call_list_of fun B F α H σ S Q vs R rx k => by
  cases rx with
  | cons r rr =>
    cases rr
    obtain ⟨a, us, rfl, hq, rs⟩ := R.asT r
    exact ⟨a, us, rfl, .inr hq, fun l hl => k _ α _ _ (R.allocF hl) (stp_allocF (R.fresh hl)) (.lst (SqL.of upd_same) (rs.mono (same_upd (R.fresh hl))))⟩
theorem c_tuple {xs : List D} : Cb X (.type "tuple") [.lst xs] (.tup xs) := .of call_tuple_of fun B F α H σ S Q vs R rx k => by
  cases rx with
  | cons r rr =>
    cases rr
    obtain ⟨a, us, rfl, hq, rs⟩ := R.asL (c := .fr (.lst xs)) rfl r
    exact ⟨a, us, rfl, .inl ⟨hq, fun l hl => k _ α _ _ (R.allocF hl) (stp_allocF (R.fresh hl)) (.tup (SqT.of upd_same) (rs.mono (same_upd (R.fresh hl))))⟩⟩
theorem c_tupleT {xs : List D} : Cb X (.type "tuple") [.tup xs] (.tup xs) := .of call_tuple_of fun B F α H σ S Q vs R rx k => by
  cases rx with
  | cons r rr =>
    cases rr
    have r0 := r
    obtain ⟨a, us, rfl, hq, rs⟩ := R.asT r
    exact ⟨a, us, rfl, .inr ⟨hq, k F α _ H R Stp.refl r0⟩⟩
theorem c_divmod {i j : Int} (h : 0 < j) (h' : j < 1073741824) : Cb X (.builtin "divmod") [.int i, .int j] (.tup [.int (i / j), .int (i % j)]) := .of call_divmod fun B F α H σ S Q vs R rx k => by
  cases rx with | cons r rr => cases rr with | cons r2 rr => cases rr; cases r; cases r2; exact ⟨i, j, rfl, ⟨h, h'⟩, fun p hp => k _ α _ _ (R.allocF hp) (stp_allocF (R.fresh hp)) (.tup (SqT.of upd_same) (.cons (.int _) (.cons (.int _) .nil)))⟩
/-- bools -/
theorem Reps.bls_eq {K : Frag} {mg : Mg} {F : Hp} : ∀ {ns : List Bool} {vs : List V}, Reps K mg F (ns.map D.bl) vs → vs = ns.map V.bl
  | [], _, .nil => rfl
  | _ :: ns, _, .cons h r => by
    cases h
    rw [Reps.bls_eq (ns := ns) r]; rfl
theorem c_any {bs : List Bool} (hc : X.calm = true) : Cb X (.builtin "any") [.lst (bs.map D.bl)] (.bl (bs.any fun b => b)) := .of (cr_any hc) fun B F α H σ S Q vs R rx k => by
  cases rx with
  | cons r rr =>
    cases rr
    obtain ⟨a, us, rfl, hq, rs⟩ := R.asL (c := .fr (.lst (bs.map D.bl))) rfl r
    exact ⟨a, bs, rfl, by rw [← Reps.bls_eq rs]; exact hq, k F α _ H R Stp.refl (.bl _)⟩
theorem c_all {bs : List Bool} (hc : X.calm = true) : Cb X (.builtin "all") [.lst (bs.map D.bl)] (.bl (bs.all fun b => b)) := .of (cr_all hc) fun B F α H σ S Q vs R rx k => by
  cases rx with
  | cons r rr =>
    cases rr
    obtain ⟨a, us, rfl, hq, rs⟩ := R.asL (c := .fr (.lst (bs.map D.bl))) rfl r
    exact ⟨a, bs, rfl, by rw [← Reps.bls_eq rs]; exact hq, k F α _ H R Stp.refl (.bl _)⟩
/-- len of what lives -/
theorem ev_lenL {ca : Ce} (ha : Ev X B e S ca S1) (hl : AsL S1.L ca ds) (hg : Gl X "len") (hm : X.mg "len" = none) (hs : starEach [e] X.env = (false, eval e X.env) :: starEach [] X.env := by rfl) (hpl : (backTo pos (starEach [] X.env)).any (·.1) = false := by rfl) : Ev X B (.Call (.Name "len" p) [e] [] pos) S (.fr (.int ds.length)) S1 :=
  fun F α H σ Q R k => wE.of (pe_callB call_len_seq hg hm PySem.boot_len (pa_cons pe_w pa_nil hs) (by decide) (by decide) hs hpl) (ha F α H σ _ R fun F1 α1 v1 H1 R1 st1 r1 => by
    obtain ⟨a, us, rfl, hq, rs⟩ := R1.asL hl r1
    exact ⟨a, us, rfl, .inl hq, by rw [← rs.length]; exact k F1 α1 _ H1 R1 st1 (.int _)⟩)

/-! ### isinstance of a builtin class -/
def tyOf : D → Option String
  | .non => some "NoneType" | .bl _ => some "bool" | .int _ => some "int" | .str _ => some "str" | .tup _ => some "tuple" | .lst _ => some "list" | .obj _ _ => none
end
end Nz

namespace Nz
open PySem PySem.Spec PyProof.Rows L2
section
variable {X : Cx} {B : Bd} {S S1 : Nz.S} {a e : Expr} {es : List Expr} {pos p q : Pos} {x : Str} {ds : List D} {d : D}
theorem tyX_lst {K : Frag} {H : Hp} {a : Addr} {vs : List V} (h : SqL K H a vs) : TyX K H (.ref a) (.type "list") := by
  rcases h with (h | ⟨o, h⟩) | ⟨o, its, n, h1, h2, _⟩
  · exact .base (.lst h)
  · exact .base (.frz h)
  · exact .kList h1 h2
theorem tyX_tup {K : Frag} {H : Hp} {a : Addr} {vs : List V} (h : SqT K H a vs) : TyX K H (.ref a) (.type "tuple") := by
  rcases h with (h | ⟨o, h⟩) | ⟨o, its, n, h1, h2, _⟩
  · exact .base (.tup h)
  · exact .fTuple h
  · exact .kTuple h1 h2
theorem Rel.tyX {F : Hp} {α : Nat → Addr} {H : Hp} {σ : L2.St} (R : RelX X B F α H σ S) {v : V} {t : String} (r : Rep X.K X.mg F d v) (h : tyOf d = some t) : TyX X.K H v (.type t) := by
  cases r with
  | non => cases h; exact .base .non
  | bl b => cases h; exact .base (.bl b)
  | int i => cases h; exact .base (.int i)
  | str z => cases h; exact .base (.str z)
  | tup h1 h2 => cases h; exact tyX_tup (R.sub.seqT h1)
  | lst h1 h2 => cases h; exact tyX_lst (R.sub.seq h1)
  | obj m h1 h2 h3 => cases h
/-- isinstance(a, T), T a built-in class -/
theorem ev_isi {T t : String} {b : Bool} {xT : Str} {p2 : Pos} (ha : Ev X B a S (.fr d) S1) (ht : tyOf d = some t) (hk : kitB t T = some b) (hg : Gl X "isinstance") (hm : X.mg "isinstance" = none) (hgT : Gl X xT) (hmT : X.mg xT = none) (hv : bootBuiltins xT = some (.type T))
    (hv2 : bootBuiltins "isinstance" = some (.builtin "isinstance") := by decide +kernel)
    (hn : xT ≠ "__name__" := by decide) (hd : (xT == ("__debug__" : Str)) = false := by decide)
    (he : starEach (a :: [.Name xT p2]) X.env = (false, eval a X.env) :: starEach [.Name xT p2] X.env := by rfl) (he2 : starEach (.Name xT p2 :: []) X.env = (false, eval (.Name xT p2) X.env) :: starEach [] X.env := by rfl) (hpl : (backTo pos (starEach [.Name xT p2] X.env)).any (·.1) = false := by rfl) :
    Ev X B (.Call (.Name "isinstance" p) [a, .Name xT p2] [] pos) S (.fr (.bl b)) S1 :=
  fun F α H σ Q R k => wE.of (pe_callB call_isi hg hm hv2 (pa_cons pe_w (pa_cons (pe_bltn (v := .ty T) hgT hmT hv rfl hn hd) pa_nil he2) he) (by decide) (by decide) he hpl) (ha F α H σ _ R fun F1 α1 v1 H1 R1 st1 r1 => by
    exact ⟨v1, .ty T, .type t, .type T, b, rfl, .ty T, R1.tyX r1 ht, kit_ty hk, k F1 α1 _ H1 R1 st1 (.bl _)⟩)


/-! ### methods of lists that live -/
theorem ev_append {n : Nat} {o : Expr} {apos : Pos} (ho : Ev X B o S (.ad n) S) {ds0 : List D} (ha : Ev X B e S (.fr d) S1) (hn : getL n S1.L = some (.fl ds)) (hn0 : getL n S.L = some (.fl ds0)) (hz : ds.length < sizeLine) (h1 : Sub S.L S1.L := by exact Sub.refl)
    (hbase : attributeBase o "append" X.env (eval o X.env) = eval o X.env := by rfl)
    (hfew : ((backTo pos (starEach (e :: []) X.env)).all (fun x => !x.1) && (backToKw pos (keywordEach [] X.env)).all (fun x => x.1.isSome)
      && decide ((e :: ([] : List Expr)).length + ([] : List Keyword).length + (if ([] : List Keyword).isEmpty then 0 else 1) < 30)) = true := by rfl)
    (hline : (apos.endLine == pos.line) = true := by rfl) (hs : starEach (e :: []) X.env = (false, eval e X.env) :: starEach [] X.env := by rfl) (hplain : (backTo pos (starEach [] X.env)).any (·.1) = false := by rfl) :
    Ev X B (.Call (.Attribute o "append" apos) [e] [] pos) S (.fr .non) ⟨S1.ρ, setL n (.fl (ds ++ [d])) S1.L⟩ :=
  fun F α H σ Q R k => wE.of (pe_bm PySem.F.plainAttrs_list PySem.F.slot_list_append PySem.F.type_list_append mt_append pe_w (pa_cons pe_w pa_nil hs) hbase hfew hline hs hplain) (ho F α H σ _ R fun F1 α1 v1 H1 R1 st1 r1 => by
    obtain ⟨hm, rfl⟩ := r1
    refine ⟨?_, ha F1 α1 H1 σ _ R1 fun F2 α2 v2 H2 R2 st2 r2 => ?_⟩
    · -- it is a list already
      obtain ⟨_, _, vs, e1, rs⟩ := R1.live n _ (getL_mem hn0)
      exact .inl ⟨rfl, _, SqL.of e1⟩
    · have hmm := getL_mem hn
      obtain ⟨f0, f1, vs, e1, rs⟩ := R2.live n _ hmm
      have en : α2 n = α1 n := st2.nm n hm
      refine ⟨α1 n, vs, v2, rfl, rfl, by rw [← en]; exact e1, by rw [← rs.length]; exact hz, ?_⟩
      have Rp := R2.put (n := n) (u := .fl (ds ++ [d])) (o' := .lst (vs ++ [v2])) hmm ⟨vs ++ [v2], upd_same, rs.append (.cons r2 .nil)⟩
      rw [en] at Rp
      exact k F2 α2 .non _ Rp ((st1.trans st2 Sub.refl).trans Stp.refl h1) .non)

/-! ### defs -/
/-- what a def promises: of the arguments' cells, the live objects handed in, and what is wanted of the value and of what lives behind -/
abbrev SpN := List Ce → List (Nat × LO) → (Ce → List (Nat × LO) → Prop) → Prop
def bdOf (F H : Hp) (fp : Addr → Prop) (α : Nat → Addr) (L : List (Nat × LO)) : Bd := ⟨F, H, fp, fun n => if n < 100 then some (α n) else none, fun n h => by rw [if_neg (by omega)]⟩
def SpOf (K : Frag) (mg : Mg) (sp : SpN) : Sp := fun vs H Q _ => ∃ F α L cs fp, Rel K mg (bdOf F H fp α L) F α H (vs.map some) ⟨cs.map some, L⟩ ∧
  sp cs L fun c L' => ∀ F' α' v H' ρ' σ', Rel K mg (bdOf F H fp α L) F' α' H' σ' ⟨ρ', L'⟩ → CRel K mg F' α' L' c v → Q v H'
def retK (Kc : Ce → List (Nat × LO) → Prop) : Out → Prop
  | .ret c S => Kc c S.L
  | .nx S => Kc (.fr .non) S.L
  | _ => False
def startC (N : List Str) (cs : List Ce) : List (Option Ce) := cs.map some ++ List.replicate (N.length - cs.length) none
theorem slr_rep {K : Frag} {mg : Mg} {F : Hp} {α : Nat → Addr} {L : List (Nat × LO)} : ∀ n, SlR K mg F α L (List.replicate n none) (List.replicate n none)
  | 0 => .nil
  | n + 1 => .no (slr_rep n)
theorem SlR.append {K : Frag} {mg : Mg} {F : Hp} {α : Nat → Addr} {L : List (Nat × LO)} : ∀ {c c' : List (Option Ce)} {σ σ' : L2.St}, SlR K mg F α L c σ → SlR K mg F α L c' σ' → SlR K mg F α L (c ++ c') (σ ++ σ')
  | _, _, _, _, .nil, h => h
  | _, _, _, _, .no r, h => .no (r.append h)
  | _, _, _, _, .so q r, h => .so q (r.append h)
theorem SlR.length {K : Frag} {mg : Mg} {F : Hp} {α : Nat → Addr} {L : List (Nat × LO)} : ∀ {c : List (Option Ce)} {σ : L2.St}, SlR K mg F α L c σ → c.length = σ.length
  | _, _, .nil => rfl
  | _, _, .no r => congrArg (· + 1) r.length
  | _, _, .so _ r => congrArg (· + 1) r.length
theorem _root_.L2.Fun.okN {P : Program} {w : World} {K : Frag} {mg : Mg} {base : Heap} {x qual : Str} {st : Stmt} {f : Addr} {fd : FuncData} {N ps : List Str} {k : Nat} {sp : SpN} (F : Fun K x qual st f fd) (S : FnScope N ps (defScope st)) (len : ∀ cs L Kc, sp cs L Kc → cs.length = ps.length)
    (hbody : ∀ (cdv : Value) (A : Around) (outer : List Env) (s : Shared) (H : Hp) (E : XK) (B : Bd) (cs : List Ce) (L : List (Nat × LO)) (Kc : Ce → List (Nat × LO) → Prop), Room k (A.deeper (envOfC qual (defScope st) s.heap.objs.size f cdv)) → sp cs L Kc →
      Exs (cxOf CX0 P w K mg base N qual (defScope st) f cdv A outer s H E).nox B (defBody st) ⟨startC N cs, L⟩ (retK Kc)) : FnOk P w K mg base CX0 (k + 1) f fd ps (SpOf K mg sp) := by
  refine F.ok S (fun vs H Q E h => ?_) (fun cdv A outer s H vs Q E hr h => ?_)
  · obtain ⟨F', α, L, cs, fp, R, h⟩ := h
    have e1 := R.slots.length
    have e2 := len _ _ _ h
    simp only [List.length_map] at e1
    omega
  · obtain ⟨F', α, L, cs, fp, R, h⟩ := h
    have e1 : cs.length = vs.length := by have := R.slots.length; simpa using this
    refine ⟨_, pss_w, hbody cdv A outer s H E (bdOf F' H fp α L) cs L _ hr h F' α H _ _ (?_ : Rel _ _ _ _ _ _ _ _) ?_⟩
    · refine ⟨R.sub, R.bF, R.nF, R.frame, R.nd, R.inj, R.live, ?_, R.fix⟩
      show SlR _ _ _ _ _ (cs.map some ++ List.replicate (N.length - cs.length) none) (vs.map some ++ List.replicate (N.length - vs.length) none)
      rw [e1]
      exact R.slots.append (slr_rep _)
    · refine ⟨fun S' F1 α1 H1 σ1 k1 R1 s1 => k1 F1 α1 .non H1 S'.ρ σ1 R1 .non, fun S' F1 α1 H1 σ1 k1 R1 s1 => k1.elim, fun S' F1 α1 H1 σ1 k1 R1 s1 => k1.elim, fun c S' F1 α1 H1 σ1 v k1 R1 s1 r1 => k1 F1 α1 v H1 S'.ρ σ1 R1 r1⟩
theorem paired_slots {K : Frag} {mg : Mg} {F : Hp} {α : Nat → Addr} : ∀ {ds : List D} {vs : List V}, Reps K mg F ds vs → SlR K mg F α [] ((ds.map Ce.fr).map some) (vs.map some)
  | _, _, .nil => .nil
  | _, _, .cons h r => .so h (paired_slots r)
theorem Rel.call0 {K : Frag} {mg : Mg} {B : Bd} {F : Hp} {α : Nat → Addr} {H : Hp} {σ : L2.St} {S : Nz.S} {vs : List V} (R : Rel K mg B F α H σ S) (r : Reps K mg F ds vs) : Rel K mg (bdOf F H (fun _ => False) α []) F α H (vs.map some) ⟨(ds.map Ce.fr).map some, []⟩ :=
  ⟨R.sub, Same.refl _, fun b o e => .inl e, fun b o e _ => e, List.nodup_nil, fun n m h => absurd h (by simp [names]), fun n o h => absurd h (by simp), paired_slots r, fun n a h hn => absurd hn (by simp [names])⟩
/-- behind a call that was handed nothing that lives -/
theorem Rel.back0 {K : Frag} {mg : Mg} {B : Bd} {F F' : Hp} {α α' : Nat → Addr} {H H' : Hp} {σ σ' : L2.St} {S S' : Nz.S} (R : Rel K mg B F α H σ S) (R' : Rel K mg (bdOf F H (fun _ => False) α []) F' α' H' σ' S') : Rel K mg B F' α H' σ S :=
  R.grow R'.bF (fun b o e => R'.frame b o e fun z => z) R'.sub fun b u e => by
    rcases R'.nF b u e with z | z | z
    · exact .inl z
    · exact .inr z
    · exact z.elim
variable {CX : CXT} {f C : Addr} {fd : FuncData} {ps : List Str} {k : Nat} {sp : SpN} {dvs : List D}
/-- a value as the text has it, for a default -/
theorem ev_call {ds' : List D} {dvs : List V} {dfs : List Value} (F : FnOk X.prog X.w X.K X.mg X.base CX0 k f fd ps (SpOf X.K X.mg sp)) (hr : Room k X.A) (hm : X.mg x = some (.ref f)) (hk : PySem.W.keepIn X.K (.ref f) = true) (hb : Binds X.K fd ps dfs) (hd : Vals dvs dfs)
    (hdv : ∀ F', Reps X.K X.mg F' ds' dvs) (ha : Ea X B (e :: es) S (ds.map Ce.fr) S1) (hs : ∀ Kc : Ce → List (Nat × LO) → Prop, (∀ L', Kc (.fr d) L') → sp ((ds ++ ds').map Ce.fr) [] Kc) (hg : Gl X x) (h1 : Sub S.L S1.L := by exact Sub.refl) (hdb : (x == ("__debug__" : Str)) = false := by decide)
    (he : starEach (e :: es) X.env = (false, eval e X.env) :: starEach es X.env := by rfl) (hpl : (backTo pos (starEach es X.env)).any (·.1) = false := by rfl) : Ev X B (.Call (.Name x p) (e :: es) [] pos) S (.fr d) S1 :=
  fun F0 α H σ Q R k => wE.of (pe_call F hr hg hm hk hb hd pass0 pa_w hdb he hpl) (ha F0 α H σ _ R fun F1 α1 vs H1 R1 st1 r1 => by
    have r := Reps.append r1.fr (hdv F1)
    exact ⟨F1, α1, [], _, fun _ => False, R1.call0 r, hs _ fun L' F' α' v H' ρ' σ' R' r' => k F' α1 v H' (R1.back0 R') (st1.trans ⟨R'.bF, fun _ _ => rfl⟩ h1) r'⟩)
theorem ev_call0 (F : FnOk X.prog X.w X.K X.mg X.base CX0 k f fd ps (SpOf X.K X.mg sp)) (hr : Room k X.A) (hm : X.mg x = some (.ref f)) (hk : PySem.W.keepIn X.K (.ref f) = true) (hb : Binds X.K fd ps [])
    (hs : ∀ Kc : Ce → List (Nat × LO) → Prop, (∀ L', Kc (.fr d) L') → sp [] [] Kc) (hg : Gl X x) (hdb : (x == ("__debug__" : Str)) = false := by decide) : Ev X B (.Call (.Name x p) [] [] pos) S (.fr d) S :=
  fun F0 α H σ Q R k => wE.of (pe_call0 F hr hg hm hk hb .nil pass0 hdb) (by
    exact ⟨F0, α, [], _, fun _ => False, R.call0 .nil, hs _ fun L' F' α' v H' ρ' σ' R' r' => k F' α v H' (R.back0 R') ⟨R'.bF, fun _ _ => rfl⟩ r'⟩)
/-! forgetting, freezing between statements -/
theorem SlR.set_none {K : Frag} {mg : Mg} {F : Hp} {α : Nat → Addr} {L : List (Nat × LO)} : ∀ {c : List (Option Ce)} {σ : L2.St} (i : Nat), SlR K mg F α L c σ → SlR K mg F α L (c.set i none) σ := fun i h => h.forget i
/-- c' forgets some of c -/
def Fg : List (Option Ce) → List (Option Ce) → Prop
  | [], [] => True
  | a :: as, b :: bs => (b = none ∨ b = a) ∧ Fg as bs
  | _, _ => False
theorem SlR.fg {K : Frag} {mg : Mg} {F : Hp} {α : Nat → Addr} {L : List (Nat × LO)} : ∀ {c c' : List (Option Ce)} {σ : L2.St}, Fg c c' → SlR K mg F α L c σ → SlR K mg F α L c' σ
  | _, [], _, h, .nil => .nil
  | _, b :: bs, _, h, .no r => by
    obtain ⟨h1 | h1, h2⟩ := h
    · subst h1; exact .no (SlR.fg h2 r)
    · subst h1; exact .no (SlR.fg h2 r)
  | _, b :: bs, _, h, .so q r => by
    obtain ⟨h1 | h1, h2⟩ := h
    · subst h1; exact .no (SlR.fg h2 r)
    · subst h1; exact .so q (SlR.fg h2 r)
  | _, [], _, h, .no r => False.elim h
  | _, [], _, h, .so q r => False.elim h
  | _, _ :: _, _, h, .nil => False.elim h
theorem exs_forget {sts : List Stmt} {K : Out → Prop} {ρ : List (Option Ce)} (h : Exs X B sts ⟨ρ, S.L⟩ K) (hf : Fg S.ρ ρ) : Exs X B sts S K := fun F α H σ D R o =>
  h F α H σ D ⟨R.sub, R.bF, R.nF, R.frame, R.nd, R.inj, R.live, R.slots.fg hf, R.fix⟩ o
theorem exs_freeze {sts : List Stmt} {K : Out → Prop} (n : Nat) (hn : getL n S.L = some (.fl ds)) (h : Exs X B sts (frS n (.lst ds) S) K) : Exs X B sts S K := fun F α H σ D R o => by
  obtain ⟨F', R', st, _⟩ := R.freeze hn
  exact h F' α H σ D R' (o.mono st.fro)
theorem ev_freeze (n : Nat) {c : Ce} (he : Ev X B e S c S1) (hn : getL n S1.L = some (.fl ds)) : Ev X B e S (frC n (.lst ds) c) (frS n (.lst ds) S1) := fun F α H σ Q R k => he F α H σ Q R fun F1 α1 v H1 R1 st1 r1 => by
  obtain ⟨F', R', st, _, hc⟩ := R1.freeze hn
  exact k F' α1 v H1 R' ⟨st1.fro.trans st.fro, st1.nm⟩ (hc c v r1)
end
end Nz

namespace Nz
open PySem PySem.Spec PyProof.Rows L2
section
variable {X : Cx} {B : Bd} {S S1 S2 S3 : Nz.S} {a b c e : Expr} {es : List Expr} {pos p q p2 : Pos} {x : Str} {ds : List D} {d d1 d2 : D}
theorem o_cat {xs ys : List D} (hz : xs.length + ys.length ≤ sizeLine) : Op2 X (binaryOp .Add) (.lst xs) (.lst ys) (.lst (xs ++ ys)) :=
  fun B F α H σ S Q x y R rx ry k pins s v u I rv ru => by
    obtain ⟨l1, vs, rfl, hq, rs⟩ := R.asL (c := .fr (.lst xs)) rfl rx
    obtain ⟨l2, us, rfl, hq2, rs2⟩ := R.asL (c := .fr (.lst ys)) rfl ry
    cases rv
    cases ru
    obtain ⟨its, r, ⟨⟨cl, od, dt, sl⟩, n, e1, c1, o1, t1⟩, z1⟩ := I.list hq
    obtain ⟨its2, r2, ⟨⟨cl2, od2, dt2, sl2⟩, n2, e2, c2, o2, t2⟩, z2⟩ := I.list hq2
    simp only at c1 o1 t1 c2 o2 t2
    subst c1 o1 t1 c2 o2 t2
    have hlen := r.length
    have hlen2 := r2.length
    have h1 := rs.length
    have h2 := rs2.length
    have ee : its.toArray ++ its2.toArray = (its ++ its2).toArray := by simp
    refine concat_meets ⟨_, e1, rfl⟩ ⟨_, e2, rfl⟩ noFill_list_add seq_list_add PySem.F.slot_list_add PySem.F.entry_list_add (PySem.F.args_list_add_2 _ _) (list_addW l1 l2 its.toArray its2.toArray n n2 none none sl sl2 (by simp only [List.size_toArray]; omega)) ⟨e1, e2, ?_⟩
    rw [ee]
    have hf := R.fresh I.fresh
    refine ⟨.ref _, _, I.lnew (t' := s.toks) (r.append r2) (by rw [List.length_append]; omega), rfl, k _ α _ _ (R.allocF I.fresh) (stp_allocF hf) (.lst (SqL.of upd_same) ((rs.append rs2).mono (same_upd hf)))⟩

/-! ### slices -/
def Eo (X : Cx) (B : Bd) (e : Option Expr) (S : Nz.S) (o : Option Int) : Prop :=
  ∀ F α H σ (Q : Option Int → Hp → Prop), RelX X B F α H σ S → (∀ F' α' H', RelX X B F' α' H' σ S → Stp F α S.L F' α' → Q o H') →
    ∀ pins s, Inv X pins σ H s → wpAny (model X.prog X.w) X.A (evalPart e X.env) (fun u s' => ∃ o H', Inv X pins σ H' s' ∧ IsPart u o ∧ Q o H') X.xe s
theorem eo_none : Eo X B none S none := fun F α H σ Q R k pins s I => po_none.run pins s σ H Q I (k F α H R Stp.refl)
theorem eo_some {i : Int} (h : Ev X B e S (.fr (.int i)) S) : Eo X B (some e) S (some i) := fun F α H σ Q R k pins s I => (po_some pe_w).run pins s σ H Q I (h F α H σ _ R fun F' α' v H' R' st r => by cases r; exact ⟨i, rfl, k F' α' H' R' st⟩)
def tO (X : Cx) (e : Option Expr) : TO := fun σ H Q => ∀ pins s, Inv X pins σ H s → wpAny (model X.prog X.w) X.A (evalPart e X.env) (fun u s' => ∃ o H', Inv X pins σ H' s' ∧ IsPart u o ∧ Q o H') X.xe s
theorem po_w {e : Option Expr} : PO X e (tO X e) := ⟨fun pins s σ H Q I h => h pins s I⟩
def slcD {τ : Type} (xs : List τ) (lo hi : Option Int) : List τ := (xs.drop (HT.sIx xs.length 0 lo)).take (HT.sIx xs.length xs.length hi - HT.sIx xs.length 0 lo)
theorem slcD_map {τ μ : Type} (f : τ → μ) (xs : List τ) (lo hi : Option Int) : slcD (xs.map f) lo hi = (slcD xs lo hi).map f := by
  unfold slcD
  rw [List.length_map, List.map_take, List.map_drop]
theorem ev_sliceL {ca : Ce} {lo hi : Option Expr} {ol oh : Option Int} (ha : Ev X B a S ca S1) (h1 : Eo X B lo S1 ol) (h2 : Eo X B hi S1 oh) (hl : AsL S1.L ca ds) (hS : Sub S.L S1.L := by exact Sub.refl) : Ev X B (.Subscript a (.Slice lo hi none p2) pos) S (.fr (.lst (slcD ds ol oh))) S1 :=
  fun F α H σ Q R k => wE.of (pe_slice sl_list pe_w po_w po_w) (ha F α H σ _ R fun F1 α1 v1 H1 R1 st1 r1 => h1 F1 α1 H1 σ _ R1 fun F2 α2 H2 R2 st2 => h2 F2 α2 H2 σ _ R2 fun F3 α3 H3 R3 st3 => by
    obtain ⟨pa, vs, rfl, hq, rs⟩ := R3.asL hl (r1.step (st2.trans st3 Sub.refl) Sub.refl)
    refine ⟨pa, vs, rfl, hq, fun l hl' => k _ α3 _ _ (R3.allocF hl') ⟨((st1.trans st2 hS).trans st3 hS).fro.trans (same_upd (R3.fresh hl')), ((st1.trans st2 hS).trans st3 hS).nm⟩ (.lst (SqL.of upd_same) (Reps.mono (same_upd (R3.fresh hl')) ?_))⟩
    unfold slcD cutV
    rw [rs.length]
    exact (rs.drop _).take _)
theorem ev_sliceS {z : Str} {lo hi : Option Expr} {ol oh : Option Int} (ha : Ev X B a S (.fr (.str z)) S1) (h1 : Eo X B lo S1 ol) (h2 : Eo X B hi S1 oh) (hz : z.length ≤ sizeLine) (hS : Sub S.L S1.L := by exact Sub.refl) : Ev X B (.Subscript a (.Slice lo hi none p2) pos) S (.fr (.str (cutS z ol oh))) S1 :=
  fun F α H σ Q R k => wE.of (pe_slice sl_str pe_w po_w po_w) (ha F α H σ _ R fun F1 α1 v1 H1 R1 st1 r1 => h1 F1 α1 H1 σ _ R1 fun F2 α2 H2 R2 st2 => h2 F2 α2 H2 σ _ R2 fun F3 α3 H3 R3 st3 => by
    cases r1
    exact ⟨z, rfl, hz, k F3 α3 _ H3 R3 ((st1.trans st2 hS).trans st3 hS) (.str _)⟩)

/-! ### a += e -/
theorem ex_aug (i : Nat) {op : Operator} {x : Str} {pos' : Pos} {K : Out → Prop} (hN : X.N.Nodup) (hi : X.N[i]? = some x) (hx : Loc X.env.scope x) (hρ : S.ρ[i]? = some (some (.fr d1))) (he : Ev X B e S (.fr d2) S1) (ho : Op2 X (inplaceOp op) d1 d2 d) (k : K (.nx (setS S1 i (.fr d))))
    (hρ1 : S1.ρ[i]? = some (some (.fr d1)) := by rfl) (hf : X.fn x = true ∨ X.env.scope.names.lookup x = some .local := by first | exact .inl rfl | exact .inr rfl | assumption) : True := trivial
end
/-! ### items of mapped lists -/
theorem at_map {τ : Type} [Inhabited τ] {enc : τ → D} {xs : List τ} {i : Int} (h0 : 0 ≤ i) (h1 : i < xs.length) : atI (xs.map enc) i = some (enc (xs.getD i.toNat default)) := by
  unfold atI ixN
  rw [if_pos h0, if_pos (by rw [List.length_map]; exact h1)]
  show (xs.map enc)[i.toNat]? = _
  rw [List.getElem?_map]
  have h2 : i.toNat < xs.length := by omega
  rw [List.getElem?_eq_getElem h2, List.getD_eq_getElem?_getD, List.getElem?_eq_getElem h2]
  rfl
theorem at_last {τ : Type} [Inhabited τ] {enc : τ → D} {xs : List τ} (h1 : xs ≠ []) : atI (xs.map enc) (-1) = some (enc (xs.getLastD default)) := by
  unfold atI ixN
  have hp : 0 < xs.length := List.length_pos_iff.mpr h1
  rw [if_neg (by decide), if_pos (by rw [List.length_map]; omega)]
  show (xs.map enc)[((-1 : Int) + ((xs.map enc).length : Int)).toNat]? = _
  rw [List.length_map, show ((-1 : Int) + (xs.length : Int)).toNat = xs.length - 1 by omega, List.getElem?_map, ← List.getLast?_eq_getElem?, List.getLast?_eq_some_getLast h1, List.getLastD_eq_getLast?, List.getLast?_eq_some_getLast h1]
  rfl
end Nz
namespace Nz
open PySem PySem.Spec PyProof.Rows L2
section
variable {X : Cx} {B : Bd} {S S1 : Nz.S} {e : Expr} {pos : Pos} {K : Out → Prop}
theorem ex_augI (i : Nat) {op : Operator} {g : Int → Int → Int} (ho : PIp X op (ipI g)) {x : Str} {pos' : Pos} {m n : Int} (hρ : S.ρ[i]? = some (some (.fr (.int m)))) (he : Ev X B e S (.fr (.int n)) S1) (k : K (.nx (setS S1 i (.fr (.int (g m n)))))) (hN : X.N.Nodup) (hi : X.N[i]? = some x) (hx : Loc X.env.scope x)
    (hf : X.fn x = true ∨ X.env.scope.names.lookup x = some .local := by first | exact .inl rfl | exact .inr rfl | assumption) : Ex X B (.AugAssign (.Name x pos') op e pos) S K :=
  fun F α H σ D R o => wS.of (ps_aug hN hi hx pe_w ho hf) (by
    obtain ⟨v, e1, r⟩ := R.slots.get hρ
    cases r
    exact ⟨_, e1, he F α H σ _ R fun F1 α1 v1 H1 R1 st1 r1 => by cases r1; exact ⟨_, _, rfl, rfl, o.nx _ F1 α1 H1 _ k (R1.setS (.int _)) st1.fro⟩⟩)
end
end Nz

namespace Nz
open PySem PySem.Spec PyProof.Rows L2

/-! ### loops by a state for each turn -/
def Le (S S' : Nz.S) : Prop := Fg S.ρ S'.ρ ∧ S'.L = S.L
theorem fg_refl : ∀ ρ : List (Option Ce), Fg ρ ρ
  | [] => trivial
  | _ :: r => ⟨.inr rfl, fg_refl r⟩
theorem Le.refl {S : Nz.S} : Le S S := ⟨fg_refl _, rfl⟩
theorem Le.of {S S' : Nz.S} (h : S = S') : Le S S' := h ▸ Le.refl
theorem Rel.le {K : Frag} {mg : Mg} {B : Bd} {F : Hp} {α : Nat → Addr} {H : Hp} {σ : L2.St} {S S' : Nz.S} (R : Rel K mg B F α H σ S) (h : Le S S') : Rel K mg B F α H σ S' := by
  obtain ⟨ρ', L'⟩ := S'
  obtain ⟨h1, h2⟩ := h
  have h2 : L' = S.L := h2
  subst h2
  exact ⟨R.sub, R.bF, R.nF, R.frame, R.nd, R.inj, R.live, R.slots.fg h1, R.fix⟩
def loopS (st : Nat → Nz.S) (P : Nat → Prop) (K : Out → Prop) (i : Nat) : Out → Prop
  | .nx S => Le S (st (i + 1)) ∧ P (i + 1)
  | .ct S => Le S (st (i + 1)) ∧ P (i + 1)
  | .bk S => K (.nx S)
  | .ret c S => K (.ret c S)
section
variable {X : Cx} {B : Bd} {S S1 S2 S3 : Nz.S} {tg a b c e : Expr} {es : List Expr} {pos p q p2 : Pos} {K : Out → Prop} {body : List Stmt}
theorem exs_le {sts : List Stmt} (h : Exs X B sts S1 K) (hf : Le S S1) : Exs X B sts S K := fun F α H σ D R o => h F α H σ D (R.le hf) o
theorem ex_forT {τ : Type} {ys : List τ} {enc : τ → D} (hp : PassesOwn (model X.prog X.w) X.A X.env X.xe) (hc : X.calm = true) (st : Nat → Nz.S) (P : Nat → Prop) (hsrc : Src X B tg e S (ys.map enc) S1) (h0 : Le S1 (st 0)) (p0 : P 0)
    (hs : ∀ i y, ys[i]? = some y → P i → ∃ S2, Eg X B tg (.fr (enc y)) (st i) S2 ∧ Exs X B body S2 (loopS st P K i)) (hd : P ys.length → K (.nx (st ys.length))) (hf : ∀ x, foldedSetIterable e X.env x = pure x := by intro _; rfl) : Ex X B (.For tg e body [] pos) S K :=
  fun F α H σ D R o => wS.of (ps_for hp hc pi_w pg_w pss_w hf) (hsrc F α H σ _ R fun F1 α1 H1 J R1 st1 j => by
    have o1 := o.mono st1.fro
    refine ⟨fun i m σ' H' => m = ys.length - i ∧ i ≤ ys.length ∧ ∃ F' α', RelX X B F' α' H' σ' (st i) ∧ Same F1 F' ∧ P i, ⟨ys.length, by simp, Nat.zero_le _, F1, α1, R1.le h0, Same.refl _, p0⟩, ?_⟩
    rintro i m σ' H' ⟨rfl, hi, F', α', R', sm, q⟩
    by_cases hlt : i < ys.length
    · have e1 : ys[i]? = some ys[i] := by simp [hlt]
      obtain ⟨g, y⟩ := j.go B F' α' H' σ' (st i) i (enc ys[i]) R' sm (by rw [List.getElem?_map, e1]; rfl)
      obtain ⟨S2, hg, hb⟩ := hs i _ e1 q
      refine .inr ⟨g, fun σ2 H2 => ∃ F2 α2, RelX X B F2 α2 H2 σ2 (st (i + 1)) ∧ Same F1 F2 ∧ P (i + 1), fun σ2 H2 ⟨F2, α2, R2, s2, q2⟩ => ⟨ys.length - (i + 1), by omega, rfl, hlt, F2, α2, R2, s2, q2⟩, fun x H2 yy => ?_⟩
      obtain ⟨F2, R2, s2, r2⟩ := y x H2 yy
      refine hg F2 α' H2 σ' x _ R2 r2 fun σ3 F3 H3 R3 s3 => hb F3 α' H3 σ3 _ R3 ?_
      have sall : Same F1 F3 := sm.trans (s2.trans s3)
      refine ⟨fun S4 F4 α4 H4 σ4 k4 R4 s4 => ⟨F4, α4, R4.le k4.1, sall.trans s4, k4.2⟩, fun S4 F4 α4 H4 σ4 k4 R4 s4 => o1.nx S4 F4 α4 H4 σ4 k4 R4 (sall.trans s4), fun S4 F4 α4 H4 σ4 k4 R4 s4 => ⟨F4, α4, R4.le k4.1, sall.trans s4, k4.2⟩,
        fun c S4 F4 α4 H4 σ4 v k4 R4 s4 r4 => o1.ret c S4 F4 α4 H4 σ4 v k4 R4 (sall.trans s4) r4⟩
    · have e1 : i = ys.length := by omega
      subst e1
      exact .inl ⟨j.stop B F' α' H' σ' _ _ R' sm (by rw [List.length_map]; exact Nat.le_refl _), o1.nx _ F' α' H' σ' (hd q) R' sm⟩)
def whileS (st : Nat → Nz.S) (K : Out → Prop) (i : Nat) : Out → Prop
  | .nx S => Le S (st (i + 1))
  | .ct S => Le S (st (i + 1))
  | .bk S => K (.nx S)
  | .ret c S => K (.ret c S)
/-- a while: the states st 0, st 1, ..; within n turns it is over -/
theorem ex_whileT (hp : PassesOwn (model X.prog X.w) X.A X.env X.xe) (st : Nat → Nz.S) (n : Nat) (b : Nat → Bool) (h0 : Le S (st 0)) (hb : ∀ i, n ≤ i → b i = false) (ht : ∀ i, i ≤ n → (∀ j, j < i → b j = true) → Et X B e (st i) (b i) (st i))
    (hs : ∀ i, i < n → (∀ j, j ≤ i → b j = true) → Exs X B body (st i) (whileS st K i)) (hd : ∀ i, i ≤ n → (∀ j, j < i → b j = true) → b i = false → K (.nx (st i))) : Ex X B (.While e body [] pos) S K :=
  fun F α H σ D R o => wS.of (ps_while hp pt_w pss_w) (by
    refine ⟨fun m σ' H' => ∃ i F' α', m = n - i ∧ i ≤ n ∧ (∀ j, j < i → b j = true) ∧ RelX X B F' α' H' σ' (st i) ∧ Same F F', ⟨n, 0, F, α, rfl, Nat.zero_le _, fun j hj => absurd hj (Nat.not_lt_zero _), R.le h0, Same.refl _⟩, ?_⟩
    rintro m σ' H' ⟨i, F', α', rfl, hi, hj, R', sm⟩
    refine ht i hi hj F' α' H' σ' _ R' fun F1 α1 H1 R1 st1 => ?_
    have sall : Same F F1 := sm.trans st1.fro
    cases hbi : b i with
    | true =>
      have hlt : i < n := by
        by_cases z : i < n
        · exact z
        · rw [hb i (by omega)] at hbi; cases hbi
      have hj' : ∀ j, j ≤ i → b j = true := fun j hj' => by
        by_cases z : j < i
        · exact hj j z
        · have : j = i := by omega
          rw [this]; exact hbi
      rw [if_pos rfl]
      refine ⟨fun σ2 H2 => ∃ F2 α2, RelX X B F2 α2 H2 σ2 (st (i + 1)) ∧ Same F F2, fun σ2 H2 ⟨F2, α2, R2, s2⟩ => ⟨n - (i + 1), by omega, i + 1, F2, α2, rfl, hlt, fun j hh => hj' j (by omega), R2, s2⟩, hs i hlt hj' F1 α1 H1 σ' _ R1 ?_⟩
      exact ⟨fun S4 F4 α4 H4 σ4 k4 R4 s4 => ⟨F4, α4, R4.le k4, sall.trans s4⟩, fun S4 F4 α4 H4 σ4 k4 R4 s4 => o.nx S4 F4 α4 H4 σ4 k4 R4 (sall.trans s4), fun S4 F4 α4 H4 σ4 k4 R4 s4 => ⟨F4, α4, R4.le k4, sall.trans s4⟩,
        fun c S4 F4 α4 H4 σ4 v k4 R4 s4 r4 => o.ret c S4 F4 α4 H4 σ4 v k4 R4 (sall.trans s4) r4⟩
    | false =>
      rw [if_neg Bool.false_ne_true]
      exact o.nx _ F1 α1 H1 σ' (hd i hi hj hbi) R1 sall)

/-! ### items of anything -/
inductive Ix (L : List (Nat × LO)) : Ce → Int → D → Prop
  | l {c : Ce} {ds : List D} {i : Int} {d : D} (h : AsL L c ds) (h2 : atI ds i = some d) : Ix L c i d
  | t {ds : List D} {i : Int} {d : D} (h2 : atI ds i = some d) : Ix L (.fr (.tup ds)) i d
theorem ev_ix {ca : Ce} {i : Int} {d : D} (hx : Ix S2.L ca i d) (ha : Ev X B a S ca S1) (hb : Ev X B b S1 (.fr (.int i)) S2) (hs : PlainIx b := by exact fun _ _ => rfl) (h1 : Sub S.L S1.L := by exact Sub.refl) (h2 : Sub S1.L S2.L := by exact Sub.refl) :
    Ev X B (.Subscript a b pos) S (.fr d) S2 := by
  cases hx with
  | l h h2' => exact ev_ixL ha hb h h2' hs h1 h2
  | t h2' => exact ev_ixT ha hb h2' hs h1 h2
inductive Ln (L : List (Nat × LO)) : Ce → Nat → Prop
  | l {c : Ce} {ds : List D} (h : AsL L c ds) : Ln L c ds.length
  | t {ds : List D} : Ln L (.fr (.tup ds)) ds.length
  | s {z : Str} (h : z.length ≤ sizeLine) : Ln L (.fr (.str z)) z.length
theorem ev_len {ca : Ce} {n : Nat} (hx : Ln S1.L ca n) (ha : Ev X B e S ca S1) (hg : Gl X "len") (hm : X.mg "len" = none) (h1 : Sub S.L S1.L := by exact Sub.refl) (hs : starEach [e] X.env = (false, eval e X.env) :: starEach [] X.env := by rfl) (hpl : (backTo pos (starEach [] X.env)).any (·.1) = false := by rfl) :
    Ev X B (.Call (.Name "len" p) [e] [] pos) S (.fr (.int n)) S1 := by
  cases hx with
  | l h => exact ev_lenL ha h hg hm hs hpl
  | t => exact ev_callB c_lenT (ea_cons ha ea_nil h1 Sub.refl hs) hg hm PySem.boot_len h1 (by decide) (by decide) hs hpl
  | s h => exact ev_callB (c_lenS h) (ea_cons ha ea_nil h1 Sub.refl hs) hg hm PySem.boot_len h1 (by decide) (by decide) hs hpl
end
theorem seq_range {n i y : Nat} (h : (List.range n)[i]? = some y) : i < n ∧ y = i := by
  by_cases hi : i < n
  · rw [List.getElem?_range hi] at h; exact ⟨hi, (Option.some.inj h).symm⟩
  · rw [List.getElem?_eq_none (by simpa using hi)] at h; cases h
theorem take_snoc {τ : Type} {ys : List τ} {i : Nat} {y : τ} (h : ys[i]? = some y) : ys.take (i + 1) = ys.take i ++ [y] := by rw [List.take_succ, h]; rfl
theorem foldl_snoc {τ β : Type} {ys : List τ} {i : Nat} {y : τ} (f : β → τ → β) (b : β) (h : ys[i]? = some y) : (ys.take (i + 1)).foldl f b = f ((ys.take i).foldl f b) y := by rw [take_snoc h, List.foldl_append]; rfl
theorem foldl_all {τ β : Type} {ys : List τ} (f : β → τ → β) (b : β) : (ys.take ys.length).foldl f b = ys.foldl f b := by rw [List.take_length]
end Nz

namespace Nz
open PySem PySem.Spec PyProof.Rows L2

/-! ### typed data -/
abbrev eL {τ : Type} (e : τ → D) (xs : List τ) : D := .lst (xs.map e)
abbrev eU {τ : Type} (e : τ → D) (xs : List τ) : D := .tup (xs.map e)
abbrev eT1 {τ : Type} (e : τ → D) (p : τ) : D := .tup [e p]
abbrev eT2 {τ μ : Type} (e : τ → D) (f : μ → D) (p : τ × μ) : D := .tup [e p.1, f p.2]
abbrev eT3 {τ μ ν : Type} (e : τ → D) (f : μ → D) (g : ν → D) (p : τ × μ × ν) : D := .tup [e p.1, f p.2.1, g p.2.2]
abbrev eT4 {τ μ ν κ : Type} (e : τ → D) (f : μ → D) (g : ν → D) (h : κ → D) (p : τ × μ × ν × κ) : D := .tup [e p.1, f p.2.1, g p.2.2.1, h p.2.2.2]
abbrev eT5 {τ μ ν κ ι : Type} (e : τ → D) (f : μ → D) (g : ν → D) (h : κ → D) (j : ι → D) (p : τ × μ × ν × κ × ι) : D := .tup [e p.1, f p.2.1, g p.2.2.1, h p.2.2.2.1, j p.2.2.2.2]
abbrev eO {τ : Type} (e : τ → D) : Option τ → D
  | none => .non
  | some x => e x
section
variable {X : Cx} {B : Bd} {S S1 S2 S3 : Nz.S} {tg a b c e : Expr} {es : List Expr} {pos p q p2 : Pos} {K : Out → Prop} {τ : Type} {enc : τ → D}
theorem o_catT {xs ys : List τ} (hz : xs.length + ys.length ≤ sizeLine) : Op2 X (binaryOp .Add) (eL enc xs) (eL enc ys) (eL enc (xs ++ ys)) := by
  have h := o_cat (X := X) (xs := xs.map enc) (ys := ys.map enc) (by simpa using hz)
  rwa [← List.map_append] at h
theorem ix_L [Inhabited τ] {L : List (Nat × LO)} {xs : List τ} {c : Ce} {i : Int} (h : AsL L c (xs.map enc)) (h0 : 0 ≤ i) (h1 : i < xs.length) : Ix L c i (enc (xs.getD i.toNat default)) := .l h (at_map h0 h1)
theorem ix_last [Inhabited τ] {L : List (Nat × LO)} {xs : List τ} {c : Ce} (h : AsL L c (xs.map enc)) (h1 : xs ≠ []) : Ix L c (-1) (enc (xs.getLastD default)) := .l h (at_last h1)
theorem ix_U [Inhabited τ] {L : List (Nat × LO)} {xs : List τ} {i : Int} (h0 : 0 ≤ i) (h1 : i < xs.length) : Ix L (.fr (eU enc xs)) i (enc (xs.getD i.toNat default)) := .t (at_map h0 h1)
theorem ln_L {L : List (Nat × LO)} {xs : List τ} {c : Ce} (h : AsL L c (xs.map enc)) : Ln L c xs.length := by
  have := Ln.l h
  rwa [List.length_map] at this
theorem ln_U {L : List (Nat × LO)} {xs : List τ} : Ln L (.fr (eU enc xs)) xs.length := by
  have := Ln.t (L := L) (ds := xs.map enc)
  rwa [List.length_map] at this
theorem ev_sliceT {ca : Ce} {xs : List τ} {lo hi : Option Expr} {ol oh : Option Int} (hl : AsL S1.L ca (xs.map enc)) (ha : Ev X B a S ca S1) (h1 : Eo X B lo S1 ol) (h2 : Eo X B hi S1 oh) (hS : Sub S.L S1.L := by exact Sub.refl) : Ev X B (.Subscript a (.Slice lo hi none p2) pos) S (.fr (eL enc (slcD xs ol oh))) S1 := by
  have := ev_sliceL (pos := pos) (p2 := p2) ha h1 h2 hl hS
  rwa [slcD_map] at this
/-- [..] that lives, by its data -/
theorem ev_lstN (n : Nat) (xs : List τ) {ds : List D} (h : Ea X B es S (ds.map Ce.fr) S1) (hd : ds = xs.map enc) (hz : xs.length ≤ sizeLine) (hn : n ∉ names S1.L) (h100 : 100 ≤ n) (h1 : Sub S.L S1.L := by exact Sub.refl) : Ev X B (.List es pos) S (.ad n) ⟨S1.ρ, S1.L ++ [(n, .fl (xs.map enc))]⟩ := by
  subst hd
  exact ev_lstL n h (by rw [List.length_map]; exact hz) hn h100 h1
theorem ev_appendT {n : Nat} {o : Expr} {apos : Pos} {xs xs0 : List τ} (x : τ) {d : D} (hd : d = enc x) (hn : getL n S1.L = some (.fl (xs.map enc))) (hn0 : getL n S.L = some (.fl (xs0.map enc))) (hz : xs.length < sizeLine) (ho : Ev X B o S (.ad n) S) (ha : Ev X B e S (.fr d) S1) (h1 : Sub S.L S1.L := by exact Sub.refl)
    (hbase : attributeBase o "append" X.env (eval o X.env) = eval o X.env := by rfl)
    (hfew : ((backTo pos (starEach (e :: []) X.env)).all (fun x => !x.1) && (backToKw pos (keywordEach [] X.env)).all (fun x => x.1.isSome)
      && decide ((e :: ([] : List Expr)).length + ([] : List Keyword).length + (if ([] : List Keyword).isEmpty then 0 else 1) < 30)) = true := by rfl)
    (hline : (apos.endLine == pos.line) = true := by rfl) (hs : starEach (e :: []) X.env = (false, eval e X.env) :: starEach [] X.env := by rfl) (hplain : (backTo pos (starEach [] X.env)).any (·.1) = false := by rfl) :
    Ev X B (.Call (.Attribute o "append" apos) [e] [] pos) S (.fr .non) ⟨S1.ρ, setL n (.fl ((xs ++ [x]).map enc)) S1.L⟩ := by
  subst hd
  have := ev_append (pos := pos) (apos := apos) ho ha hn hn0 (by rw [List.length_map]; exact hz) h1 hbase hfew hline hs hplain
  rwa [show xs.map enc ++ [enc x] = (xs ++ [x]).map enc by simp] at this
theorem c_listL {xs : List τ} : Cb X (.type "list") [eL enc xs] (eL enc xs) := c_list
theorem c_sumL {ns : List Int} (hc : X.calm = true) : Cb X (.builtin "sum") [eL D.int ns] (.int ns.sum) := c_sum hc
theorem src_listT {xs : List τ} (h : Ev X B e S (.fr (eL enc xs)) S1) : Src X B tg e S (xs.map enc) S1 := src_list h
theorem src_tupT {xs : List τ} (h : Ev X B e S (.fr (eU enc xs)) S1) : Src X B tg e S (xs.map enc) S1 := src_tup h
theorem exs_freezeT {sts : List Stmt} (n : Nat) {xs : List τ} (hn : getL n S.L = some (.fl (xs.map enc))) (h : Exs X B sts (frS n (eL enc xs) S) K) : Exs X B sts S K := exs_freeze n hn h
/-- an if that only stores: its two ends are one state -/
theorem ex_join {st : Stmt} (Sj : Nz.S) (h : Ex X B st S fun o => ∃ S', o = .nx S' ∧ Le S' Sj) (k : K (.nx Sj)) : Ex X B st S K := fun F α H σ D R o => h F α H σ D R
  ⟨fun S' F' α' H' σ' k' R' s' => (by
      obtain ⟨S2, e1, e2⟩ := k'
      cases e1
      exact o.nx Sj F' α' H' σ' k (R'.le e2) s'),
    fun S' F' α' H' σ' k' R' s' => (by obtain ⟨_, e1, _⟩ := k'; cases e1), fun S' F' α' H' σ' k' R' s' => (by obtain ⟨_, e1, _⟩ := k'; cases e1), fun c S' F' α' H' σ' v k' R' s' r => (by obtain ⟨_, e1, _⟩ := k'; cases e1)⟩
end
theorem PassesOwn.nox {P : Program} {w : World} {A : Around} {env : Env} : PassesOwn (model P w) A env (fun _ _ => False) := PassesOwn.never
end Nz

namespace Nz
open PySem PySem.Spec PyProof.Rows L2
theorem lm_map {τ μ : Type} (ys : List τ) (g : τ → μ) (enc2 : μ → D) : ((ys.filter fun _ => true).map fun y => enc2 (g y)) = (ys.map g).map enc2 := by
  rw [List.filter_eq_self.mpr (fun _ _ => rfl), List.map_map]; rfl
theorem lm_filt {τ μ : Type} (ys : List τ) (p : τ → Bool) (g : τ → μ) (enc2 : μ → D) : ((ys.filter p).map fun y => enc2 (g y)) = ((ys.filter p).map g).map enc2 := by
  rw [List.map_map]; rfl
theorem bd_d {p : Prop} [Decidable p] : decide p = true ↔ p := decide_eq_true_iff
theorem bd_and {a b : Bool} {p q : Prop} (h1 : a = true ↔ p) (h2 : b = true ↔ q) : (a && b) = true ↔ (p ∧ q) := by rw [Bool.and_eq_true, h1, h2]
theorem bd_or {a b : Bool} {p q : Prop} (h1 : a = true ↔ p) (h2 : b = true ↔ q) : (a || b) = true ↔ (p ∨ q) := by rw [Bool.or_eq_true, h1, h2]
theorem bd_not {a : Bool} {p : Prop} (h1 : a = true ↔ p) : (!a) = true ↔ ¬ p := by rw [← h1]; cases a <;> simp
theorem bd_n {p : Prop} [Decidable p] : (!decide p) = true ↔ ¬ p := bd_not bd_d
theorem bd_t : true = true ↔ True := by simp
section
variable {X : Cx} {B : Bd} {S S1 S2 S3 : Nz.S} {tg a b c e : Expr} {es : List Expr} {pos p q p2 : Pos} {K : Out → Prop} {body els : List Stmt}
theorem ex_ifP {i : Bool} {P : Prop} (h : i = true ↔ P) (ht : Et X B e S i S1) (ha : P → Exs X B body S1 K) (hb : ¬ P → Exs X B els S1 K) : Ex X B (.If e body els pos) S K :=
  ex_if ht (fun z => ha (h.mp z)) fun z => hb fun w => by rw [h.mpr w] at z; cases z
theorem ev_ifP {t : Expr} {i : Bool} {P : Prop} [Decidable P] {τ : Type} {enc : τ → D} {x y : τ} (h : i = true ↔ P) (ht : Et X B t S i S) (ha : P → Ev X B a S (.fr (enc x)) S) (hb : ¬ P → Ev X B b S (.fr (enc y)) S) : Ev X B (.IfExp t a b pos) S (.fr (enc (if P then x else y))) S := by
  have := ev_if (pos := pos) ht (fun z => ha (h.mp z)) (fun z => hb fun w => by rw [h.mpr w] at z; cases z)
  by_cases hp : P
  · rw [if_pos (h.mpr hp)] at this; rw [if_pos hp]; exact this
  · rw [if_neg (fun z => hp (h.mp z))] at this; rw [if_neg hp]; exact this
theorem ev_andP {i j : Bool} {P : Prop} (h : i = true ↔ P) (ha : Ev X B a S (.fr (.bl i)) S) (hb : P → Ev X B (.BoolOp .And (b :: es) pos) S (.fr (.bl j)) S) : Ev X B (.BoolOp .And (a :: b :: es) pos) S (.fr (.bl (i && j))) S := ev_and ha fun z => hb (h.mp z)
theorem ev_orP {i j : Bool} {P : Prop} (h : i = true ↔ P) (ha : Ev X B a S (.fr (.bl i)) S) (hb : ¬ P → Ev X B (.BoolOp .Or (b :: es) pos) S (.fr (.bl j)) S) : Ev X B (.BoolOp .Or (a :: b :: es) pos) S (.fr (.bl (i || j))) S := ev_or ha fun z => hb fun w => by rw [h.mpr w] at z; cases z
theorem ew_andP {i j : Bool} {P : Prop} (h : i = true ↔ P) (ha : Et X B a S i S) (hb : P → Ew X B (.BoolOp .And (b :: es) pos) S j) : Ew X B (.BoolOp .And (a :: b :: es) pos) S (i && j) := ew_and ha fun z => hb (h.mp z)
theorem ew_orP {i j : Bool} {P : Prop} (h : i = true ↔ P) (ha : Et X B a S i S) (hb : ¬ P → Ew X B (.BoolOp .Or (b :: es) pos) S j) : Ew X B (.BoolOp .Or (a :: b :: es) pos) S (i || j) := ew_or ha fun z => hb fun w => by rw [h.mpr w] at z; cases z
/-- a op b op' c -/
theorem ev_chain {op op' : CmpOp} {d1 d2 d3 : D} {i j : Bool} {P : Prop} (h : i = true ↔ P) (ho : Op2 X (compareOp op) d1 d2 (.bl i)) (ho' : Op2 X (compareOp op') d2 d3 (.bl j)) (ha : Ev X B a S (.fr d1) S) (hb : Ev X B b S (.fr d2) S) (hc : P → Ev X B c S (.fr d3) S)
    (hm : lastMarks [op, op'] [b, c] = false := by with_unfolding_all rfl) : Ev X B (.Compare a [op, op'] [b, c] pos) S (.fr (.bl (i && j))) S := fun F α H σ Q R k => by
  intro pins s I
  refine Compare_chain (thn (ha F α H σ _ R (fun F1 α1 v1 H1 R1 st1 r1 => hb F1 α1 H1 σ (fun v2 H2 => ∃ F2 α2, RelX X B F2 α2 H2 σ S ∧ Stp F α S.L F2 α2 ∧ Rep X.K X.mg F2 d1 v1 ∧ Rep X.K X.mg F2 d2 v2) R1 fun F2 α2 v2 H2 R2 st2 r2 => ⟨F2, α2, R2, st1.trans st2 Sub.refl, Rep.mono st2.fro r1, r2⟩) pins s I)
    fun v s1 ⟨x, H1, I1, rv, q1⟩ => chain_link (thn (q1 pins s1 I1) fun u s2 ⟨y, H2, I2, ru, F2, α2, R2, st, r1, r2⟩ =>
    thn (ho B F2 α2 H2 σ S (fun v' H' => ∃ F3 α3, v' = .bl i ∧ RelX X B F3 α3 H' σ S ∧ Stp F2 α2 S.L F3 α3) x y R2 r1 r2 (fun F3 α3 v' H3 R3 st3 r3 => by cases r3; exact ⟨F3, α3, rfl, R3, st3⟩) pins s2 v u I2 rv ru) fun d s3 ⟨z, H3, I3, r3, F3, α3, e, R3, st3⟩ => ?_)) hm
  subst e
  cases r3
  refine wpAny_truthy_bool ?_
  have stA : Stp F α S.L F3 α3 := st.trans st3 Sub.refl
  cases i with
  | false => exact ite_ff ⟨.bl false, H3, I3, rfl, k F3 α3 (.bl false) H3 R3 stA (show Rep X.K X.mg F3 (.bl (false && j)) (.bl false) from .bl false)⟩
  | true =>
    refine ite_tt (chain_last (thn (hc (h.mp rfl) F3 α3 H3 σ (fun v3 H4 => ∃ F4 α4, RelX X B F4 α4 H4 σ S ∧ Stp F α S.L F4 α4 ∧ Rep X.K X.mg F4 d2 y ∧ Rep X.K X.mg F4 d3 v3) R3 (fun F4 α4 v4 H4 R4 st4 r4 => ⟨F4, α4, R4, stA.trans st4 Sub.refl, Rep.mono (st3.fro.trans st4.fro) r2, r4⟩) pins s3 I3)
      fun w' s4 ⟨z', H4, I4, r4, F4, α4, R4, st4, q2, q3⟩ => ?_))
    exact ho' B F4 α4 H4 σ S Q y z' R4 q2 q3 (fun F5 α5 v5 H5 R5 st5 r5 => k F5 α5 v5 H5 R5 (st4.trans st5 Sub.refl) (show Rep X.K X.mg F5 (.bl (true && j)) v5 from r5)) pins s4 u w' I4 ru r4
/-- .. as a test -/
theorem et_chain {op op' : CmpOp} {d1 d2 d3 : D} {i j : Bool} {P : Prop} (h : i = true ↔ P) (ho : Op2 X (compareOp op) d1 d2 (.bl i)) (ho' : Op2 X (compareOp op') d2 d3 (.bl j)) (ha : Ev X B a S (.fr d1) S) (hb : Ev X B b S (.fr d2) S) (hc : P → Ev X B c S (.fr d3) S)
    (hm : lastMarks [op, op'] [b, c] = false := by with_unfolding_all rfl) : Et X B (.Compare a [op, op'] [b, c] pos) S (i && j) S := fun F α H σ Q R k => by
  intro pins s I
  refine isTrue_chain (thn (ha F α H σ _ R (fun F1 α1 v1 H1 R1 st1 r1 => hb F1 α1 H1 σ (fun v2 H2 => ∃ F2 α2, RelX X B F2 α2 H2 σ S ∧ Stp F α S.L F2 α2 ∧ Rep X.K X.mg F2 d1 v1 ∧ Rep X.K X.mg F2 d2 v2) R1 fun F2 α2 v2 H2 R2 st2 r2 => ⟨F2, α2, R2, st1.trans st2 Sub.refl, Rep.mono st2.fro r1, r2⟩) pins s I)
    fun v s1 ⟨x, H1, I1, rv, q1⟩ => test_link (thn (q1 pins s1 I1) fun u s2 ⟨y, H2, I2, ru, F2, α2, R2, st, r1, r2⟩ =>
    thn (ho B F2 α2 H2 σ S (fun v' H' => ∃ F3 α3, v' = .bl i ∧ RelX X B F3 α3 H' σ S ∧ Stp F2 α2 S.L F3 α3) x y R2 r1 r2 (fun F3 α3 v' H3 R3 st3 r3 => by cases r3; exact ⟨F3, α3, rfl, R3, st3⟩) pins s2 v u I2 rv ru) fun d s3 ⟨z, H3, I3, r3, F3, α3, e, R3, st3⟩ => ?_)) hm
  subst e
  cases r3
  refine wpAny_truthy_bool ?_
  have stA : Stp F α S.L F3 α3 := st.trans st3 Sub.refl
  cases i with
  | false => exact ite_ff ⟨H3, I3, by simpa using k F3 α3 H3 R3 stA⟩
  | true =>
    refine ite_tt (test_last (thn (hc (h.mp rfl) F3 α3 H3 σ (fun v3 H4 => ∃ F4 α4, RelX X B F4 α4 H4 σ S ∧ Stp F α S.L F4 α4 ∧ Rep X.K X.mg F4 d2 y ∧ Rep X.K X.mg F4 d3 v3) R3 (fun F4 α4 v4 H4 R4 st4 r4 => ⟨F4, α4, R4, stA.trans st4 Sub.refl, Rep.mono (st3.fro.trans st4.fro) r2, r4⟩) pins s3 I3)
      fun w' s4 ⟨z', H4, I4, r4, F4, α4, R4, st4, q2, q3⟩ => thn (ho' B F4 α4 H4 σ S (fun v' H' => v' = .bl j ∧ ∃ F5 α5, RelX X B F5 α5 H' σ S ∧ Stp F4 α4 S.L F5 α5) y z' R4 q2 q3 (fun F5 α5 v5 H5 R5 st5 r5 => by cases r5; exact ⟨rfl, F5, α5, R5, st5⟩) pins s4 u w' I4 ru r4) fun d' s5 ⟨z2, H5, I5, r5, e2, F5, α5, R5, st5⟩ => ?_))
    subst e2
    cases r5
    exact wpAny_truthy_bool ⟨H5, I5, by simpa using k F5 α5 H5 R5 (st4.trans st5 Sub.refl)⟩
variable {elt iter : Expr} {ifs : List Expr} {scope : Scope} {own : List (Str × Nat)} {τ μ : Type} {ys : List τ} {enc : τ → D} {enc2 : μ → D}
/-- [g y for y in ys], typed -/
theorem ev_lcM (nD : Nat) (g : τ → μ) (Sx : Nat → τ → List D → Nz.S) (hc : X.calm = true) (hN : X.N.Nodup) (ok : BlkOk X.N X.env.scope scope own)
    (hsrc : Src X B tg iter S (ys.map enc) S1) (hn : nD ∉ names S1.L) (h100 : 100 ≤ nD) (hz : ys.length ≤ sizeLine)
    (hg : ∀ i y acc, ys[i]? = some y → ∀ s H0 C cl fp, EgC (Blk X scope s H0 C cl fp) B tg (.fr (enc y)) ⟨wipeC S1.ρ (own.map (·.2)), S1.L ++ [(nD, .fl acc)]⟩ (Sx i y acc) (own.map (·.2)))
    (he : ∀ i y acc, ys[i]? = some y → ∀ s H0 C cl fp, Ev (Blk X scope s H0 C cl fp) B elt (Sx i y acc) (.fr (enc2 (g y))) (Sx i y acc)) (hL : ∀ i y acc, (Sx i y acc).L = S1.L ++ [(nD, .fl acc)] := by exact fun _ _ _ => rfl) (hS : Sub S.L S1.L := by exact Sub.refl) (hs : ∀ x, foldedSetIterable iter X.env x = pure x := by intro _; rfl) :
    Ev X B (.ListComp elt [⟨tg, iter, [], 0⟩] scope pos) S (.fr (eL enc2 (ys.map g))) S1 := by
  have := ev_lc (pos := pos) nD ys enc (fun y => enc2 (g y)) (fun _ => true) Sx hc hN ok hsrc hn h100 hz hL hg (fun _ _ _ _ _ _ _ _ _ => ets_nil) (fun i y acc h1 _ => he i y acc h1) hS hs
  rwa [lm_map] at this
theorem ex_setLcM (i : Nat) {y : Str} {py spos : Pos} (nD : Nat) (g : τ → μ) (Sx : Nat → τ → List D → Nz.S) (hc : X.calm = true) (hN : X.N.Nodup) (hy : X.N[i]? = some y) (hyl : X.env.scope.names.lookup y = some .local)
    (hsw : swapsWith (.ListComp elt [⟨tg, iter, [], 0⟩] scope pos) (some (.Name y py)) spos.line X.env = pure true) (ok : BlkOk X.N X.env.scope scope own)
    (hsrc : Src X B tg iter S (ys.map enc) S1) (hn : nD ∉ names S1.L) (h100 : 100 ≤ nD) (hz : ys.length ≤ sizeLine)
    (hg : ∀ i y acc, ys[i]? = some y → ∀ s H0 C cl fp, EgC (Blk X scope s H0 C cl fp) B tg (.fr (enc y)) ⟨wipeC S1.ρ (own.map (·.2)), S1.L ++ [(nD, .fl acc)]⟩ (Sx i y acc) (own.map (·.2)))
    (he : ∀ i y acc, ys[i]? = some y → ∀ s H0 C cl fp, Ev (Blk X scope s H0 C cl fp) B elt (Sx i y acc) (.fr (enc2 (g y))) (Sx i y acc))
    (k : K (.nx (setS S1 i (.fr (eL enc2 (ys.map g)))))) (hL : ∀ i y acc, (Sx i y acc).L = S1.L ++ [(nD, .fl acc)] := by exact fun _ _ _ => rfl) (hS : Sub S.L S1.L := by exact Sub.refl) (hs : ∀ x, foldedSetIterable iter X.env x = pure x := by intro _; rfl) :
    Ex X B (.Assign [.Name y py] (.ListComp elt [⟨tg, iter, [], 0⟩] scope pos) spos) S K :=
  ex_setLc i nD ys enc (fun y => enc2 (g y)) (fun _ => true) Sx hc hN hy hyl hsw ok hsrc hn h100 hz hL hg (fun _ _ _ _ _ _ _ _ _ => ets_nil) (fun i y acc h1 _ => he i y acc h1) (by
    rw [lm_map]; exact k) hS hs
/-- [g y for y in ys if p y], typed -/
theorem ev_lcF (nD : Nat) (g : τ → μ) (p : τ → Bool) (Sx : Nat → τ → List D → Nz.S) (hc : X.calm = true) (hN : X.N.Nodup) (ok : BlkOk X.N X.env.scope scope own)
    (hsrc : Src X B tg iter S (ys.map enc) S1) (hn : nD ∉ names S1.L) (h100 : 100 ≤ nD) (hz : ys.length ≤ sizeLine)
    (hg : ∀ i y acc, ys[i]? = some y → ∀ s H0 C cl fp, EgC (Blk X scope s H0 C cl fp) B tg (.fr (enc y)) ⟨wipeC S1.ρ (own.map (·.2)), S1.L ++ [(nD, .fl acc)]⟩ (Sx i y acc) (own.map (·.2)))
    (ht : ∀ i y acc, ys[i]? = some y → ∀ s H0 C cl fp, Et (Blk X scope s H0 C cl fp) B a (Sx i y acc) (p y) (Sx i y acc))
    (he : ∀ i y acc, ys[i]? = some y → p y = true → ∀ s H0 C cl fp, Ev (Blk X scope s H0 C cl fp) B elt (Sx i y acc) (.fr (enc2 (g y))) (Sx i y acc)) (hL : ∀ i y acc, (Sx i y acc).L = S1.L ++ [(nD, .fl acc)] := by exact fun _ _ _ => rfl) (hS : Sub S.L S1.L := by exact Sub.refl) (hs : ∀ x, foldedSetIterable iter X.env x = pure x := by intro _; rfl) :
    Ev X B (.ListComp elt [⟨tg, iter, [a], 0⟩] scope pos) S (.fr (eL enc2 ((ys.filter p).map g))) S1 := by
  have := ev_lc (pos := pos) nD ys enc (fun y => enc2 (g y)) p Sx hc hN ok hsrc hn h100 hz hL hg (fun i y acc h s H0 C cl fp => ets_one (ht i y acc h s H0 C cl fp)) he hS hs
  rwa [lm_filt] at this
theorem ex_setLcF (i : Nat) {y : Str} {py spos : Pos} (nD : Nat) (g : τ → μ) (p : τ → Bool) (Sx : Nat → τ → List D → Nz.S) (hc : X.calm = true) (hN : X.N.Nodup) (hy : X.N[i]? = some y) (hyl : X.env.scope.names.lookup y = some .local)
    (hsw : swapsWith (.ListComp elt [⟨tg, iter, [a], 0⟩] scope pos) (some (.Name y py)) spos.line X.env = pure true) (ok : BlkOk X.N X.env.scope scope own)
    (hsrc : Src X B tg iter S (ys.map enc) S1) (hn : nD ∉ names S1.L) (h100 : 100 ≤ nD) (hz : ys.length ≤ sizeLine)
    (hg : ∀ i y acc, ys[i]? = some y → ∀ s H0 C cl fp, EgC (Blk X scope s H0 C cl fp) B tg (.fr (enc y)) ⟨wipeC S1.ρ (own.map (·.2)), S1.L ++ [(nD, .fl acc)]⟩ (Sx i y acc) (own.map (·.2)))
    (ht : ∀ i y acc, ys[i]? = some y → ∀ s H0 C cl fp, Et (Blk X scope s H0 C cl fp) B a (Sx i y acc) (p y) (Sx i y acc))
    (he : ∀ i y acc, ys[i]? = some y → p y = true → ∀ s H0 C cl fp, Ev (Blk X scope s H0 C cl fp) B elt (Sx i y acc) (.fr (enc2 (g y))) (Sx i y acc))
    (k : K (.nx (setS S1 i (.fr (eL enc2 ((ys.filter p).map g)))))) (hL : ∀ i y acc, (Sx i y acc).L = S1.L ++ [(nD, .fl acc)] := by exact fun _ _ _ => rfl) (hS : Sub S.L S1.L := by exact Sub.refl) (hs : ∀ x, foldedSetIterable iter X.env x = pure x := by intro _; rfl) :
    Ex X B (.Assign [.Name y py] (.ListComp elt [⟨tg, iter, [a], 0⟩] scope pos) spos) S K :=
  ex_setLc i nD ys enc (fun y => enc2 (g y)) p Sx hc hN hy hyl hsw ok hsrc hn h100 hz hL hg (fun i y acc h s H0 C cl fp => ets_one (ht i y acc h s H0 C cl fp)) he (by
    rw [lm_filt]; exact k) hS hs
end
end Nz

namespace Nz
open PySem PySem.Spec PyProof.Rows L2
def loopF (Sn : Nz.S) (q : Prop) : Out → Prop
  | .nx S => Le S Sn ∧ q
  | .ct S => Le S Sn ∧ q
  | _ => False
def runE {τ σ ρ : Type} (step : σ → τ → Except ρ σ) : List τ → σ → Except ρ σ
  | [], s => .ok s
  | y :: ys, s => match step s y with
    | .error r => .error r
    | .ok s' => runE step ys s'
def loopE {σ ρ : Type} (stF : σ → Nz.S) (o : Except ρ σ) (Q : σ → Prop) (R : ρ → Ce → Nz.S → Prop) : Out → Prop
  | .nx S => ∃ s', o = .ok s' ∧ Le S (stF s') ∧ Q s'
  | .ct S => ∃ s', o = .ok s' ∧ Le S (stF s') ∧ Q s'
  | .ret c S => ∃ r, o = .error r ∧ R r c S
  | _ => False
section
variable {X : Cx} {B : Bd} {S S1 S2 S3 : Nz.S} {tg a b c e : Expr} {es : List Expr} {pos p q p2 : Pos} {K : Out → Prop} {body : List Stmt} {τ σ ρ : Type} {ys : List τ} {enc : τ → D}
theorem take_foldl {step : σ → τ → σ} {s0 : σ} {i : Nat} {y : τ} (h : ys[i]? = some y) : (ys.take (i + 1)).foldl step s0 = step ((ys.take i).foldl step s0) y := foldl_snoc step s0 h
theorem ex_forF (stF : σ → Nz.S) (step : σ → τ → σ) (s0 : σ) (Q : Nat → σ → Prop) (hsrc : Src X B tg e S (ys.map enc) S1) (h0 : Le S1 (stF s0)) (q0 : Q 0 s0)
    (hs : ∀ i y s, ys[i]? = some y → Q i s → ∃ S2, Eg X B tg (.fr (enc y)) (stF s) S2 ∧ Exs X B body S2 (loopF (stF (step s y)) (Q (i + 1) (step s y)))) (hd : Q ys.length (ys.foldl step s0) → K (.nx (stF (ys.foldl step s0))))
    (hp : PassesOwn (model X.prog X.w) X.A X.env X.xe) (hc : X.calm = true) (hf : ∀ x, foldedSetIterable e X.env x = pure x := by intro _; rfl) : Ex X B (.For tg e body [] pos) S K := by
  refine ex_forT hp hc (fun i => stF ((ys.take i).foldl step s0)) (fun i => Q i ((ys.take i).foldl step s0)) hsrc h0 q0 (fun i y hy hP => ?_) (fun hP => ?_) hf
  · obtain ⟨S2, h1, h2⟩ := hs i y _ hy hP
    refine ⟨S2, h1, h2.mono fun o ho => ?_⟩
    cases o with
    | nx S => show Le S (stF ((ys.take (i + 1)).foldl step s0)) ∧ Q (i + 1) ((ys.take (i + 1)).foldl step s0); rw [take_foldl hy]; exact ho
    | ct S => show Le S (stF ((ys.take (i + 1)).foldl step s0)) ∧ Q (i + 1) ((ys.take (i + 1)).foldl step s0); rw [take_foldl hy]; exact ho
    | bk S => exact False.elim ho
    | ret c S => exact False.elim ho
  · rw [List.take_length] at hP ⊢
    exact hd hP
theorem runE_cons {step : σ → τ → Except ρ σ} {x : τ} {xs : List τ} {s : σ} : runE step (x :: xs) s = (match step s x with | .error r => Except.error r | .ok s' => runE step xs s') := rfl
theorem runE_append {step : σ → τ → Except ρ σ} : ∀ {xs ys : List τ} {s : σ}, runE step (xs ++ ys) s = (match runE step xs s with | .error r => .error r | .ok s' => runE step ys s')
  | [], _, _ => rfl
  | x :: xs, ys, s => by
    rw [List.cons_append, runE_cons, runE_cons]
    cases step s x with
    | error r => rfl
    | ok s' => exact runE_append
theorem runE_split {step : σ → τ → Except ρ σ} {i : Nat} {y : τ} {s0 s : σ} (h : ys[i]? = some y) (hs : runE step (ys.take i) s0 = .ok s) : runE step (ys.take (i + 1)) s0 = step s y := by
  rw [take_snoc h, runE_append, hs]
  show runE step [y] s = step s y
  unfold runE
  cases step s y <;> rfl
theorem runE_err {step : σ → τ → Except ρ σ} {i : Nat} {y : τ} {s0 s : σ} {r : ρ} (h : ys[i]? = some y) (hs : runE step (ys.take i) s0 = .ok s) (hr : step s y = .error r) : runE step ys s0 = .error r := by
  have e : ys = ys.take (i + 1) ++ ys.drop (i + 1) := (List.take_append_drop _ _).symm
  rw [e, runE_append, runE_split h hs, hr]
/-- a loop that may return -/
theorem ex_forE (stF : σ → Nz.S) (step : σ → τ → Except ρ σ) (s0 : σ) (Q : Nat → σ → Prop) (R : ρ → Ce → Nz.S → Prop) (hsrc : Src X B tg e S (ys.map enc) S1) (h0 : Le S1 (stF s0)) (q0 : Q 0 s0)
    (hs : ∀ i y s, ys[i]? = some y → runE step (ys.take i) s0 = .ok s → Q i s → ∃ S2, Eg X B tg (.fr (enc y)) (stF s) S2 ∧ Exs X B body S2 (loopE stF (step s y) (Q (i + 1)) R))
    (hr : ∀ r c S', runE step ys s0 = .error r → R r c S' → K (.ret c S')) (hd : ∀ s, runE step ys s0 = .ok s → Q ys.length s → K (.nx (stF s)))
    (hp : PassesOwn (model X.prog X.w) X.A X.env X.xe) (hc : X.calm = true) (hf : ∀ x, foldedSetIterable e X.env x = pure x := by intro _; rfl) : Ex X B (.For tg e body [] pos) S K := by
  let sI : Nat → σ := fun i => match runE step (ys.take i) s0 with | .ok s => s | .error _ => s0
  refine ex_forT hp hc (fun i => stF (sI i)) (fun i => runE step (ys.take i) s0 = .ok (sI i) ∧ Q i (sI i)) hsrc h0 ⟨rfl, q0⟩ (fun i y hy hP => ?_) (fun hP => ?_) hf
  · obtain ⟨S2, h1, h2⟩ := hs i y _ hy hP.1 hP.2
    refine ⟨S2, h1, h2.mono fun o ho => ?_⟩
    have nx : ∀ s', step (sI i) y = .ok s' → sI (i + 1) = s' ∧ runE step (ys.take (i + 1)) s0 = .ok s' := fun s' e => by
      have := runE_split hy hP.1
      rw [e] at this
      refine ⟨?_, this⟩
      show (match runE step (ys.take (i + 1)) s0 with | .ok s => s | .error _ => s0) = s'
      rw [this]
    cases o with
    | nx S =>
      obtain ⟨s', e, l, q⟩ := ho
      obtain ⟨e1, e2⟩ := nx s' e
      show Le S (stF (sI (i + 1))) ∧ runE step (ys.take (i + 1)) s0 = .ok (sI (i + 1)) ∧ Q (i + 1) (sI (i + 1))
      rw [e1]; exact ⟨l, e2, q⟩
    | ct S =>
      obtain ⟨s', e, l, q⟩ := ho
      obtain ⟨e1, e2⟩ := nx s' e
      show Le S (stF (sI (i + 1))) ∧ runE step (ys.take (i + 1)) s0 = .ok (sI (i + 1)) ∧ Q (i + 1) (sI (i + 1))
      rw [e1]; exact ⟨l, e2, q⟩
    | bk S => exact False.elim ho
    | ret c S =>
      obtain ⟨r, e, l⟩ := ho
      exact hr r c S (runE_err hy hP.1 e) l
  · obtain ⟨h1, h2⟩ := hP
    rw [List.take_length] at h1
    exact hd _ h1 h2
end
end Nz

namespace Nz
open PySem PySem.Spec PyProof.Rows L2
abbrev eN : Unit → D := fun _ => .non
section
variable {X : Cx} {B : Bd} {S S1 : Nz.S} {es : List Expr} {pos : Pos} {τ : Type} {enc : τ → D}
theorem ev_lstF (xs : List τ) {ds : List D} (h : Ea X B es S (ds.map Ce.fr) S1) (hd : ds = xs.map enc) (hz : xs.length ≤ sizeLine) : Ev X B (.List es pos) S (.fr (eL enc xs)) S1 := by
  subst hd
  exact ev_lst h (by rw [List.length_map]; exact hz)
end
end Nz

namespace Nz
open PySem PySem.Spec PyProof.Rows L2
mutual
def toP : D → PyData
  | .non => .none
  | .bl b => .bool b
  | .int i => .int i
  | .str s => .str s
  | .tup xs => .tuple (toPs xs)
  | .lst xs => .list (toPs xs)
  | .obj _ _ => .none
def toPs : List D → List PyData
  | [] => []
  | x :: xs => toP x :: toPs xs
end
mutual
def dataOk : D → Bool
  | .obj _ _ => false
  | .tup xs => datasOk xs
  | .lst xs => datasOk xs
  | _ => true
def datasOk : List D → Bool
  | [] => true
  | x :: xs => dataOk x && datasOk xs
end
mutual
theorem plain_toP : ∀ d : D, (toP d).plain = true
  | .non => rfl
  | .bl b => rfl
  | .int i => rfl
  | .str s => rfl
  | .tup xs => by simp only [toP, PyData.plain]; exact plain_toPs xs
  | .lst xs => by simp only [toP, PyData.plain]; exact plain_toPs xs
  | .obj _ _ => rfl
theorem plain_toPs : ∀ ds : List D, PyData.plainAll (toPs ds) = true
  | [] => rfl
  | x :: xs => by simp only [toPs, PyData.plainAll, plain_toP x, plain_toPs xs, Bool.and_self]
end
section
variable {K : Frag} {mg : Mg} {F H : Hp}
mutual
theorem dp_of (s : Same F H) : ∀ (d : D) (v : V), Rep K mg F d v → dataOk d = true → Dp K H v (toP d)
  | .non, _, r, h => by cases r; exact .non
  | .bl b, _, r, h => by cases r; exact .bl b
  | .int i, _, r, h => by cases r; exact .int i
  | .str z, _, r, h => by cases r; exact .str z
  | .tup xs, _, r, h => by
    cases r with
    | tup h1 h2 => exact .tup (s.seqT h1) (dps_of s xs _ h2 (by simpa [dataOk] using h))
  | .lst xs, _, r, h => by
    cases r with
    | lst h1 h2 => exact .lst (s.seq h1) (dps_of s xs _ h2 (by simpa [dataOk] using h))
  | .obj _ _, _, r, h => by simp [dataOk] at h
theorem dps_of (s : Same F H) : ∀ (ds : List D) (vs : List V), Reps K mg F ds vs → datasOk ds = true → DpAll K H vs (toPs ds)
  | [], _, r, h => by cases r; exact .nil
  | x :: xs, _, r, h => by
    cases r with
    | cons h1 h2 =>
      simp only [datasOk, Bool.and_eq_true] at h
      exact .cons (dp_of s x _ h1 h.1) (dps_of s xs _ h2 h.2)
end
end
/-- an encoding that == reads as = -/
structure EqEnc {τ : Type} [DecidableEq τ] (n : Nat) (e : τ → D) : Prop where
  ok : ∀ x, dataOk (e x) = true
  eqv : ∀ x y, PyData.eqv (toP (e x)) (toP (e y)) = decide (x = y)
  dep : ∀ x, (toP (e x)).depth ≤ n
theorem ee_int : EqEnc 0 D.int := ⟨fun _ => rfl, fun x y => by simp only [toP, PyData.eqv]; rw [Bool.eq_iff_iff]; simp, fun _ => Nat.zero_le _⟩
theorem ee_bool : EqEnc 0 D.bl := ⟨fun _ => rfl, fun x y => by simp only [toP, PyData.eqv]; rw [Bool.eq_iff_iff]; simp, fun _ => Nat.zero_le _⟩
theorem ee_str : EqEnc 0 D.str := ⟨fun _ => rfl, fun x y => by simp only [toP, PyData.eqv]; rw [Bool.eq_iff_iff]; simp, fun _ => Nat.zero_le _⟩
section
variable {τ μ ν κ ι : Type} [DecidableEq τ] [DecidableEq μ] [DecidableEq ν] [DecidableEq κ] [DecidableEq ι] {a b c d f n : Nat} {e : τ → D} {e2 : μ → D} {e3 : ν → D} {e4 : κ → D} {e5 : ι → D}
theorem ees_ok (h : EqEnc n e) : ∀ xs : List τ, datasOk (xs.map e) = true
  | [] => rfl
  | x :: xs => by simp only [List.map_cons, datasOk, h.ok, ees_ok h xs, Bool.and_self]
theorem ees_eqv (h : EqEnc n e) : ∀ xs ys : List τ, PyData.eqvAll (toPs (xs.map e)) (toPs (ys.map e)) = decide (xs = ys)
  | [], [] => by simp [toPs, PyData.eqvAll]
  | [], _ :: _ => by simp [toPs, PyData.eqvAll]
  | _ :: _, [] => by simp [toPs, PyData.eqvAll]
  | x :: xs, y :: ys => by
    simp only [List.map_cons, toPs, PyData.eqvAll, h.eqv, ees_eqv h xs ys]
    rw [Bool.eq_iff_iff]; simp
theorem ees_dep (h : EqEnc n e) : ∀ xs : List τ, PyData.depthAll (toPs (xs.map e)) ≤ n
  | [] => by simp [toPs, PyData.depthAll]
  | x :: xs => by
    simp only [List.map_cons, toPs, PyData.depthAll]
    have h1 := h.dep x
    have h2 := ees_dep h xs
    omega
theorem ee_L (h : EqEnc n e) : EqEnc (n + 1) (eL e) := ⟨fun xs => by simp only [dataOk]; exact ees_ok h xs, fun xs ys => by simp only [toP, PyData.eqv]; exact ees_eqv h xs ys, fun xs => by simp only [toP, PyData.depth]; have := ees_dep h xs; omega⟩
theorem ee_U (h : EqEnc n e) : EqEnc (n + 1) (eU e) := ⟨fun xs => by simp only [dataOk]; exact ees_ok h xs, fun xs ys => by simp only [toP, PyData.eqv]; exact ees_eqv h xs ys, fun xs => by simp only [toP, PyData.depth]; have := ees_dep h xs; omega⟩
theorem ee_T2 (h1 : EqEnc a e) (h2 : EqEnc b e2) : EqEnc (a + b + 1) (eT2 e e2) := ⟨fun x => by simp [dataOk, datasOk, h1.ok, h2.ok], fun x y => by
    simp only [toP, toPs, PyData.eqv, PyData.eqvAll, h1.eqv, h2.eqv]
    rw [Bool.eq_iff_iff]; simp [Prod.ext_iff], fun x => by simp only [toP, toPs, PyData.depth, PyData.depthAll]; have := h1.dep x.1; have := h2.dep x.2; omega⟩
theorem ee_T3 (h1 : EqEnc a e) (h2 : EqEnc b e2) (h3 : EqEnc c e3) : EqEnc (a + b + c + 1) (eT3 e e2 e3) := ⟨fun x => by simp [dataOk, datasOk, h1.ok, h2.ok, h3.ok], fun x y => by
    simp only [toP, toPs, PyData.eqv, PyData.eqvAll, h1.eqv, h2.eqv, h3.eqv]
    rw [Bool.eq_iff_iff]; simp [Prod.ext_iff], fun x => by simp only [toP, toPs, PyData.depth, PyData.depthAll]; have := h1.dep x.1; have := h2.dep x.2.1; have := h3.dep x.2.2; omega⟩
theorem ee_T4 (h1 : EqEnc a e) (h2 : EqEnc b e2) (h3 : EqEnc c e3) (h4 : EqEnc d e4) : EqEnc (a + b + c + d + 1) (eT4 e e2 e3 e4) := ⟨fun x => by simp [dataOk, datasOk, h1.ok, h2.ok, h3.ok, h4.ok], fun x y => by
    simp only [toP, toPs, PyData.eqv, PyData.eqvAll, h1.eqv, h2.eqv, h3.eqv, h4.eqv]
    rw [Bool.eq_iff_iff]; simp [Prod.ext_iff], fun x => by simp only [toP, toPs, PyData.depth, PyData.depthAll]; have := h1.dep x.1; have := h2.dep x.2.1; have := h3.dep x.2.2.1; have := h4.dep x.2.2.2; omega⟩
theorem ee_T5 (h1 : EqEnc a e) (h2 : EqEnc b e2) (h3 : EqEnc c e3) (h4 : EqEnc d e4) (h5 : EqEnc f e5) : EqEnc (a + b + c + d + f + 1) (eT5 e e2 e3 e4 e5) := ⟨fun x => by simp [dataOk, datasOk, h1.ok, h2.ok, h3.ok, h4.ok, h5.ok], fun x y => by
    simp only [toP, toPs, PyData.eqv, PyData.eqvAll, h1.eqv, h2.eqv, h3.eqv, h4.eqv, h5.eqv]
    rw [Bool.eq_iff_iff]; simp [Prod.ext_iff], fun x => by simp only [toP, toPs, PyData.depth, PyData.depthAll]; have := h1.dep x.1; have := h2.dep x.2.1; have := h3.dep x.2.2.1; have := h4.dep x.2.2.2.1; have := h5.dep x.2.2.2.2; omega⟩
/-- None or a value that is not None -/
structure NoNone (e : τ → D) : Prop where
  l : ∀ x, PyData.eqv .none (toP (e x)) = false
  r : ∀ x, PyData.eqv (toP (e x)) .none = false
theorem nn_int : NoNone D.int := ⟨fun _ => by simp [toP, PyData.eqv], fun _ => by simp [toP, PyData.eqv]⟩
theorem nn_str : NoNone D.str := ⟨fun _ => by simp [toP, PyData.eqv], fun _ => by simp [toP, PyData.eqv]⟩
theorem nn_L : NoNone (eL e) := ⟨fun _ => by simp [toP, PyData.eqv], fun _ => by simp [toP, PyData.eqv]⟩
theorem nn_T2 : NoNone (eT2 e e2) := ⟨fun _ => by simp [toP, PyData.eqv], fun _ => by simp [toP, PyData.eqv]⟩
theorem nn_T3 : NoNone (eT3 e e2 e3) := ⟨fun _ => by simp [toP, PyData.eqv], fun _ => by simp [toP, PyData.eqv]⟩
theorem ee_O (h : EqEnc n e) (k : NoNone e) : EqEnc n (eO e) := ⟨fun x => by cases x with | none => rfl | some x => exact h.ok x, fun x y => by
    cases x with
    | none => cases y with
      | none => simp [eO, toP, PyData.eqv]
      | some y => simp only [eO]; rw [show toP D.non = PyData.none from rfl, k.l]; simp
    | some x => cases y with
      | none => simp only [eO]; rw [show toP D.non = PyData.none from rfl, k.r]; simp
      | some y => simp only [eO]; rw [h.eqv, Bool.eq_iff_iff]; simp,
  fun x => by cases x with | none => simp [eO, toP, PyData.depth] | some x => exact h.dep x⟩
variable {X : Cx}
theorem o_eqD (hu : X.A.units + 64 < cLine) (h : EqEnc n e) {x y : τ} (hn : n ≤ 60 := by decide) : Op2 X (compareOp .Eq) (e x) (e y) (.bl (decide (x = y))) :=
  fun B F α H σ S Q v1 v2 R r1 r2 k pins s u1 u2 I q1 q2 => by
    obtain ⟨as, ra⟩ := Dp.reads I _ _ _ (dp_of R.sub _ _ r1 (h.ok x)) q1
    obtain ⟨bs, rb⟩ := Dp.reads I _ _ _ (dp_of R.sub _ _ r2 (h.ok y)) q2
    refine PySem.SeqAt.eq_plain ra rb (plain_toP _) (plain_toP _) ?_ ?_
    · have := h.dep x; have := Nat.min_le_left (toP (e x)).depth (toP (e y)).depth; omega
    · rw [h.eqv]; exact ⟨.bl _, H, I, rfl, k F α _ H R Stp.refl (.bl _)⟩
theorem o_neD (hu : X.A.units + 64 < cLine) (h : EqEnc n e) {x y : τ} (hn : n ≤ 60 := by decide) : Op2 X (compareOp .NotEq) (e x) (e y) (.bl (!decide (x = y))) :=
  fun B F α H σ S Q v1 v2 R r1 r2 k pins s u1 u2 I q1 q2 => by
    obtain ⟨as, ra⟩ := Dp.reads I _ _ _ (dp_of R.sub _ _ r1 (h.ok x)) q1
    obtain ⟨bs, rb⟩ := Dp.reads I _ _ _ (dp_of R.sub _ _ r2 (h.ok y)) q2
    refine PySem.SeqAt.ne_plain ra rb (plain_toP _) (plain_toP _) ?_ ?_
    · have := h.dep x; have := Nat.min_le_left (toP (e x)).depth (toP (e y)).depth; omega
    · rw [h.eqv]; exact ⟨.bl _, H, I, rfl, k F α _ H R Stp.refl (.bl _)⟩
theorem toPs_any (h : EqEnc n e) (x : τ) : ∀ ys : List τ, ((toPs (ys.map e)).any fun y => PyData.eqv y (toP (e x))) = decide (x ∈ ys)
  | [] => by simp [toPs]
  | y :: ys => by
    rw [List.map_cons]
    show (PyData.eqv (toP (e y)) (toP (e x)) || (toPs (ys.map e)).any fun y => PyData.eqv y (toP (e x))) = _
    rw [h.eqv, toPs_any h x ys, Bool.eq_iff_iff, Bool.or_eq_true, decide_eq_true_iff, decide_eq_true_iff, decide_eq_true_iff, List.mem_cons]
    exact or_congr eq_comm Iff.rfl
theorem o_inL (hu : X.A.units + 64 < cLine) (h : EqEnc n e) {x : τ} {ys : List τ} (hn : n ≤ 60 := by decide) : Op2 X (compareOp .In) (e x) (eL e ys) (.bl (decide (x ∈ ys))) :=
  fun B F α H σ S Q v1 v2 R r1 r2 k pins s u1 u2 I q1 q2 => by
    obtain ⟨as, ra⟩ := Dp.reads I _ _ _ (dp_of R.sub _ _ r1 (h.ok x)) q1
    obtain ⟨bs, rb⟩ := Dp.reads I _ _ _ (dp_of R.sub _ _ r2 ((ee_L h).ok ys)) q2
    refine PySem.SeqAt.in_list_data (xs := toPs (ys.map e)) rb ra (plain_toPs _) (plain_toP _) ?_ ?_
    · have := h.dep x; have := Nat.min_le_right (PyData.depthAll (toPs (ys.map e))) (toP (e x)).depth; omega
    · rw [toPs_any h]; exact ⟨.bl _, H, I, rfl, k F α _ H R Stp.refl (.bl _)⟩
theorem o_ninL (hu : X.A.units + 64 < cLine) (h : EqEnc n e) {x : τ} {ys : List τ} (hn : n ≤ 60 := by decide) : Op2 X (compareOp .NotIn) (e x) (eL e ys) (.bl (!decide (x ∈ ys))) :=
  fun B F α H σ S Q v1 v2 R r1 r2 k pins s u1 u2 I q1 q2 => by
    obtain ⟨as, ra⟩ := Dp.reads I _ _ _ (dp_of R.sub _ _ r1 (h.ok x)) q1
    obtain ⟨bs, rb⟩ := Dp.reads I _ _ _ (dp_of R.sub _ _ r2 ((ee_L h).ok ys)) q2
    refine PySem.SeqAt.notIn_list_data (xs := toPs (ys.map e)) rb ra (plain_toPs _) (plain_toP _) ?_ ?_
    · have := h.dep x; have := Nat.min_le_right (PyData.depthAll (toPs (ys.map e))) (toP (e x)).depth; omega
    · rw [toPs_any h]; exact ⟨.bl _, H, I, rfl, k F α _ H R Stp.refl (.bl _)⟩
end
/-! ### a while by its function -/
def iterW {σ : Type} (c : σ → Bool) (f : σ → σ) : Nat → σ → σ
  | 0, s => s
  | n + 1, s => if c s = true then iterW c f n (f s) else s
theorem iterW_stop {σ : Type} {c : σ → Bool} {f : σ → σ} {s : σ} (h : c s = false) : ∀ n, iterW c f n s = s
  | 0 => rfl
  | n + 1 => by unfold iterW; rw [h, if_neg Bool.false_ne_true]
section
variable {X : Cx} {B : Bd} {S : Nz.S} {e : Expr} {pos : Pos} {K : Out → Prop} {body : List Stmt} {σ : Type}
theorem ex_whileF (stF : σ → Nz.S) (c : σ → Bool) (f : σ → σ) (s0 : σ) (n : Nat) (Q : σ → Prop) (μ : σ → Nat) (h0 : Le S (stF s0)) (q0 : Q s0) (hn : μ s0 ≤ n) (hm : ∀ s, Q s → c s = true → Q (f s) ∧ μ (f s) < μ s)
    (ht : ∀ s, Q s → Et X B e (stF s) (c s) (stF s)) (hs : ∀ s, Q s → c s = true → Exs X B body (stF s) (loopF (stF (f s)) True))
    (hd : Q (iterW c f n s0) → c (iterW c f n s0) = false → K (.nx (stF (iterW c f n s0)))) (hp : PassesOwn (model X.prog X.w) X.A X.env X.xe) : Ex X B (.While e body [] pos) S K :=
  fun F α H τ D R o => wS.of (ps_while hp pt_w pss_w) (by
    refine ⟨fun m σ' H' => ∃ s k F' α', m = μ s ∧ Q s ∧ μ s ≤ k ∧ iterW c f k s = iterW c f n s0 ∧ RelX X B F' α' H' σ' (stF s) ∧ Same F F', ⟨μ s0, s0, n, F, α, rfl, q0, hn, rfl, R.le h0, Same.refl _⟩, ?_⟩
    rintro m σ' H' ⟨s, k, F', α', rfl, q, hk, he, R', sm⟩
    refine ht s q F' α' H' σ' _ R' fun F1 α1 H1 R1 st1 => ?_
    have sall : Same F F1 := sm.trans st1.fro
    cases hc : c s with
    | true =>
      obtain ⟨q', l⟩ := hm s q hc
      rw [if_pos rfl]
      refine ⟨fun σ2 H2 => ∃ F2 α2, RelX X B F2 α2 H2 σ2 (stF (f s)) ∧ Same F F2, fun σ2 H2 ⟨F2, α2, R2, s2⟩ => ⟨μ (f s), l, f s, k - 1, F2, α2, rfl, q', by omega, ?_, R2, s2⟩, hs s q hc F1 α1 H1 σ' _ R1 ?_⟩
      · rw [← he]
        obtain ⟨k', rfl⟩ : ∃ k', k = k' + 1 := ⟨k - 1, by omega⟩
        show iterW c f k' (f s) = if c s = true then iterW c f k' (f s) else s
        rw [if_pos hc]
      · exact ⟨fun S4 F4 α4 H4 σ4 k4 R4 s4 => ⟨F4, α4, R4.le k4.1, sall.trans s4⟩, fun S4 F4 α4 H4 σ4 k4 R4 s4 => k4.elim, fun S4 F4 α4 H4 σ4 k4 R4 s4 => ⟨F4, α4, R4.le k4.1, sall.trans s4⟩, fun c S4 F4 α4 H4 σ4 v k4 R4 s4 r4 => k4.elim⟩
    | false =>
      rw [if_neg Bool.false_ne_true]
      rw [iterW_stop hc] at he
      exact o.nx _ F1 α1 H1 σ' (by rw [he]; exact hd (by rw [← he]; exact q) (by rw [← he]; exact hc)) R1 sall)
end
end Nz

namespace Nz
open PySem PySem.Spec PyProof.Rows L2
/-- the law's promise in the layer's own words -/
def spTrue (K : Frag) : Sp := fun vs H Q _ => ∃ (a : Addr) (ns : List Int), vs = [.ref a] ∧ SqL K H a (ns.map V.int) ∧ ns.length ≤ 63 ∧ ∀ H', Q (.bl true) H'
theorem spTrue_of {K : Frag} {mg : Mg} {mir : List Int → Bool} (hm : ∀ ns : List Int, ns.length ≤ 63 → mir ns = true) {vs : List V} {H : Hp} {Q : VK} {E : XK} (h : spTrue K vs H Q E) :
    SpOf K mg (fun cs L Kc => ∃ script : List Int, cs = [.fr (eL D.int script)] ∧ L = [] ∧ script.length ≤ 63 ∧ ∀ L', Kc (.fr (D.bl (mir script))) L') vs H Q E := by
  obtain ⟨a, ns, rfl, hs, hl, q⟩ := h
  refine ⟨H, fun _ => 0, [], [.fr (eL D.int ns)], fun _ => False, ⟨Same.refl _, Same.refl _, fun b o e => .inl e, fun b o e _ => e, List.nodup_nil, fun n m h => absurd h (by simp [names]), fun n o h => absurd h (by simp), .so (Rep.lst hs Reps.ints) .nil, fun n a h hn => absurd hn (by simp [names])⟩, ns, rfl, rfl, hl, fun L' F' α' v H' ρ' σ' R' r' => ?_⟩
  rw [hm ns hl] at r'
  cases (show Rep K mg F' (.bl true) v from r')
  exact q H'
end Nz

namespace Nz
open PySem PySem.Spec PyProof.Rows L2
/-! min, max, index of lists of whole numbers; gcd; None -/
def minL : List Int → Int
  | [] => 0
  | x :: xs => xs.foldl (fun a b => if b < a then b else a) x
def maxL : List Int → Int
  | [] => 0
  | x :: xs => xs.foldl (fun a b => if b > a then b else a) x
theorem foldmin : ∀ (xs : List Int) (a : Int), (xs.foldl (fun a b => if b < a then b else a) a = a ∨ xs.foldl (fun a b => if b < a then b else a) a ∈ xs) ∧ xs.foldl (fun a b => if b < a then b else a) a ≤ a ∧ ∀ y ∈ xs, xs.foldl (fun a b => if b < a then b else a) a ≤ y
  | [], a => ⟨.inl rfl, Int.le_refl _, fun y h => absurd h (by simp)⟩
  | x :: xs, a => by
    rw [List.foldl_cons]
    have ih := foldmin xs (if x < a then x else a)
    refine ⟨?_, ?_, fun y hy => ?_⟩
    · rcases ih.1 with h | h
      · rw [h]; split
        · exact .inr List.mem_cons_self
        · exact .inl rfl
      · exact .inr (List.mem_cons_of_mem _ h)
    · have := ih.2.1; split at this <;> omega
    · rcases List.mem_cons.mp hy with rfl | hy
      · have := ih.2.1; split at this <;> omega
      · exact ih.2.2 y hy
theorem foldmax : ∀ (xs : List Int) (a : Int), (xs.foldl (fun a b => if b > a then b else a) a = a ∨ xs.foldl (fun a b => if b > a then b else a) a ∈ xs) ∧ a ≤ xs.foldl (fun a b => if b > a then b else a) a ∧ ∀ y ∈ xs, y ≤ xs.foldl (fun a b => if b > a then b else a) a
  | [], a => ⟨.inl rfl, Int.le_refl _, fun y h => absurd h (by simp)⟩
  | x :: xs, a => by
    rw [List.foldl_cons]
    have ih := foldmax xs (if x > a then x else a)
    refine ⟨?_, ?_, fun y hy => ?_⟩
    · rcases ih.1 with h | h
      · rw [h]; split
        · exact .inr List.mem_cons_self
        · exact .inl rfl
      · exact .inr (List.mem_cons_of_mem _ h)
    · have := ih.2.1; split at this <;> omega
    · rcases List.mem_cons.mp hy with rfl | hy
      · have := ih.2.1; split at this <;> omega
      · exact ih.2.2 y hy
theorem minL_mem {ns : List Int} (h : ns ≠ []) : minL ns ∈ ns := by
  cases ns with
  | nil => exact absurd rfl h
  | cons x xs =>
    rcases (foldmin xs x).1 with e | e
    · show xs.foldl _ x ∈ _; rw [e]; exact List.mem_cons_self
    · exact List.mem_cons_of_mem _ e
theorem minL_le {ns : List Int} {y : Int} (h : y ∈ ns) : minL ns ≤ y := by
  cases ns with
  | nil => exact absurd h (by simp)
  | cons x xs =>
    rcases List.mem_cons.mp h with rfl | h
    · exact (foldmin xs y).2.1
    · exact (foldmin xs x).2.2 y h
theorem maxL_mem {ns : List Int} (h : ns ≠ []) : maxL ns ∈ ns := by
  cases ns with
  | nil => exact absurd rfl h
  | cons x xs =>
    rcases (foldmax xs x).1 with e | e
    · show xs.foldl _ x ∈ _; rw [e]; exact List.mem_cons_self
    · exact List.mem_cons_of_mem _ e
theorem maxL_le {ns : List Int} {y : Int} (h : y ∈ ns) : y ≤ maxL ns := by
  cases ns with
  | nil => exact absurd h (by simp)
  | cons x xs =>
    rcases List.mem_cons.mp h with rfl | h
    · exact (foldmax xs y).2.1
    · exact (foldmax xs x).2.2 y h
section
variable {X : Cx} {B : Bd} {S S1 S2 S3 : Nz.S} {tg a b c e : Expr} {es : List Expr} {pos p q p2 : Pos} {d : D} {ds : List D} {x : Str} {id : String} {τ : Type} {enc : τ → D}
theorem c_minL {ns : List Int} (hc : X.calm = true) (h : ns ≠ []) : Cb X (.builtin "min") [.lst (ns.map D.int)] (.int (minL ns)) := .of (cr_min hc) fun B F α H σ S Q vs R rx k => by
  cases rx with
  | cons r rr =>
    cases rr
    obtain ⟨a, us, rfl, hq, rs⟩ := R.asL (c := .fr (.lst (ns.map D.int))) rfl r
    refine ⟨a, ns, rfl, by rw [← Reps.ints_eq rs]; exact hq, List.length_pos_iff.mpr h, fun m h1 h2 => ?_⟩
    rw [show m = minL ns from Int.le_antisymm (h2 _ (minL_mem h)) (minL_le h1)]
    exact k F α _ H R Stp.refl (.int _)
theorem c_maxL {ns : List Int} (hc : X.calm = true) (h : ns ≠ []) : Cb X (.builtin "max") [.lst (ns.map D.int)] (.int (maxL ns)) := .of (cr_max hc) fun B F α H σ S Q vs R rx k => by
  cases rx with
  | cons r rr =>
    cases rr
    obtain ⟨a, us, rfl, hq, rs⟩ := R.asL (c := .fr (.lst (ns.map D.int))) rfl r
    refine ⟨a, ns, rfl, by rw [← Reps.ints_eq rs]; exact hq, List.length_pos_iff.mpr h, fun m h1 h2 => ?_⟩
    rw [show m = maxL ns from Int.le_antisymm (maxL_le h1) (h2 _ (maxL_mem h))]
    exact k F α _ H R Stp.refl (.int _)
/-- a module's name for a built-in function -/
theorem ev_callG (hc : Cb X (.builtin id) ds d) (ha : Ea X B (e :: es) S (ds.map Ce.fr) S1) (hg : Gl X x) (hm : X.mg x = some (.builtin id)) (h1 : Sub S.L S1.L := by exact Sub.refl) (hdb : (x == ("__debug__" : Str)) = false := by decide)
    (he : starEach (e :: es) X.env = (false, eval e X.env) :: starEach es X.env := by rfl) (hpl : (backTo pos (starEach es X.env)).any (·.1) = false := by rfl) : Ev X B (.Call (.Name x p) (e :: es) [] pos) S (.fr d) S1 :=
  fun F α H σ Q R k pins s I => wpAny_Call_Name_kw (ld_glob I hg hm (PyProof.Rows.callWith_builtin1 (thn (ha F α H σ (fun vs H1 => ∃ F1 α1, RelX X B F1 α1 H1 σ S1 ∧ Stp F α S.L F1 α1 ∧ Reps X.K X.mg F1 ds vs) R
    (fun F1 α1 vs H1 R1 st1 r1 => ⟨F1, α1, R1, st1, r1.fr⟩) pos pins s I) fun us s1 ⟨vs, H1, I1, rv, F1, α1, R1, st1, r1⟩ =>
      hc B F1 α1 H1 σ S1 Q vs R1 r1 (fun F' α' v H' R' st' r' => k F' α' v H' R' (st1.trans st' h1) r') pins s1 us I1 rv) he hpl) hdb)
theorem c_gcd {i j : Int} : Cb X (.builtin "math.gcd") [.int i, .int j] (.int ((Nat.gcd i.natAbs j.natAbs : Nat) : Int)) := .of cr_gcd fun B F α H σ S Q xs R rx k => by
  cases rx with | cons r rr => cases rr with | cons r2 rr => cases rr; cases r; cases r2; exact ⟨i, j, rfl, k F α _ H R Stp.refl (.int _)⟩
theorem o_divW {i j : Int} (h : CDivW i j) : Op2 X (binaryOp .FloorDiv) (.int i) (.int j) (.int (i / j)) := op2I op_fdivW h fun _ => .int _
theorem o_powN {i j r : Int} (h : CPow i j) (e : i ^ j.toNat = r) : Op2 X (binaryOp .Pow) (.int i) (.int j) (.int r) := by rw [← e]; exact op2I op_pow h fun _ => .int _
theorem o_mulW {i j : Int} (h : CMulW i j) : Op2 X (binaryOp .Mult) (.int i) (.int j) (.int (i * j)) := op2I op_mulW h fun _ => .int _
theorem mulW_of {i j : Int} (h : -(2 ^ 900) < i ∧ i < 2 ^ 900 ∧ -(2 ^ 900) < j ∧ j < 2 ^ 900) : CMulW i j :=
  wide_mul (a := 900) (b := 900) (by omega) (by omega) (by decide) (by decide) (by decide)
theorem divW_of {i j : Int} (h : 0 < j ∧ j < 2 ^ 900) : CDivW i j := wide_div (b := 900) h.1 (by omega) (by decide) (by decide)
/-! None -/
def isNonD : D → Bool
  | .non => true
  | _ => false
theorem o_isD : Op2 X (compareOp .Is) d .non (.bl (isNonD d)) := fun B F α H σ S Q x y R rx ry k pins s v u I rv ru =>
  op_isN pins s σ H x y v u Q I rv ru ⟨by cases ry; rfl, by
    have : decide (x = .non) = isNonD d := by cases rx <;> simp [isNonD]
    rw [this]; exact k F α _ H R Stp.refl (.bl _)⟩
theorem o_nisD : Op2 X (compareOp .IsNot) d .non (.bl (!isNonD d)) := fun B F α H σ S Q x y R rx ry k pins s v u I rv ru =>
  op_notN pins s σ H x y v u Q I rv ru ⟨by cases ry; rfl, by
    have : decide (x = .non) = isNonD d := by cases rx <;> simp [isNonD]
    rw [this]; exact k F α _ H R Stp.refl (.bl _)⟩
theorem isNon_O {y : Option τ} (h : ∀ z, isNonD (enc z) = false) : isNonD (eO enc y) = y.isNone := by
  cases y with
  | none => rfl
  | some z => exact h z
theorem o_isO {y : Option τ} (h : ∀ z, isNonD (enc z) = false) : Op2 X (compareOp .Is) (eO enc y) .non (.bl y.isNone) := by rw [← isNon_O h]; exact o_isD
theorem o_nisO {y : Option τ} (h : ∀ z, isNonD (enc z) = false) : Op2 X (compareOp .IsNot) (eO enc y) .non (.bl (!y.isNone)) := by rw [← isNon_O h]; exact o_nisD
theorem ev_unO [Inhabited τ] {y : Option τ} (h : y.isSome = true) (ha : Ev X B a S (.fr (eO enc y)) S1) : Ev X B a S (.fr (enc (y.getD default))) S1 := by
  cases y with
  | none => exact absurd h (by simp)
  | some z => exact ha
theorem ev_isiO {T t : String} {b : Bool} {xT : Str} {p2 : Pos} {y : Option τ} (ha : Ev X B a S (.fr (eO enc y)) S1) (ht : ∀ z, tyOf (enc z) = some t) (hk : kitB t T = some b) (hk2 : kitB "NoneType" T = some false) (hg : Gl X "isinstance") (hm : X.mg "isinstance" = none) (hgT : Gl X xT) (hmT : X.mg xT = none) (hv : bootBuiltins xT = some (.type T))
    (hv2 : bootBuiltins "isinstance" = some (.builtin "isinstance") := by decide +kernel)
    (hn : xT ≠ "__name__" := by decide) (hd : (xT == ("__debug__" : Str)) = false := by decide)
    (he : starEach (a :: [.Name xT p2]) X.env = (false, eval a X.env) :: starEach [.Name xT p2] X.env := by rfl) (he2 : starEach (.Name xT p2 :: []) X.env = (false, eval (.Name xT p2) X.env) :: starEach [] X.env := by rfl) (hpl : (backTo pos (starEach [.Name xT p2] X.env)).any (·.1) = false := by rfl) :
    Ev X B (.Call (.Name "isinstance" p) [a, .Name xT p2] [] pos) S (.fr (.bl (y.isSome && b))) S1 := by
  cases y with
  | none => exact ev_isi ha rfl hk2 hg hm hgT hmT hv hv2 hn hd he he2 hpl
  | some z => exact ev_isi (b := b) ha (ht z) hk hg hm hgT hmT hv hv2 hn hd he he2 hpl
/-- a, b = x, y with plain names -/
theorem ex_par (i j : Nat) {x y : Str} {px py pt : Pos} {kt k2 pt2} {d1 d2 : D} {K : Out → Prop} (hc : X.calm = true) (ha : Ea X B [a, b] S [.fr d1, .fr d2] S1) (k : K (.nx (setS (setS S1 i (.fr d1)) j (.fr d2)))) (hN : X.N.Nodup) (hi : X.N[i]? = some x) (hj : X.N[j]? = some y) (hij : i ≠ j)
    (hx : X.env.scope.names.lookup x = some .local) (hy : X.env.scope.names.lookup y = some .local)
    (hw : swappedStores [.Tuple [.Name x px, .Name y py] kt pt] (.Tuple [a, b] k2 pt2) X.env = pure (some [x, y]) := by rfl)
    (hs : swapsWithSole [.Tuple [.Name x px, .Name y py] kt pt] (.Tuple [a, b] k2 pt2) pos.line X.env = pure false := by rfl) :
    Ex X B (.Assign [.Tuple [.Name x px, .Name y py] kt pt] (.Tuple [a, b] k2 pt2) pos) S K :=
  fun F α H σ D R o => wS.of (ps_par hc hN hi hj hij hx hy pa_w hw hs) (ha F α H σ _ R fun F1 α1 vs H1 R1 st1 r1 => by
    have r := CRels.fr (ds := [d1, d2]) r1
    cases r with
    | cons q1 r =>
      cases r with
      | cons q2 r =>
        cases r
        exact ⟨_, _, rfl, o.nx _ F1 α1 H1 _ k ((R1.setS (c := .fr d1) q1).setS (c := .fr d2) q2) st1.fro⟩)
/-! xs.index(y) -/
theorem ev_index {ca : Ce} {o : Expr} {apos : Pos} {ns : List Int} {i : Int} (hi : i ∈ ns) (ho : Ev X B o S (.fr (eL D.int ns)) S1) (ha : Ev X B e S1 (.fr (.int i)) S1) (hS : Sub S.L S1.L := by exact Sub.refl)
    (hbase : attributeBase o "index" X.env (eval o X.env) = eval o X.env := by rfl)
    (hfew : ((backTo pos (starEach (e :: []) X.env)).all (fun x => !x.1) && (backToKw pos (keywordEach [] X.env)).all (fun x => x.1.isSome)
      && decide ((e :: ([] : List Expr)).length + ([] : List Keyword).length + (if ([] : List Keyword).isEmpty then 0 else 1) < 30)) = true := by rfl)
    (hline : (apos.endLine == pos.line) = true := by rfl) (hs : starEach (e :: []) X.env = (false, eval e X.env) :: starEach [] X.env := by rfl) (hplain : (backTo pos (starEach [] X.env)).any (·.1) = false := by rfl) :
    Ev X B (.Call (.Attribute o "index" apos) [e] [] pos) S (.fr (.int (ns.idxOf i : Nat))) S1 :=
  fun F α H σ Q R k => wE.of (pe_bm PySem.F.plainAttrs_list PySem.F.slot_list_index PySem.F.type_list_index mt_index pe_w (pa_cons pe_w pa_nil hs) hbase hfew hline hs hplain) (ho F α H σ _ R fun F1 α1 v1 H1 R1 st1 r1 => by
    obtain ⟨l, us, rfl, hq, rs⟩ := R1.asL (c := .fr (.lst (ns.map D.int))) rfl r1
    refine ⟨.inl ⟨rfl, us, hq⟩, ha F1 α1 H1 σ _ R1 fun F2 α2 v2 H2 R2 st2 r2 => ?_⟩
    obtain ⟨l2, us2, e2, hq2, rs2⟩ := R2.asL (c := .fr (.lst (ns.map D.int))) rfl (Rep.mono st2.fro r1)
    cases e2
    have e3 := Reps.ints_eq rs2
    rw [e3] at hq2
    cases r2
    have hlt := List.idxOf_lt_length_of_mem hi
    have hget : ns[ns.idxOf i]? = some i := by rw [List.getElem?_eq_getElem hlt, List.getElem_idxOf]
    refine ⟨l, ns.map V.int, .int i, ns.idxOf i, .int i, rfl, rfl, hq2, rfl, ?_, by rw [List.getElem?_map, hget]; rfl, ?_, ?_, k F2 α2 _ H2 R2 (st1.trans st2 hS) (.int _)⟩
    · rw [List.all_map, List.all_eq_true]; intro _ _; rfl
    · exact beq_self_eq_true i
    · intro m z' hm hz
      rw [List.getElem?_map] at hz
      cases hg : ns[m]? with
      | none => rw [hg] at hz; cases hz
      | some y =>
        rw [hg] at hz
        cases hz
        show (y == i) = false
        obtain ⟨hml, hmv⟩ := List.getElem?_eq_some_iff.mp hg
        have := List.not_of_lt_findIdx (p := (· == i)) (xs := ns) hm
        rw [← hmv]
        simpa using this)
end
end Nz

namespace Nz
open PySem PySem.Spec PyProof.Rows L2
/-! instances -/
section
variable {K : Frag} {mg : Mg} {B : Bd} {F F' : Hp} {α : Nat → Addr} {H H' : Hp} {σ : L2.St} {S : Nz.S} {L : List (Nat × LO)} {Q : VK} {E : XK}
theorem RepF.nolook {f : Str} : ∀ {fs : List (Str × D)} {vs : List (Str × V)}, RepF K mg F fs vs → fs.lookup f = none → vs.lookup f = none
  | _, _, .nil, h => rfl
  | (n, e) :: fs, (_, v) :: vs, .cons r rs, h => by
    rw [List.lookup_cons] at h ⊢
    cases hb : (f == n) with
    | true => rw [hb] at h; cases h
    | false => rw [hb] at h; exact rs.nolook h
theorem paired_slotsL : ∀ {ds : List D} {vs : List V}, Reps K mg F ds vs → SlR K mg F α L ((ds.map Ce.fr).map some) (vs.map some)
  | _, _, .nil => .nil
  | _, _, .cons h r => .so h (paired_slotsL r)
theorem CRelF.fr : ∀ {fs : List (Str × D)} {vs : List (Str × V)}, CRelF K mg F α L (fs.map fun p => (p.1, Ce.fr p.2)) vs → RepF K mg F fs vs
  | [], _, .nil => .nil
  | _ :: _, _, .cons h r => .cons h (CRelF.fr r)
/-- __init__ -/
theorem init_call {sp : SpN} {x dx C : Addr} {c : Str} {ds : List D} {vs : List V} {fs : List (Str × D)} (R : Rel K mg B F α H σ S) (hx : H x = none) (hd : H dx = none) (hne : dx ≠ x) (hm : mg c = some (.ref C)) (r : Reps K mg F ds vs)
    (hs : ∀ Kc : Ce → List (Nat × LO) → Prop, Kc (.fr .non) [(0, .ins c (fs.map fun p => (p.1, Ce.fr p.2)))] → sp (.ad 0 :: ds.map Ce.fr) [(0, .ins c [])] Kc)
    (k : ∀ F' H', Rel K mg B F' α H' σ S → Same F F' → Rep K mg F' (.obj c fs) (.ref x) → Q (.ref x) H') :
    SpOf K mg sp (.ref x :: vs) (upd (upd H dx (.own x)) x (.ins C dx [])) (fun v H2 => v = .non ∧ Q (.ref x) H2) E := by
  have fx : F x = none := by
    cases q : F x with
    | none => rfl
    | some o => rw [R.sub x o q] at hx; cases hx
  have fdx : F dx = none := by
    cases q : F dx with
    | none => rfl
    | some o => rw [R.sub dx o q] at hd; cases hd
  have hH2 : ∀ b o, H b = some o → upd (upd H dx (.own x)) x (.ins C dx []) b = some o := fun b o e => by
    rw [upd_ne (fun q => by rw [q, hx] at e; cases e), upd_ne (fun q => by rw [q, hd] at e; cases e)]; exact e
  refine ⟨F, fun _ => x, [(0, .ins c [])], .ad 0 :: ds.map Ce.fr, fun b => b = x ∨ b = dx, ⟨fun b o e => hH2 b o (R.sub b o e), Same.refl _, fun b o e => .inl e, fun b o e _ => e, by simp [names], fun n m h1 h2 _ => ?_, fun n o h => ?_, .so ⟨by simp [names], rfl⟩ (?_), fun n a h hn => ?_⟩, hs _ ?_⟩
  · simp only [names, List.map_cons, List.map_nil, List.mem_singleton] at h1 h2; rw [h1, h2]
  · simp only [List.mem_singleton, Prod.mk.injEq] at h
    obtain ⟨rfl, rfl⟩ := h
    refine ⟨fx, .inr (.inl rfl), C, dx, [], hm, upd_same, ?_, fdx, .inr (.inr rfl), .nil⟩
    rw [upd_ne hne]; exact upd_same
  · exact paired_slotsL r
  · have h2 : (if n < 100 then some x else none) = some a := h
    split at h2
    · cases h2; rfl
    · cases h2
  · intro F' α' v H' ρ' σ' R' r'
    have hv : v = .non := by cases r'; rfl
    refine ⟨hv, ?_⟩
    have hfix : α' 0 = x := R'.fix 0 x rfl (by simp [names])
    obtain ⟨q1, q2, C', dx', us, m1, e1, e2, e3, e4, rf⟩ := R'.live 0 _ (List.mem_singleton.mpr rfl)
    rw [hfix] at q1 q2 e1 e2
    have hne' : dx' ≠ x := fun q => by rw [q, e1] at e2; cases e2
    have old : ∀ b o, H b = some o → ¬ (b = x ∨ b = dx) := fun b o e q => by
      rcases q with q | q
      · rw [q, hx] at e; cases e
      · rw [q, hd] at e; cases e
    have hfresh : ∀ b, (upd (upd H dx (.own x)) x (.ins C dx []) b = none ∨ (b = x ∨ b = dx)) → H b = none := fun b q => by
      cases e : H b with
      | none => rfl
      | some o =>
        rcases q with q | q
        · rw [hH2 b o e] at q; cases q
        · exact absurd q (old b o e)
    have hF2 : Same F' (upd (upd F' dx' (.own x)) x (.ins C' dx' us)) := fun b o e => by
      rw [upd_ne (fun q => by rw [q, q1] at e; cases e), upd_ne (fun q => by rw [q, e3] at e; cases e)]; exact e
    have gx : upd (upd F' dx' (.own x)) x (.ins C' dx' us) x = some (.ins C' dx' us) := upd_same
    have gd : upd (upd F' dx' (.own x)) x (.ins C' dx' us) dx' = some (.own x) := by rw [upd_ne hne']; exact upd_same
    refine k (upd (upd F' dx' (.own x)) x (.ins C' dx' us)) H' (R.grow ((show Same F F' from R'.bF).trans hF2) (fun b o e => R'.frame b o (hH2 b o e) (old b o e)) (fun b o e => ?_) (fun b u e => ?_)) ((show Same F F' from R'.bF).trans hF2) ?_
    · by_cases h1 : b = x
      · subst h1; rw [gx] at e; cases e; exact e1
      · rw [upd_ne h1] at e
        by_cases h2 : b = dx'
        · subst h2; rw [upd_same] at e; cases e; exact e2
        · rw [upd_ne h2] at e; exact R'.sub b o e
    · by_cases h1 : b = x
      · subst h1; exact .inr hx
      · rw [upd_ne h1] at e
        by_cases h2 : b = dx'
        · subst h2; exact .inr (hfresh _ e4)
        · rw [upd_ne h2] at e
          rcases R'.nF b u e with z | z | z
          · exact .inl z
          · exact .inr (hfresh b (.inl z))
          · exact .inr (hfresh b (.inr z))
    · exact .obj m1 gx gd ((CRelF.fr rf).mono hF2)
end
section
variable {X : Cx} {B : Bd} {S S1 S2 : Nz.S} {a e o : Expr} {es : List Expr} {pos apos p q : Pos} {d d1 : D} {ds : List D} {c f m x : Str} {fs : List (Str × D)} {C g pr : Addr} {fd : FuncData} {ps : List Str} {k : Nat} {sp : SpN}
/-- e.f -/
theorem ev_fld (hm : X.mg c = some (.ref C)) (hc : Cls X.K C) (hn : NoAttr X.K C f) (hl : fs.lookup f = some d) (ha : Ev X B a S (.fr (.obj c fs)) S1) (hb : attributeBase a f X.env (eval a X.env) = eval a X.env := by rfl) : Ev X B (.Attribute a f pos) S (.fr d) S1 :=
  fun F α H σ Q R k => wE.of (pe_fld pe_w hb) (ha F α H σ _ R fun F1 α1 v1 H1 R1 st1 r1 => by
    cases (show Rep X.K X.mg F1 (.obj c fs) v1 from r1) with
    | obj m e1 e2 rf =>
      rw [m] at hm; cases hm
      obtain ⟨v, hv, rv⟩ := rf.look hl
      exact ⟨_, _, _, _, v, rfl, R1.sub _ _ e1, hc, hn, hv, k F1 α1 v H1 R1 st1 rv⟩)
/-- e.f, a property -/
theorem ev_prop (hm : X.mg c = some (.ref C)) (hc : Cls X.K C) (hp : PropOf X.K C f pr g) (F : FnOk X.prog X.w X.K X.mg X.base CX0 k g fd ps (SpOf X.K X.mg sp)) (hr : Room (k + 1) X.A) (hb : Binds X.K fd ps [])
    (ha : Ev X B a S (.fr (.obj c fs)) S1) (hs : ∀ Kc : Ce → List (Nat × LO) → Prop, (∀ L', Kc (.fr d) L') → sp [.fr (.obj c fs)] [] Kc) (h1 : Sub S.L S1.L := by exact Sub.refl) (hab : attributeBase a f X.env (eval a X.env) = eval a X.env := by rfl) : Ev X B (.Attribute a f pos) S (.fr d) S1 :=
  fun F0 α H σ Q R k => wE.of (pe_prop pe_w hc hp F hr hb .nil pass0 hab) (ha F0 α H σ _ R fun F1 α1 v1 H1 R1 st1 r1 => by
    have r := r1
    cases (show Rep X.K X.mg F1 (.obj c fs) v1 from r1) with
    | obj m e1 e2 rf =>
      rw [m] at hm; cases hm
      exact ⟨_, _, _, rfl, R1.sub _ _ e1, F1, α1, [], _, fun _ => False, R1.call0 (ds := [.obj c fs]) (.cons r .nil), hs _ fun L' F' α' v H' ρ' σ' R' r' => k F' α1 v H' (R1.back0 R') (st1.trans ⟨R'.bF, fun _ _ => rfl⟩ h1) r'⟩)
/-- o.m(e, ..) -/
theorem ev_meth {pl : Sem Bool} (hm : X.mg c = some (.ref C)) (hc : Cls X.K C) (hme : Meth X.K C m g) (hnl : fs.lookup m = none) (F : FnOk X.prog X.w X.K X.mg X.base CX0 k g fd ps (SpOf X.K X.mg sp)) (hr : Room k X.A) (hb : Binds X.K fd ps [])
    (ho : Ev X B o S (.fr (.obj c fs)) S1) (ha : Ea X B (e :: es) S1 (ds.map Ce.fr) S2) (hs : ∀ Kc : Ce → List (Nat × LO) → Prop, (∀ L', Kc (.fr d) L') → sp (.fr (.obj c fs) :: ds.map Ce.fr) [] Kc) (h1 : Sub S.L S1.L := by exact Sub.refl) (h2 : Sub S1.L S2.L := by exact Sub.refl)
    (hst : starEach (e :: es) X.env = (false, eval e X.env) :: starEach es X.env := by rfl) (hpl : (backTo pos (starEach es X.env)).any (·.1) = false := by rfl)
    (ht : eval (.Call (.Attribute o m apos) (e :: es) [] pos) X.env = (do
      let ov ← eval o X.env
      standAt apos.atName
      let (f, first) ← holding [ov] (getMethod ov m pl)
      callWith pos f first (backTo pos (starEach (e :: es) X.env)) (backToKw pos (keywordEach [] X.env))) := by rfl) : Ev X B (.Call (.Attribute o m apos) (e :: es) [] pos) S (.fr d) S2 :=
  fun F0 α H σ Q R k => wE.of (pe_meth pe_w hc hme F hr hb .nil pass0 pa_w hst hpl ht) (ho F0 α H σ _ R fun F1 α1 v1 H1 R1 st1 r1 => by
    have r := r1
    cases (show Rep X.K X.mg F1 (.obj c fs) v1 from r1) with
    | obj m e1 e2 rf =>
      rw [m] at hm; cases hm
      refine ⟨_, _, _, rfl, R1.sub _ _ e1, rf.nolook hnl, ha F1 α1 H1 σ _ R1 fun F2 α2 vs H2 R2 st2 r2 => ?_⟩
      have rr := CRels.fr r2
      rw [List.append_nil]
      exact ⟨F2, α2, [], _, fun _ => False, R2.call0 (ds := .obj c fs :: ds) (.cons (Rep.mono st2.fro r) rr), hs _ fun L' F' α' v H' ρ' σ' R' r' => k F' α2 v H' (R2.back0 R') ((st1.trans st2 h1).trans ⟨R'.bF, fun _ _ => rfl⟩ fun n h => h2 n (h1 n h)) r'⟩)
theorem ev_meth0 {pl : Sem Bool} (hm : X.mg c = some (.ref C)) (hc : Cls X.K C) (hme : Meth X.K C m g) (hnl : fs.lookup m = none) (F : FnOk X.prog X.w X.K X.mg X.base CX0 k g fd ps (SpOf X.K X.mg sp)) (hr : Room k X.A) (hb : Binds X.K fd ps [])
    (ho : Ev X B o S (.fr (.obj c fs)) S1) (hs : ∀ Kc : Ce → List (Nat × LO) → Prop, (∀ L', Kc (.fr d) L') → sp [.fr (.obj c fs)] [] Kc) (h1 : Sub S.L S1.L := by exact Sub.refl)
    (ht : eval (.Call (.Attribute o m apos) [] [] pos) X.env = (do
      let ov ← eval o X.env
      standAt apos.atName
      let (f, first) ← holding [ov] (getMethod ov m pl)
      callWith pos f first (backTo pos (starEach [] X.env)) (backToKw pos (keywordEach [] X.env))) := by rfl) : Ev X B (.Call (.Attribute o m apos) [] [] pos) S (.fr d) S1 :=
  fun F0 α H σ Q R k => wE.of (pe_meth0 pe_w hc hme F hr hb .nil pass0 ht) (ho F0 α H σ _ R fun F1 α1 v1 H1 R1 st1 r1 => by
    have r := r1
    cases (show Rep X.K X.mg F1 (.obj c fs) v1 from r1) with
    | obj m e1 e2 rf =>
      rw [m] at hm; cases hm
      exact ⟨_, _, _, rfl, R1.sub _ _ e1, rf.nolook hnl, F1, α1, [], _, fun _ => False, R1.call0 (ds := [.obj c fs]) (.cons r .nil), hs _ fun L' F' α' v H' ρ' σ' R' r' => k F' α1 v H' (R1.back0 R') (st1.trans ⟨R'.bF, fun _ _ => rfl⟩ h1) r'⟩)
/-- C(e, ..) -/
theorem ev_make (hm : X.mg c = some (.ref C)) (M : Mk X.K C g) (F : FnOk X.prog X.w X.K X.mg X.base CX0 k g fd ps (SpOf X.K X.mg sp)) (hr : Room (k + 1) X.A) (hb : Binds X.K fd ps []) (ha : Ea X B (e :: es) S (ds.map Ce.fr) S1)
    (hs : ∀ Kc : Ce → List (Nat × LO) → Prop, Kc (.fr .non) [(0, .ins c (fs.map fun p => (p.1, Ce.fr p.2)))] → sp (.ad 0 :: ds.map Ce.fr) [(0, .ins c [])] Kc) (hg : Gl X c) (h1 : Sub S.L S1.L := by exact Sub.refl) (hdb : (c == ("__debug__" : Str)) = false := by decide)
    (he : starEach (e :: es) X.env = (false, eval e X.env) :: starEach es X.env := by rfl) (hpl : (backTo pos (starEach es X.env)).any (·.1) = false := by rfl) : Ev X B (.Call (.Name c p) (e :: es) [] pos) S (.fr (.obj c fs)) S1 :=
  fun F0 α H σ Q R k => wE.of (pe_make M F hr hg hm hb .nil pass0 pa_w hdb he hpl) (ha F0 α H σ _ R fun F1 α1 vs H1 R1 st1 r1 y dy hy hdy hne => by
    rw [List.append_nil]
    exact init_call R1 hy hdy hne hm (CRels.fr r1) hs fun F' H' R' st' r' => k F' α1 _ H' R' (st1.trans ⟨st', fun _ _ => rfl⟩ h1) r')
/-- the fields behind self.f = .. -/
def putC (f : Str) (c : Ce) : List (Str × Ce) → List (Str × Ce)
  | [] => [(f, c)]
  | (g, x) :: r => if g = f then (g, c) :: r else (g, x) :: putC f c r
theorem CRelF.put {K : Frag} {mg : Mg} {F : Hp} {α : Nat → Addr} {L : List (Nat × LO)} {f : Str} {c : Ce} {v : V} (h : CRel K mg F α L c v) : ∀ {fs : List (Str × Ce)} {vs : List (Str × V)}, CRelF K mg F α L fs vs → CRelF K mg F α L (putC f c fs) (putF f v vs)
  | [], _, .nil => .cons h .nil
  | (g, _) :: _, _, .cons r rs => by
    unfold putC putF
    by_cases q : g = f
    · rw [if_pos q, if_pos q]; exact .cons h rs
    · rw [if_neg q, if_neg q]; exact .cons r (rs.put h)
theorem CRelF.len {K : Frag} {mg : Mg} {F : Hp} {α : Nat → Addr} {L : List (Nat × LO)} : ∀ {fs : List (Str × Ce)} {vs : List (Str × V)}, CRelF K mg F α L fs vs → fs.length = vs.length
  | [], _, .nil => rfl
  | _ :: _, _, .cons r rs => congrArg (· + 1) rs.len
/-- self.f = e -/
theorem ex_fld {K : Out → Prop} {n : Nat} {fsC : List (Str × Ce)} {d : D} (hm : X.mg c = some (.ref C)) (hc : Cls X.K C) (hn : NoAttr X.K C f) (he : Ev X B e S (.fr d) S1) (ho : Ev X B o S1 (.ad n) S1) (hl : getL n S1.L = some (.ins c fsC)) (h100 : fsC.length < 1000)
    (k : K (.nx ⟨S1.ρ, setL n (.ins c (putC f (.fr d) fsC)) S1.L⟩)) (hs : swapsWith e (some (.Attribute o f p)) pos.line X.env = pure false := by rfl) : Ex X B (.Assign [.Attribute o f p] e pos) S K :=
  fun F α H σ D R oo => wS.of (ps_fld pe_w pe_w hs) (he F α H σ _ R fun F1 α1 v1 H1 R1 st1 r1 => ho F1 α1 H1 σ _ R1 fun F2 α2 v2 H2 R2 st2 r2 => by
    obtain ⟨hn1, rfl⟩ := r2
    have hmm := getL_mem hl
    obtain ⟨f0, f1, C', dx, vs, m1, e1, e2, e3, e4, rf⟩ := R2.live n _ hmm
    rw [m1] at hm; cases hm
    refine ⟨_, _, dx, vs, rfl, e1, hc, hn, by rw [← rf.len]; exact h100, ?_⟩
    have hne : dx ≠ α2 n := fun q => by rw [q, e1] at e2; cases e2
    have Rp := R2.put (n := n) (u := .ins c (putC f (.fr d) fsC)) (o' := .ins _ dx (putF f v1 vs)) hmm ⟨_, dx, _, m1, upd_same, by rw [upd_ne hne]; exact e2, e3, e4, (rf.put (c := .fr d) (Rep.mono st2.fro r1)).step Stp.refl fun m h => by rw [names_setL]; exact h⟩
    exact oo.nx _ F2 α2 _ σ k Rp (st1.fro.trans st2.fro))
end
end Nz

namespace Nz
open PySem PySem.Spec PyProof.Rows L2
open AutoSeq1 (wpAny_loadPart')
open Sem (wp)
/-! enumerate(tuple) -/
def tuI (t : Addr) : Obj := { cls := .type "tuple_iterator", data := .fields #[.ref t, .int 0 0] }
def enO (it : Addr) : Obj := { cls := .type "enumerate", data := .fields #[.none, .bool false, .ref it, rawInt 0, .none, .none] }
theorem enumT_new (t : Addr) (its : Array Value) (k : Nat) (dd : Option Addr) (ss : Array (Option Value)) :
    Meets (Builtin.«enumerate.__new__» ⟨[.type "enumerate", .ref t], []⟩) (fun _ R z => z.heap.get? t = some { cls := .type "tuple", dict := dd, data := .seq its k, slots := ss } ∧
      R (.ok (.ret (.ref (z.heap.push (tuI t)).objs.size))) { z with heap := (z.heap.push (tuI t)).push (enO z.heap.objs.size) }) := .of_wp fun P w A R z hz => by
  obtain ⟨q1, q2, q3, q4, q5⟩ := z
  obtain ⟨e, hR⟩ := hz
  have sub := sub_enumerate
  have T : Heap.IsTuple (Shared.heap ⟨q1, q2, q3, q4, q5⟩) t its := ⟨_, e, rfl, k, rfl⟩
  wp_walk using wpAny_loadPart' e
  refine wpAny_stack_any fun _ => wpAny_pure ?_
  split
  · rename_i y _ _ _ _ _
    cases (y == Value.type "enumerate") <;> (wp_walk using wpAny_loadPart' e, wpAny_pyIter_tuple T; exact ⟨_, rfl, hR⟩)
  · wp_walk using wpAny_loadPart' e, wpAny_pyIter_tuple T; exact ⟨_, rfl, hR⟩
theorem enumT_call {P : Program} {w : World} {A : Around} {E : Value → Shared → Prop} {z : Shared} {t : Addr} {its : Array Value} {Q : Value → Shared → Prop} (T : z.heap.IsTuple t its)
    (k : ∀ h', IsEnum h' (z.heap.objs.size + 1) z.heap.objs.size 0 .none → h'.IsTupleIter z.heap.objs.size t 0 → (∀ b o, z.heap.get? b = some o → h'.get? b = some o) → Q (.ref (z.heap.objs.size + 1)) { z with heap := h' }) :
    wpAny (model P w) A (call (.type "enumerate") [.ref t]) Q E z := by
  obtain ⟨⟨oc, od, dt, ss⟩, e, e1, kk, e2⟩ := T
  simp only at e1 e2
  subst e1 e2
  refine callType_new F.called_enumerate (by decide) (F.typeCall_enumerate_1 _) (F.newCall_enumerate_1 _) (fun o => F.args_object_init_2 o _) F.entry_enumerate_new (enumT_new t its kk od ss) ⟨e, ?_⟩
  have sz : (z.heap.push (tuI t)).objs.size = z.heap.objs.size + 1 := Heap.size_push ..
  show _ ∧ _
  rw [sz]
  have en : IsEnum ((z.heap.push (tuI t)).push (enO z.heap.objs.size)) (z.heap.objs.size + 1) z.heap.objs.size 0 .none := by
    have hh := Heap.get?_push_size (z.heap.push (tuI t)) (o := enO z.heap.objs.size) rfl
    rw [sz] at hh; exact hh
  exact ⟨⟨_, en, rfl⟩, k _ en ⟨_, Heap.get?_push_of_some _ (Heap.get?_push_size _ rfl), rfl, rfl⟩ fun b o x => Heap.get?_push_of_some _ (Heap.get?_push_of_some _ x)⟩
theorem enumT_end {P : Program} {w : World} {A : Around} {E : Value → Shared → Prop} {z : Shared} {e it t : Addr} {i : Nat} {its : Array Value} {old : Value} {Q : Option Value → Shared → Prop} (hh : A.handled = none)
    (en : IsEnum z.heap e it i old) (ti : z.heap.IsTupleIter it t i) (T : z.heap.IsTuple t its) (hx : its[i]? = none) (k : ∀ h', Heap.ExtBut it z.heap h' → Q none { z with heap := h' }) : wpAny (model P w) A (pyNext (.ref e)) Q E z := by
  have ty : z.TypeIs (.ref e) "enumerate" := ⟨_, en, rfl⟩
  unfold pyNext
  refine wpAny_bind (wpAny_attempt (wpAny_callSpecial?_slot (name := Str.ofString "__next__") ty F.slot_enumerate_next (wpAny_call_entry F.slot_enumerate_next ty F.entry_enumerate_next ?_ (F.args_enumerate_next_1 _))))
  show wpAny _ _ (field (.ref e) 2 >>= _) _ _ _
  refine wpAny_bind (wpAny_field en rfl (x := .ref it) rfl (wpAny_bind (wpAny_nextOf_tuple_end hh ti T hx fun h' x q1 q2 => ?_)))
  obtain ⟨o, q3, q4⟩ := q2
  exact wpAny_bind (wpAny_isInstance (T := "StopIteration") (b := true) ⟨o, q3, q4⟩ isSubtype_stop (wpAny_pure (k _ q1)))
/-- the tuple at a, each item in a new pair -/
def Iet (K : Frag) (a : Addr) : It :=
  ⟨fun i H => ∃ (xs : List V) (x : V), SqT K H a xs ∧ xs[i]? = some x, fun i H v H' => ∃ T x, v = .ref T ∧ H T = none ∧ H' = upd H T (.tup [.int (i : Nat), x]) ∧ ∀ xs, SqT K H a xs → xs[i]? = some x, fun i H => ∃ xs : List V, SqT K H a xs ∧ xs.length ≤ i⟩
theorem turn_enumT {P : Program} {w : World} {K : Frag} {elts : List Expr} {kk : Nat} {tpos : Pos} (a e it : Addr) :
    Turn P w K (.Tuple elts kk tpos) (Iet K a) [e, it] e (fun i h => (∃ old, IsEnum h e it ((i : Nat) : Int) old) ∧ h.IsTupleIter it a i ∧ e ≠ it ∧ a ≠ it ∧ a ≠ e) where
  mem := List.mem_cons_self
  obj := fun i h st b hb => by
    obtain ⟨⟨old, he⟩, ⟨o, ho, _, hd⟩, _⟩ := st
    rcases (show b = e ∨ b = it by simpa using hb) with rfl | rfl
    · exact ⟨_, he, fun v q => nomatch q⟩
    · exact ⟨o, ho, fun v q => by rw [hd] at q; cases q⟩
  keep := fun i h h' st k => let ⟨⟨old, he⟩, hi, n1, n2⟩ := st; ⟨⟨old, k e List.mem_cons_self _ he⟩, hi.at fun o q => k it (by simp) o q, n1, n2⟩
  item := by
    intro X p1 p2 p3 hc i pins s σ H E I hf st hg
    subst p1 p2 p3
    obtain ⟨⟨old, he⟩, hit, hne, hat, hae⟩ := st
    obtain ⟨xs, x, hq, hx⟩ := hg
    obtain ⟨its, rv, p, hz⟩ := I.tuple hq
    obtain ⟨u, hu, ru⟩ := rv.get hx
    have hel : e < s.heap.objs.size := Heap.lt_size he
    have hil : it < s.heap.objs.size := by obtain ⟨_, q, _⟩ := hit; exact Heap.lt_size q
    have hlt : i < its.toArray.size := by have := (List.getElem?_eq_some_iff.mp hu).1; simpa using this
    have hfr := hf
    refine wpAny_pyNext_enum_itemD (Draws.tuple (A := X.A.in1) (show X.A.in1.handled = none from I.ok.hd hc) it a hat its.toArray) he ⟨hit, p⟩ hlt hne (by simp [hne, Ne.symm hae]) fun y h' tk hP ho hit' hT hsz hk => ?_
    have hy : y = u := by
      have : its.toArray[i]? = some y := hP
      rw [List.getElem?_toArray, hu] at this; exact (Option.some.inj this).symm
    subst hy
    refine ⟨_, rfl, wpAny_letOwnedTupleGo_enum (s := { s with heap := h', toks := tk + 1 }) ho fun h2 he2 sb => ?_⟩
    have hT2 : h2.get? s.heap.objs.size = some { cls := .type "tuple", data := .seq #[.int i tk, y] } := (sb.2 _ (Nat.ne_of_gt hel)).trans hT
    have new : ObjOk X.prog X.w (upd H s.heap.objs.size (.tup [.int (i : Nat), x])) h2 s.heap.objs.size (.tup [.int (i : Nat), x]) :=
      ⟨show 2 ≤ sizeLine by decide, [.int i tk, y], .cons ⟨_, rfl⟩ (.cons ru .nil), ⟨_, hT2, rfl, _, rfl⟩⟩
    have I1 : Inv X pins σ (upd H s.heap.objs.size (.tup [.int (i : Nat), x])) { s with heap := h2, toks := tk + 1 } :=
      I.turnedNew (ch := [e, it]) (fun b ob hb q => (sb.2 b fun z => hb (by rw [z]; exact List.mem_cons_self)).trans (hk b ob (fun z => hb (by rw [z]; exact List.mem_cons_self)) (fun z => hb (by simp [z])) q)) hf (Nat.le_refl _) new
    refine ⟨.ref s.heap.objs.size, _, I1, rfl, ⟨_, x, rfl, I.hok.fresh (Nat.le_refl _), rfl, fun ys hy => by rw [I.tuple_inj hy hq]; exact hx⟩, ⟨⟨y, ?_⟩, hit'.1.at fun o q => (sb.2 it (Ne.symm hne)).trans q, hne, hat, hae⟩, fun b hb => ?_⟩
    · rw [show ((i + 1 : Nat) : Int) = (i : Int) + 1 from rfl]; exact he2
    · have hb2 : b < s.heap.objs.size := by
        rcases (show b = e ∨ b = it by simpa using hb) with rfl | rfl
        · exact hel
        · exact hil
      rw [upd_ne (Nat.ne_of_lt hb2)]; exact (hf b hb).1
  done := by
    intro X p1 p2 p3 hc i pins s σ H E I hf st hg
    subst p1 p2 p3
    obtain ⟨⟨old, he⟩, hit, hne, hat, hae⟩ := st
    obtain ⟨xs, hq, hx⟩ := hg
    obtain ⟨its, rv, p, hz⟩ := I.tuple hq
    obtain ⟨f0, f1, f2, f3, f4, f5⟩ := hf it (by simp)
    have hl := rv.length
    exact enumT_end (I.ok.hd hc) he hit p (by rw [List.getElem?_toArray]; exact List.getElem?_eq_none (by omega)) fun h' eb => ⟨rfl, I.turned (t' := s.toks) (fun b o hb q => eb b o hb q) f0 f1 f3 f4 f5⟩
  self := fun A i s Q E st h => wpAny_pyIter_enum st.1.choose_spec h
def iEnumT (K : Frag) (ta : TA) : TI := fun σ H R => ta σ H fun vs H1 => ∃ a xs, vs = [.ref a] ∧ SqT K H1 a xs ∧ R (Iet K a) H1
theorem pi_enumT {X : Cx} {e : Expr} {ta : TA} {p pos tpos : Pos} {elts : List Expr} {kk : Nat} (hg : Gl X "enumerate") (hm : X.mg "enumerate" = none) (ha : PA X [e] ta) (hs : starEach [e] X.env = [(false, eval e X.env)] := by rfl) :
    PI X (.Tuple elts kk tpos) (.Call (.Name "enumerate" p) [e] [] pos) (iEnumT X.K ta) := by
  refine ⟨fun pins s σ H R I h => Call_ (ld_blt I hg hm boot_enumerate (PyProof.Rows.callWith_type1 (thn (ha.run pos pins s σ H _ I h) fun us s1 ⟨vs, H1, I1, r1, q1⟩ => ?_) hs rfl))⟩
  obtain ⟨a, xs, rfl, hq, q⟩ := q1
  cases r1 with
  | cons r rr =>
    cases rr
    cases r
    obtain ⟨its, rv, p', hz⟩ := I1.tuple hq
    have hal : a < s1.heap.objs.size := by obtain ⟨_, q, _⟩ := p'; exact Heap.lt_size q
    refine enumT_call p' fun h' he hit hk => wpAny_pyIter_enum he ?_
    have I2 : Inv X pins σ H1 { s1 with heap := h' } := I1.kept (t' := s1.toks) hk
    refine ⟨s1.heap.objs.size + 1, [s1.heap.objs.size + 1, s1.heap.objs.size], _, _, H1, rfl, I2, turn_enumT a (s1.heap.objs.size + 1) s1.heap.objs.size, ⟨⟨.none, he⟩, hit, Nat.succ_ne_self _, Nat.ne_of_lt hal, Nat.ne_of_lt (Nat.lt_succ_of_lt hal)⟩, fun b hb => ?_, q⟩
    have hle : s1.heap.objs.size ≤ b := by
      rcases (show b = s1.heap.objs.size + 1 ∨ b = s1.heap.objs.size by simpa using hb) with rfl | rfl <;> omega
    exact I1.fpOk hle (I1.hok.fresh hle)
/-! what is walked -/
def enD : Nat → List D → List D
  | _, [] => []
  | k, d :: ds => .tup [.int (k : Nat), d] :: enD (k + 1) ds
theorem enD_at : ∀ {ds : List D} {k i : Nat} {d : D}, (enD k ds)[i]? = some d → ∃ e, ds[i]? = some e ∧ d = .tup [.int ((k + i : Nat) : Int), e]
  | [], _, _, _, h => by simp [enD] at h
  | e :: ds, k, 0, d, h => by simp [enD] at h; exact ⟨e, rfl, h.symm⟩
  | e :: ds, k, i + 1, d, h => by
    obtain ⟨e', h1, h2⟩ := enD_at (ds := ds) (k := k + 1) (i := i) (d := d) (by simpa [enD] using h)
    exact ⟨e', h1, by rw [h2, show k + 1 + i = k + (i + 1) by omega]⟩
theorem enD_length : ∀ {ds : List D} {k : Nat}, (enD k ds).length = ds.length
  | [], _ => rfl
  | _ :: ds, k => congrArg (· + 1) (enD_length (ds := ds) (k := k + 1))
section
variable {X : Cx} {B : Bd} {S S1 S2 S3 : Nz.S} {e : Expr} {elts : List Expr} {kk : Nat} {tpos pos p : Pos} {xs : List D} {tg : Expr}
theorem src_enumT (h : Ea X B [e] S [.fr (.tup xs)] S1) (hg : Gl X "enumerate") (hm : X.mg "enumerate" = none) (hs : starEach [e] X.env = [(false, eval e X.env)] := by rfl) : Src X B (.Tuple elts kk tpos) (.Call (.Name "enumerate" p) [e] [] pos) S (enD 0 xs) S1 :=
  fun F α H σ R RR k => wI.of (pi_enumT hg hm pa_w hs) (h F α H σ _ RR fun F1 α1 v1 H1 R1 st1 r1 => by
    have r := CRels.fr (ds := [.tup xs]) r1
    cases r with
    | cons q rr =>
      cases rr
      cases q with
      | tup h1 h2 =>
        rename_i a vs
        refine ⟨a, vs, rfl, R1.sub.seqT h1, k F1 α1 H1 _ R1 st1 ⟨fun B F' α H σ S i d R' hs hi => ?_, fun B F' α H σ S i R' hs hi => ⟨vs, R'.sub.seqT (hs.seqT h1), by rw [← h2.length, ← enD_length (ds := xs) (k := 0)]; exact hi⟩⟩⟩
        obtain ⟨e', hi', rfl⟩ := enD_at hi
        obtain ⟨v, hv, rv⟩ := h2.get hi'
        refine ⟨⟨vs, v, R'.sub.seqT (hs.seqT h1), hv⟩, fun x H' y => ?_⟩
        obtain ⟨T, z, rfl, hT, rfl, y⟩ := y
        have := y vs (R'.sub.seqT (hs.seqT h1))
        rw [hv] at this; cases this
        refine ⟨upd F' T (.tup [.int (i : Nat), v]), R'.allocF hT, same_upd (R'.fresh hT), .tup (SqT.of upd_same) (.cons ?_ (.cons ((rv.mono hs).mono (same_upd (R'.fresh hT))) .nil))⟩
        rw [Nat.zero_add]; exact .int _)
end
end Nz

namespace Nz
open PySem PySem.Spec PyProof.Rows L2
/-! len(set(xs)), xs a list of texts -/
def cntS (xs : List Str) : Nat → Nat
  | 0 => 0
  | i + 1 => if xs.getD i Str.empty ∈ xs.take i then cntS xs i else cntS xs i + 1
theorem cntS_le (xs : List Str) : ∀ i, cntS xs i ≤ i
  | 0 => Nat.le_refl _
  | i + 1 => by
    have := cntS_le xs i
    unfold cntS
    split <;> omega
theorem take_getD {xs : List Str} {i : Nat} (h : i < xs.length) : xs.take (i + 1) = xs.take i ++ [xs.getD i Str.empty] := by
  rw [List.take_succ, List.getElem?_eq_getElem h, List.getD_eq_getElem?_getD, List.getElem?_eq_getElem h]; rfl
theorem cntS_iff (xs : List Str) : ∀ i, i ≤ xs.length → (cntS xs i = i ↔ (xs.take i).Nodup)
  | 0, _ => by simp [cntS]
  | i + 1, h => by
    have ih := cntS_iff xs i (by omega)
    have hle := cntS_le xs i
    rw [take_getD h, List.nodup_append]
    unfold cntS
    by_cases hm : xs.getD i Str.empty ∈ xs.take i
    · rw [if_pos hm]
      refine ⟨fun e => by omega, fun e => ?_⟩
      exact absurd rfl (e.2.2 _ hm _ (List.mem_singleton.mpr rfl))
    · rw [if_neg hm]
      refine ⟨fun e => ⟨ih.mp (by omega), by simp, fun a ha b hb q => hm (by rw [List.mem_singleton.mp hb] at q; rw [← q]; exact ha)⟩, fun e => ?_⟩
      have := ih.mpr e.1
      omega
theorem cntS_nodup (xs : List Str) : cntS xs xs.length = xs.length ↔ xs.Nodup := by
  have := cntS_iff xs xs.length (Nat.le_refl _)
  rwa [List.take_length] at this
section
variable {P0 : Program} {w : World} {A : Around} {R : Result → Shared → Prop} {it : Addr} {fp wr : List Addr} {G : Array GenState → Array GenState → Prop} {n : Nat} {P : Nat → Value → Prop} {St : Nat → Shared → Prop}
theorem setS_loop (W : WalksS P0 w A.in1 it fp wr G n P St) (a : Addr) (ha : a ∉ fp) (xs : List Str) (hl : xs.length = n) (hn : n + 1 < scanBound) (hv : ∀ i v, P i v → ∃ t, v = .str (xs.getD i Str.empty) t) :
    ∀ (m i : Nat) (z : Shared), n - i = m → i ≤ n → St i z → z.heap.SetOf (PySem.strKind P0 w) a (fun y => decide (y ∈ xs.take i)) (cntS xs i) →
      (∀ z', Moved (a :: wr) G z z' → z'.heap.SetOf (PySem.strKind P0 w) a (fun y => decide (y ∈ xs.take n)) (cntS xs n) → R (.ok (.ret .none)) z') → codeAny (model P0 w) A (.builtin "set.update.loop" ⟨[.ref a, .ref it], []⟩) R z := by
  have hw : a ∉ wr := fun q => ha (W.sub _ q)
  have hs : ∀ b ∈ wr, b ∈ a :: wr := fun b q => List.mem_cons_of_mem _ q
  have same : ∀ {z z' : Shared} {S : Str → Bool} {c : Nat}, Moved wr G z z' → z.heap.SetOf (PySem.strKind P0 w) a S c → z'.heap.SetOf (PySem.strKind P0 w) a S c := fun mv q => by
    obtain ⟨o, es, ep, tb, ho, rest⟩ := q
    exact ⟨o, es, ep, tb, mv.heap a _ hw ho, rest⟩
  intro m
  induction m with
  | zero =>
    intro i z e1 e2 st S0 fin
    obtain rfl : i = n := by omega
    refine codeAny_builtin PyProof.Rows.F.entry_set_update_loop ?_
    rw [Around.under_plainId PyProof.Rows.F.plain_set_update_loop _]
    show wpAny _ A.in1 (pyNext (.ref it) >>= _) _ _ z
    exact wpAny_bind (W.done z _ _ st fun z' mv => wpAny_pure (fin z' (mv.mono hs) (same mv S0)))
  | succ m ih =>
    intro i z e1 e2 st S0 fin
    have e3 : i < n := by omega
    refine codeAny_builtin PyProof.Rows.F.entry_set_update_loop ?_
    rw [Around.under_plainId PyProof.Rows.F.plain_set_update_loop _]
    show wpAny _ A.in1 (pyNext (.ref it) >>= _) _ _ z
    refine wpAny_bind (W.item i z _ _ e3 st fun v z' hP st' mv => ?_)
    obtain ⟨t, rfl⟩ := hv i v hP
    have S1 := same mv S0
    show wpAny _ A.in1 (holding [Value.str (xs.getD i Str.empty) t] (setAdd a (.str (xs.getD i Str.empty) t)) >>= _) _ _ z'
    unfold setAdd
    refine wpAny_bind (wpAny_holding (wpAny_holding (wpAny_bind ((PySem.strKind P0 w).pyHash (k := xs.getD i Str.empty) (strKind_is _ _ _ _) ?_))))
    refine wpAny_setAddHashed_of (knd := PySem.strKind P0 w) (s := { z' with toks := z'.toks + 1 }) (strKind_is _ _ _ _) rfl S1 (by have := cntS_le xs i; omega) fun h2 sb S2 => ?_
    have S3 : h2.SetOf (PySem.strKind P0 w) a (fun y => decide (y ∈ xs.take (i + 1))) (cntS xs (i + 1)) := by
      refine SetOf_congr S2 (fun y => ?_) ?_
      · rw [take_getD (by omega)]
        by_cases q1 : y ∈ xs.take i
        · simp [q1]
        · by_cases q2 : y = xs.getD i Str.empty <;> simp [q1, q2]
      · show _ = if xs.getD i Str.empty ∈ xs.take i then cntS xs i else cntS xs i + 1
        by_cases q : xs.getD i Str.empty ∈ xs.take i <;> simp [q]
    have oth : ∀ b, b ≠ a → h2.get? b = z'.heap.get? b := fun b q => sb.2 b q
    refine wpAny_pure ⟨plainId_quiet PyProof.Rows.F.plain_set_update_loop _, ih (i + 1) _ (by omega) e3 (W.frame _ z' _ _ st' (Nat.le_succ _) fun b hb o e => by rw [oth b fun q => ha (q ▸ hb)]; exact e) S3 fun z2 mv2 S4 => ?_⟩
    exact fin z2 (Moved.trans W.gtrans ((mv.mono hs).then_heap (Nat.le_succ _) fun b o hb e => by rw [oth b fun q => hb (q ▸ List.mem_cons_self)]; exact e) mv2) S4
end
section
variable {P0 : Program} {w : World} {A : Around} {E : Value → Shared → Prop} {z : Shared}
def set0 (led : Bool) : Obj := { cls := .type "set", dict := none, data := .set #[] 0 (.fresh 0 0 led) }
set_option maxHeartbeats 3200000 in
theorem setS_call {a : Addr} {us : Array Value} {xs : List Str} {Q : Value → Shared → Prop} (hh : A.handled = none) (L : z.heap.IsList a us) (hi : PyProof.Rows.StrsAre us.toList xs) (hn : xs.length + 1 < scanBound)
    (k : ∀ (h' : Heap) (tk : Nat), h'.SetOf (PySem.strKind P0 w) z.heap.objs.size (fun y => decide (y ∈ xs)) (cntS xs xs.length) → (∀ b o, b < z.heap.objs.size → z.heap.get? b = some o → h'.get? b = some o) → Q (.ref z.heap.objs.size) { z with heap := h', toks := tk }) :
    wpAny (model P0 w) A (call (.type "set") [.ref a]) Q E z := by
  have m0 := PySem.F.called_set.mro
  obtain ⟨mc, mt, hmro⟩ := m0
  have hmade := PySem.F.called_set.made
  have hsub := PySem.F.called_set.sub
  refine wpAny_call (codeAny_of_tree ?_)
  show wpAny _ _ (callAny (.type "set") _) _ _ _
  refine wpAny_pure ⟨Code.quiet_builtin _ (by decide +kernel), codeAny_builtin PySem.F.entry_type_call ?_⟩
  rw [Around.under_plain (weight_type_call_type "set" [.ref a] []) rfl]
  have c1 := PySem.F.called_set.notType
  have c2 := PySem.F.called_set.canCreate
  have c3 := PySem.F.typeCall_set_1 (.ref a)
  repeat (any_goals (first | assumption | wp_step))
  refine codeAny_mono (code_set_new_1 (.ref a) (E := E) (Q₁ := fun o y => ∃ led : Bool, o = .ref z.heap.objs.size ∧ y = { z with heap := z.heap.push (set0 led) }) fun led => ⟨led, rfl, rfl⟩) fun r y hr => ?_
  cases r with
  | error e => exact hr
  | ok fl =>
    cases fl with
    | ret o =>
      obtain ⟨led, rfl, rfl⟩ := hr
      have g0 : (z.heap.push (set0 led)).get? z.heap.objs.size = some (set0 led) := Heap.get?_push_size _ rfl
      have t0 : Shared.TypeIs { z with heap := z.heap.push (set0 led) } (.ref z.heap.objs.size) "set" := ⟨_, g0, rfl⟩
      have l0 := PySem.F.called_set.init.lookup
      have b0 := PySem.F.called_set.init.bind (.ref z.heap.objs.size)
      repeat (any_goals (first | assumption | wp_step))
      refine codeAny_mono (codeAny_call_builtin (R := wants (fun r y => r = .none ∧ ∃ h' tk, y = { z with heap := h', toks := tk } ∧ h'.SetOf (PySem.strKind P0 w) z.heap.objs.size (fun y => decide (y ∈ xs)) (cntS xs xs.length) ∧
          (∀ b o, b < z.heap.objs.size → z.heap.get? b = some o → h'.get? b = some o)) E) PySem.F.called_set.init.plain PySem.F.entry_set_init (check_set_init_1 t0 ?_)) fun r2 y2 hr2 => ?_
      · obtain ⟨⟨oc, od, dt, ss⟩, e0, e1, kk, e2⟩ := L
        simp only at e1 e2
        subst e1 e2
        have e3 : (z.heap.push (set0 led)).get? a = some { cls := .type "list", dict := od, data := .seq us kk, slots := ss } := Heap.get?_push_of_some _ e0
        have s1 := PySem.F.sub_list_set
        have s2 := PySem.F.sub_list_frozenset
        have s3 : (Value.type "list" == Value.type "dict") = false := by decide
        have L1 : (z.heap.push (set0 led)).IsList a us := ⟨_, e3, rfl, kk, rfl⟩
        have hal : a < z.heap.objs.size := Heap.lt_size e0
        have h3 : A.in1.in1.in1.handled = none := by simp [hh]
        have sz : (z.heap.push (set0 led)).objs.size = z.heap.objs.size + 1 := Heap.size_push ..
        unfold Builtin.«set.__init__» noKeywords Builtin.Frozenset.updateFrom
        generalize hPI : pyIter = PI
        wp_walk
        subst hPI
        refine wpAny_pyIter_list L1 (wpAny_bind (wpAny_runValue ?_))
        have n1 : a ≠ (z.heap.push (set0 led)).objs.size := by rw [sz]; exact Nat.ne_of_lt (Nat.lt_succ_of_lt hal)
        have n2 : z.heap.objs.size ∉ [(z.heap.push (set0 led)).objs.size, a] := by
          rw [sz]
          intro q
          rcases List.mem_cons.mp q with q | q
          · exact absurd q (Nat.ne_of_lt (Nat.lt_succ_self _))
          · exact absurd (List.mem_singleton.mp q) (Nat.ne_of_gt hal)
        have hsz : xs.length = us.size := by rw [← StrsAre.len_eq hi, Array.length_toList]
        refine setS_loop ((Walks.list h3 _ a n1 us).toS) z.heap.objs.size n2 xs hsz (by rw [← hsz]; exact hn) (fun i v hv => SS.strs_at hi i v (by rw [Array.getElem?_toList]; exact hv)) (us.size - 0) 0 _ rfl (Nat.zero_le _) ⟨⟨_, Heap.get?_push_size _ rfl, rfl, rfl⟩, (L1.push _)⟩ ?_ ?_
        · have g1 : ((z.heap.push (set0 led)).push { cls := .type "list_iterator", data := .fields #[.ref a, .int 0 0] }).get? z.heap.objs.size = some (set0 led) := Heap.get?_push_of_some _ g0
          exact PyProof.Rows.SetOf_congr ((PyProof.Rows.setObjOf_fresh (knd := PySem.strKind P0 w) led).setOf g1 (by unfold scanBound; omega)) (fun _ => by simp) rfl
        · intro y' mv S'
          obtain ⟨h', g', d', tk', os'⟩ := y'
          obtain rfl : g' = z.gens := mv.gens
          obtain rfl : d' = z.drawn := mv.drawn
          obtain rfl : os' = z.os := mv.os
          show wpAny _ _ _ _ _ _
          refine wpAny_pure ?_
          show wpAny _ _ (ret Value.none) _ _ _
          rw [← hsz, List.take_length] at S'
          refine wpAny_pure ⟨rfl, h', tk', rfl, S', fun b o hb e => mv.heap b o (fun q => ?_) (Heap.get?_push_of_some _ (Heap.get?_push_of_some _ e))⟩
          rcases List.mem_cons.mp q with q | q
          · exact absurd q (Nat.ne_of_lt hb)
          · rw [List.mem_singleton.mp q, sz] at hb; exact absurd hb (by omega)
      · cases r2 with
        | error e => exact hr2
        | ok fl2 =>
          cases fl2 with
          | ret r =>
            obtain ⟨rfl, h', tk, rfl, S', k'⟩ := hr2
            repeat (any_goals (first | assumption | wp_step))
            exact k _ _ S' k'
          | _ => exact hr2.elim
    | _ => exact hr.elim
end
end Nz

namespace Nz
open PySem PySem.Spec PyProof.Rows L2
theorem Reps.strs_eq {K : Frag} {mg : Mg} {F : Hp} : ∀ {ns : List Str} {vs : List V}, Reps K mg F (ns.map D.str) vs → vs = ns.map V.str
  | [], _, .nil => rfl
  | _ :: _, _, .cons h r => by cases h; rw [Reps.strs_eq r]; rfl
section
variable {X : Cx} {B : Bd} {S S1 S2 S3 : Nz.S} {tg a b c e : Expr} {es elts : List Expr} {kk : Nat} {tpos pos p q p2 : Pos} {d : D} {ds : List D} {x : Str} {τ : Type} {enc : τ → D}
/-- len(set(e)) -/
theorem ev_lenSet {xs : List Str} (hc : X.calm = true) (hg : Gl X "len") (hm : X.mg "len" = none) (hg2 : Gl X "set") (hm2 : X.mg "set" = none) (hn : xs.length + 1 < scanBound) (ha : Ev X B a S (.fr (eL D.str xs)) S1)
    (na : starEach [a] X.env = (false, eval a X.env) :: starEach [] X.env := by rfl) : Ev X B (.Call (.Name "len" p) [.Call (.Name "set" p2) [a] [] q] [] pos) S (.fr (.int (cntS xs xs.length : Nat))) S1 := fun F α H σ Q R k pins s I => by
  refine Call_ (ld_blt I hg hm boot_len (PyProof.Rows.callWith_builtin1 (PyProof.Rows.args_cons (Call_ (ld_blt I hg2 hm2 boot_set (PyProof.Rows.callWith_type1 (PyProof.Rows.args_cons (thn (ha F α H σ (fun v H1 => ∃ F1 α1, RelX X B F1 α1 H1 σ S1 ∧ Stp F α S.L F1 α1 ∧ Rep X.K X.mg F1 (eL D.str xs) v) R
    (fun F1 α1 v1 H1 R1 st1 r1 => ⟨F1, α1, R1, st1, r1⟩) pins s I) fun v s1 ⟨y, H1, I1, rv, F1, α1, R1, st1, r1⟩ => PyProof.Rows.args_nil ?_) na) na rfl))) rfl) rfl rfl))
  cases r1 with
  | lst h1 h2 =>
    cases rv
    have hq := R1.sub.seq h1
    rw [Reps.strs_eq h2] at hq
    obtain ⟨its, r, pl, hz⟩ := I1.list hq
    refine setS_call (I1.ok.hd hc) pl.isList (by simpa using strsAre_of r) hn fun h' tk S' hk => PyProof.Rows.args_nil ?_
    obtain ⟨o, es', ep, t, ho, hex, hd, _, _, _, hf, hn'⟩ := S'
    have I2 : Inv X pins σ H1 { s1 with heap := h', toks := tk } := I1.kept fun b o e => hk b o (Heap.lt_size e) e
    have hle := cntS_le xs xs.length
    have hb : scanBound ≤ 2 ^ 62 := by unfold scanBound; decide
    exact call_len_set ho hex hd hf (by rw [hn'] <;> omega) ⟨.int (cntS xs xs.length : Nat), H1, I2.tok _, ⟨_, by rw [hn']⟩, k F1 α1 _ H1 R1 st1 (.int _)⟩
/-! a text, sign by sign -/
def chs (z : Str) : List Str := z.cps.toList.map fun c => ⟨#[c]⟩
theorem src_str {z : Str} (h : Ev X B e S (.fr (.str z)) S1) : Src X B tg e S ((chs z).map D.str) S1 := fun F α H σ R RR k => wI.of (pi_str pe_w) (h F α H σ _ RR fun F1 α1 v1 H1 R1 st1 r1 => by
  cases (show Rep X.K X.mg F1 (.str z) v1 from r1) with
  | str =>
    have hlen : ((chs z).map D.str).length = z.cps.size := by simp [chs]
    refine ⟨z, rfl, k F1 α1 H1 _ R1 st1 ⟨fun B F' α H σ S i d R' hs hi => ?_, fun B F' α H σ S i R' hs hi => by rw [hlen] at hi; exact hi⟩⟩
    have hi2 := (List.getElem?_eq_some_iff.mp hi).1
    rw [hlen] at hi2
    refine ⟨hi2, fun x H' y => ?_⟩
    obtain ⟨rfl, c, hc, rfl⟩ := y
    refine ⟨F', R', Same.refl _, ?_⟩
    have e1 : ((chs z).map D.str)[i]? = some (.str ⟨#[c]⟩) := by
      rw [List.getElem?_map]
      unfold chs
      rw [List.getElem?_map, Array.getElem?_toList, hc]; rfl
    rw [e1] at hi
    cases hi
    exact .str _)
/-! a text in a text -/
def inS (i j : Str) : Bool := !(Builtin.Str.occurrences j i 0 j.length 1).isEmpty
theorem o_inS {i j : Str} : Op2 X (compareOp .In) (.str i) (.str j) (.bl (inS i j)) :=
  .pure (v := .bl (inS i j)) op_in_str (fun _ => .bl _) fun F H Q x y _ rx ry q => by cases rx; cases ry; exact ⟨i, j, rfl, rfl, q⟩
theorem o_ninS {i j : Str} : Op2 X (compareOp .NotIn) (.str i) (.str j) (.bl (!inS i j)) :=
  .pure (v := .bl (!inS i j)) op_notIn_str (fun _ => .bl _) fun F H Q x y _ rx ry q => by cases rx; cases ry; exact ⟨i, j, rfl, rfl, q⟩
/-! enumerate, typed -/
def enL : Nat → List τ → List (Int × τ)
  | _, [] => []
  | k, x :: xs => ((k : Int), x) :: enL (k + 1) xs
theorem enD_map {xs : List τ} : ∀ {k : Nat}, enD k (xs.map enc) = (enL k xs).map (eT2 D.int enc) := by
  induction xs with
  | nil => intro k; rfl
  | cons x r ih => intro k; show _ :: _ = _ :: _; rw [ih]
theorem src_enumU {xs : List τ} (h : Ea X B [e] S [.fr (eU enc xs)] S1) (hg : Gl X "enumerate") (hm : X.mg "enumerate" = none) (hs : starEach [e] X.env = [(false, eval e X.env)] := by rfl) :
    Src X B (.Tuple elts kk tpos) (.Call (.Name "enumerate" p) [e] [] pos) S ((enL 0 xs).map (eT2 D.int enc)) S1 := by
  rw [← enD_map]; exact src_enumT h hg hm hs
theorem src_enum {xs : List D} (h : Ea X B [e] S [.fr (.lst xs)] S1) (hg : Gl X "enumerate") (hm : X.mg "enumerate" = none) (hs : starEach [e] X.env = [(false, eval e X.env)] := by rfl) : Src X B (.Tuple elts kk tpos) (.Call (.Name "enumerate" p) [e] [] pos) S (enD 0 xs) S1 :=
  fun F α H σ R RR k => wI.of (pi_enum hg hm pa_w hs) (h F α H σ _ RR fun F1 α1 v1 H1 R1 st1 r1 => by
    have r := CRels.fr (ds := [.lst xs]) r1
    cases r with
    | cons q rr =>
      cases rr
      cases q with
      | lst h1 h2 =>
        rename_i a vs
        refine ⟨a, vs, rfl, R1.sub.seq h1, k F1 α1 H1 _ R1 st1 ⟨fun B F' α H σ S i d R' hs hi => ?_, fun B F' α H σ S i R' hs hi => ⟨vs, R'.sub.seq (hs.seq h1), by rw [← h2.length, ← enD_length (ds := xs) (k := 0)]; exact hi⟩⟩⟩
        obtain ⟨e', hi', rfl⟩ := enD_at hi
        obtain ⟨v, hv, rv⟩ := h2.get hi'
        refine ⟨⟨vs, v, R'.sub.seq (hs.seq h1), hv⟩, fun x H' y => ?_⟩
        obtain ⟨T, z, rfl, hT, rfl, y⟩ := y
        have := y vs (R'.sub.seq (hs.seq h1))
        rw [hv] at this; cases this
        refine ⟨upd F' T (.tup [.int (i : Nat), v]), R'.allocF hT, same_upd (R'.fresh hT), .tup (SqT.of upd_same) (.cons ?_ (.cons ((rv.mono hs).mono (same_upd (R'.fresh hT))) .nil))⟩
        rw [Nat.zero_add]; exact .int _)
theorem src_enumL {xs : List τ} (h : Ea X B [e] S [.fr (eL enc xs)] S1) (hg : Gl X "enumerate") (hm : X.mg "enumerate" = none) (hs : starEach [e] X.env = [(false, eval e X.env)] := by rfl) :
    Src X B (.Tuple elts kk tpos) (.Call (.Name "enumerate" p) [e] [] pos) S ((enL 0 xs).map (eT2 D.int enc)) S1 := by
  rw [← enD_map]; exact src_enum h hg hm hs
end
end Nz

namespace Nz
open PySem PySem.Spec PyProof.Rows L2
/-! keywords -/
def wK (X : Cx) (kws : List Keyword) (σ : L2.St) (H : Hp) (Q : List V → Hp → Prop) : Prop :=
  ∀ pos pins s, Inv X pins σ H s → wpAny (model X.prog X.w) X.A (evalAll ((backToKw pos (keywordEach kws X.env)).map (·.2))) (AP X pins σ Q) X.xe s
theorem pk_w {X : Cx} {kws : List Keyword} : PK X kws (wK X kws) := ⟨fun pos pins s σ H Q I h => h pos pins s I⟩
theorem wK.of {X : Cx} {kws : List Keyword} {t : TA} (h : PK X kws t) {σ : L2.St} {H : Hp} {Q : List V → Hp → Prop} (q : t σ H Q) : wK X kws σ H Q := fun pos pins s I => h.run pos pins s σ H Q I q
def Ek (X : Cx) (B : Bd) (kws : List Keyword) (S : S) (ds : List D) (S' : Nz.S) : Prop :=
  ∀ F α H σ Q, RelX X B F α H σ S → (∀ F' α' vs H', RelX X B F' α' H' σ S' → Stp F α S.L F' α' → Reps X.K X.mg F' ds vs → Q vs H') → wK X kws σ H Q
section
variable {X : Cx} {B : Bd} {S S1 S2 S3 : Nz.S} {a e : Expr} {es : List Expr} {kws : List Keyword} {pos p kpos : Pos} {d : D} {ds es' : List D} {c nm : Str} {fs : List (Str × D)} {C g : Addr} {fd : FuncData} {ps ks : List Str} {k n : Nat} {sp : SpN}
theorem ek_nil : Ek X B [] S [] S := fun F α H σ Q R k => wK.of pk_nil (k F α [] H R Stp.refl .nil)
theorem ek_cons (ha : Ev X B e S (.fr d) S1) (hr : Ek X B kws S1 ds S2) (h1 : Sub S.L S1.L := by exact Sub.refl) : Ek X B (⟨nm, e, kpos⟩ :: kws) S (d :: ds) S2 := fun F α H σ Q R k => wK.of (pk_cons pe_w pk_w) (ha F α H σ _ R fun F1 α1 v1 H1 R1 st1 r1 =>
  hr F1 α1 H1 σ _ R1 fun F2 α2 vs H2 R2 st2 r2 => k F2 α2 _ H2 R2 (st1.trans st2 h1) (.cons (Rep.mono st2.fro r1) r2))
/-- every parameter given: n values, then keywords by name in the def's order -/
theorem kbn_all {K : Frag} (h : ∀ us ws : List Value, us.length = n → ws.length = ks.length → bindArgs fd ⟨us, ks.zip ws⟩ = pure (ps.zip (us ++ ws))) : KBn K fd ps n ks (fun us ws => us ++ ws) (fun vs zs => vs ++ zs) :=
  ⟨fun s us ws _ l1 l2 => .of_eq (h us ws l1 l2), fun r1 r2 => r1.append r2⟩
/-- C(e, .., k = v, ..) -/
theorem ev_makeK (hm : X.mg c = some (.ref C)) (M : Mk X.K C g) (F : FnOk X.prog X.w X.K X.mg X.base CX0 k g fd ps (SpOf X.K X.mg sp)) (hr : Room (k + 1) X.A) (hb : KBn X.K fd ps (n + 1) ks (fun us ws => us ++ ws) (fun vs zs => vs ++ zs)) (ha : Ea X B (e :: es) S (ds.map Ce.fr) S1) (hk : Ek X B kws S1 es' S2)
    (l1 : ds.length = n) (l2 : es'.length = ks.length)
    (hs : ∀ Kc : Ce → List (Nat × LO) → Prop, Kc (.fr .non) [(0, .ins c (fs.map fun p => (p.1, Ce.fr p.2)))] → sp (.ad 0 :: (ds ++ es').map Ce.fr) [(0, .ins c [])] Kc) (hg : Gl X c) (h1 : Sub S.L S1.L := by exact Sub.refl) (h2 : Sub S1.L S2.L := by exact Sub.refl) (hdb : (c == ("__debug__" : Str)) = false := by decide)
    (hall : (backToKw pos (keywordEach kws X.env)).all (·.1.isSome) = true := by rfl) (hks : (backToKw pos (keywordEach kws X.env)).filterMap (·.1) = ks := by rfl)
    (he : starEach (e :: es) X.env = (false, eval e X.env) :: starEach es X.env := by rfl) (hpl : ((backTo pos (starEach (e :: es) X.env)).any (·.1) || (backToKw pos (keywordEach kws X.env)).any (·.1.isNone)) = false := by rfl) : Ev X B (.Call (.Name c p) (e :: es) kws pos) S (.fr (.obj c fs)) S2 :=
  fun F0 α H σ Q R k => wE.of (pe_makeK M F hr hg hm hb pass0 pa_w pk_w hall hks hdb he hpl) (ha F0 α H σ _ R fun F1 α1 vs H1 R1 st1 r1 => hk F1 α1 H1 σ _ R1 fun F2 α2 zs H2 R2 st2 r2 => by
    have rr := Reps.append ((CRels.fr r1).mono st2.fro) r2
    have lv : vs.length = n := by rw [← (CRels.fr r1).length]; exact l1
    have lz : zs.length = ks.length := by rw [← r2.length]; exact l2
    exact ⟨lv, lz, fun y dy hy hdy hne => init_call R2 hy hdy hne hm rr hs fun F' H' R' st' r' => k F' α2 _ H' R' ((st1.trans st2 h1).trans ⟨st', fun _ _ => rfl⟩ fun n h => h2 n (h1 n h)) r'⟩)
end
end Nz

namespace Nz
open PySem PySem.Spec PyProof.Rows L2
/-! more of texts -/
section
variable {X : Cx} {B : Bd} {S S1 S2 S3 : Nz.S} {tg a b c e o : Expr} {pos apos p q p2 : Pos} {d : D} {ds : List D} {x : Str}
/-- the sign at a place -/
def chA (z : Str) (i : Int) : Str := ⟨#[z.cps.toList.getD i.toNat 0]⟩
theorem ev_ixS {z : Str} {i : Int} (ha : Ev X B a S (.fr (.str z)) S1) (hb : Ev X B b S1 (.fr (.int i)) S2) (hz : z.length ≤ sizeLine) (h0 : 0 ≤ i) (h1 : i < z.length) (hs : PlainIx b := by exact fun _ _ => rfl) (g1 : Sub S.L S1.L := by exact Sub.refl) (g2 : Sub S1.L S2.L := by exact Sub.refl) :
    Ev X B (.Subscript a b pos) S (.fr (.str (chA z i))) S2 :=
  fun F α H σ Q R k => wE.of (pe_ix ix_str pe_w pe_w hs) (ha F α H σ _ R fun F1 α1 v1 H1 R1 st1 r1 => hb F1 α1 H1 σ _ R1 fun F2 α2 v2 H2 R2 st2 r2 => by
    cases r1
    cases r2
    obtain ⟨n, rfl⟩ := Int.eq_ofNat_of_zero_le h0
    have hn : n < z.cps.toList.length := by rw [Array.length_toList]; have : z.length = z.cps.size := rfl; omega
    refine ⟨z, (n : Int), z.cps.toList.getD n 0, rfl, rfl, hz, atI_nat (by rw [List.getD_eq_getElem?_getD, List.getElem?_eq_getElem hn]; rfl), k F2 α2 _ H2 R2 (st1.trans st2 g1) (.str _)⟩)
/-- sep.join(list of texts) -/
theorem ev_join {z : Str} {ys : List Str} (ho : Ev X B o S (.fr (.str z)) S1) (ha : Ev X B e S1 (.fr (eL D.str ys)) S2) (hz : (ys.map (·.length)).sum + ys.length * z.length ≤ 16777216) (g1 : Sub S.L S1.L := by exact Sub.refl)
    (hs : starEach [e] X.env = [(false, eval e X.env)] := by rfl) (hbase : attributeBase o "join" X.env (eval o X.env) = eval o X.env := by rfl) (hline : (apos.endLine == pos.line) = true := by rfl) :
    Ev X B (.Call (.Attribute o "join" apos) [e] [] pos) S (.fr (.str (Txt.join z ys))) S2 :=
  fun F α H σ Q R k => wE.of (pe_join pe_w pe_w hs hbase hline) (ho F α H σ _ R fun F1 α1 v1 H1 R1 st1 r1 => by
    cases r1
    refine ⟨⟨z, rfl⟩, ha F1 α1 H1 σ _ R1 fun F2 α2 v2 H2 R2 st2 r2 => ?_⟩
    obtain ⟨l, us, rfl, hq, rs⟩ := R2.asL (c := .fr (.lst (ys.map D.str))) rfl r2
    rw [Reps.strs_eq rs] at hq
    exact ⟨z, l, ys, rfl, rfl, .inl hq, hz, k F2 α2 _ H2 R2 (st1.trans st2 g1) (.str _)⟩)
end
end Nz

namespace Nz
open PySem PySem.Spec PyProof.Rows L2
/-! a live list handed to a def, that leaves it live -/
section
variable {K : Frag} {mg : Mg} {B : Bd} {F F' : Hp} {α α' : Nat → Addr} {H H' : Hp} {σ σ' : L2.St} {S S' : Nz.S} {L L' : List (Nat × LO)} {a p : Addr}
theorem LAt.stepO {o : LO} (st : Stp F α L F' α') (hs : ∀ n, n ∈ names L → n ∈ names L') (hp : ∃ vs, H p = some (.lst vs)) (hH : ∀ b u, b ≠ p → H b = some u → H' b = some u) (hF : ∀ b u, F' b = some u → F b = some u ∨ H b = none) (ne : a ≠ p)
    (h : LAt K mg B F α L H a o) : LAt K mg B F' α' L' H' a o := by
  cases o with
  | fl ds => obtain ⟨vs, e, r⟩ := h; exact ⟨vs, hH _ _ ne e, r.mono st.fro⟩
  | cl cs => obtain ⟨vs, e, r⟩ := h; exact ⟨vs, hH _ _ ne e, r.step st hs⟩
  | ins c fs =>
    obtain ⟨C, dx, vs, m, e1, e2, e3, e4, r⟩ := h
    refine ⟨C, dx, vs, m, hH _ _ ne e1, hH _ _ (fun q => ?_) e2, ?_, e4, r.step st hs⟩
    · obtain ⟨us, hu⟩ := hp
      rw [q, hu] at e2; cases e2
    cases q : F' dx with
    | none => rfl
    | some u =>
      rcases hF _ _ q with z | z
      · rw [e3] at z; cases z
      · rw [e2] at z; cases z
  | dT kvs => obtain ⟨vs, e, r⟩ := h; exact ⟨vs, hH _ _ ne e, Paired.imp (fun _ _ z => ⟨z.1, z.2.mono st.fro⟩) r⟩
  | dK kvs => obtain ⟨vs, e, r⟩ := h; exact ⟨vs, hH _ _ ne e, r.step st hs⟩
/-- the live list m becomes the callee's 0 -/
theorem Rel.callL (R : Rel K mg B F α H σ S) {m : Nat} {ds : List D} (hm : (m, LO.fl ds) ∈ S.L) {cs : List Ce} {vs : List V} (r : SlR K mg F (fun _ => α m) [(0, .fl ds)] (cs.map some) (vs.map some)) :
    Rel K mg (bdOf F H (fun b => b = α m) (fun _ => α m) [(0, .fl ds)]) F (fun _ => α m) H (vs.map some) ⟨cs.map some, [(0, .fl ds)]⟩ := by
  obtain ⟨f0, f1, us, hu, ru⟩ := R.live m _ hm
  refine ⟨R.sub, Same.refl _, fun b o e => .inl e, fun b o e _ => e, by simp [names], fun a b h1 h2 _ => ?_, fun n o h => ?_, r, fun n a h hn => ?_⟩
  · simp only [names, List.map_cons, List.map_nil, List.mem_singleton] at h1 h2; rw [h1, h2]
  · simp only [List.mem_singleton, Prod.mk.injEq] at h
    obtain ⟨rfl, rfl⟩ := h
    exact ⟨f0, .inr rfl, us, hu, ru⟩
  · have h2 : (if n < 100 then some (α m) else none) = some a := h
    split at h2
    · cases h2; rfl
    · cases h2
theorem Rel.backL (R : Rel K mg B F α H σ S) {m : Nat} {ds ds' : List D} (hm : (m, LO.fl ds) ∈ S.L) (R' : Rel K mg (bdOf F H (fun b => b = α m) (fun _ => α m) L) F' α' H' σ' S') (h0 : (0, LO.fl ds') ∈ S'.L) :
    Rel K mg B F' α H' σ ⟨S.ρ, setL m (.fl ds') S.L⟩ ∧ Same F F' := by
  have hfix : α' 0 = α m := R'.fix 0 (α m) rfl (mem_names h0)
  obtain ⟨g0, g1, g2⟩ := R'.live 0 _ h0
  rw [hfix] at g0 g2
  obtain ⟨f0, f1, us, hu, ru⟩ := R.live m _ hm
  have hF : Same F F' := R'.bF
  have st : Stp F α S.L F' α := ⟨hF, fun _ _ => rfl⟩
  have hn : ∀ b u, F' b = some u → F b = some u ∨ H b = none := fun b u e => by
    rcases R'.nF b u e with z | z | z
    · exact .inl z
    · exact .inr z
    · rw [z, g0] at e; cases e
  have hH : ∀ b u, b ≠ α m → H b = some u → H' b = some u := fun b u ne e => R'.frame b u e ne
  have hsub : ∀ k, k ∈ names S.L → k ∈ names (setL m (.fl ds') S.L) := fun k hk => by rw [names_setL]; exact hk
  refine ⟨⟨R'.sub, R.bF.trans hF, fun b o e => ?_, fun b o e n => ?_, by rw [names_setL]; exact R.nd, fun a b ha hb e => R.inj a b (by rw [names_setL] at ha; exact ha) (by rw [names_setL] at hb; exact hb) e, fun n o h => ?_, R.slots.step st hsub, fun n a e hm => R.fix n a e (by rw [names_setL] at hm; exact hm)⟩, hF⟩
  · rcases hn b o e with z | z
    · exact R.nF b o z
    · refine .inr ?_
      by_cases f : B.fp b
      · exact .inr f
      · refine .inl ?_
        cases q : B.H0 b with
        | none => rfl
        | some u => rw [R.frame b u q f] at z; cases z
  · have hb : b ≠ α m := fun q => by
      subst q
      rcases f1 with z | z
      · rw [z] at e; cases e
      · exact n z
    exact hH _ _ hb (R.frame b o e n)
  · rcases mem_setL R.nd h with ⟨h1, h2⟩ | ⟨h1, h2⟩
    · subst h1; subst h2
      obtain ⟨ws, hw, rw'⟩ := g2
      exact ⟨g0, f1, ws, hw, rw'⟩
    · obtain ⟨k0, k1, k2⟩ := R.live n o h2
      have ne : α n ≠ α m := fun q => h1 (R.inj _ _ (mem_names h2) (mem_names hm) q)
      refine ⟨?_, k1, k2.stepO st hsub ⟨us, hu⟩ hH hn ne⟩
      cases q : F' (α n) with
      | none => rfl
      | some u =>
        obtain ⟨w', hw⟩ := k2.is
        rcases hn _ _ q with z | z
        · rw [k0] at z; cases z
        · rw [hw] at z; cases z
/-- the cells as the callee has them -/
def renC (m : Nat) : Ce → Ce
  | .fr d => .fr d
  | .ad n => .ad 0
def adsOk (m : Nat) : List Ce → Bool
  | [] => true
  | .fr _ :: r => adsOk m r
  | .ad n :: r => n == m && adsOk m r
theorem slots_ren {m : Nat} {ds : List D} : ∀ {cs : List Ce} {vs : List V}, adsOk m cs = true → CRels K mg F α L cs vs → SlR K mg F (fun _ => α m) [(0, .fl ds)] ((cs.map (renC m)).map some) (vs.map some)
  | [], _, _, .nil => .nil
  | .fr d :: cs, _, h, .cons r rs => .so (c := .fr d) r (slots_ren (show adsOk m cs = true from h) rs)
  | .ad n :: cs, _, h, .cons r rs => by
    unfold adsOk at h
    rw [Bool.and_eq_true] at h
    have e : n = m := by simpa using h.1
    subst e
    exact .so (c := .ad 0) ⟨by simp [names], r.2⟩ (slots_ren h.2 rs)
end
section
variable {X : Cx} {B : Bd} {S S1 S2 : Nz.S} {a e o : Expr} {es : List Expr} {pos apos p q : Pos} {d d1 : D} {ds : List D} {c f m x : Str} {C g pr : Addr} {fd : FuncData} {ps : List Str} {k : Nat} {sp : SpN} {f : Addr}
/-- f(e, ..) where one argument is a live list -/
theorem ev_callL (n : Nat) {cs : List Ce} {xs xs' : List D} (F : FnOk X.prog X.w X.K X.mg X.base CX0 k f fd ps (SpOf X.K X.mg sp)) (hr : Room k X.A) (hm : X.mg x = some (.ref f)) (hk : PySem.W.keepIn X.K (.ref f) = true) (hb : Binds X.K fd ps [])
    (ha : Ea X B (e :: es) S cs S1) (hl : getL n S1.L = some (.fl xs)) (hok : adsOk n cs = true) (hs : ∀ Kc : Ce → List (Nat × LO) → Prop, (∀ L', getL 0 L' = some (.fl xs') → Kc (.fr d) L') → sp (cs.map (renC n)) [(0, .fl xs)] Kc) (hg : Gl X x) (h1 : Sub S.L S1.L := by exact Sub.refl) (hdb : (x == ("__debug__" : Str)) = false := by decide)
    (he : starEach (e :: es) X.env = (false, eval e X.env) :: starEach es X.env := by rfl) (hpl : (backTo pos (starEach es X.env)).any (·.1) = false := by rfl) : Ev X B (.Call (.Name x p) (e :: es) [] pos) S (.fr d) ⟨S1.ρ, setL n (.fl xs') S1.L⟩ :=
  fun F0 α H σ Q R k => wE.of (pe_call F hr hg hm hk hb .nil pass0 pa_w hdb he hpl) (ha F0 α H σ _ R fun F1 α1 vs H1 R1 st1 r1 => by
    rw [List.append_nil]
    have hmm := getL_mem hl
    refine ⟨F1, fun _ => α1 n, [(0, .fl xs)], _, fun b => b = α1 n, R1.callL hmm (slots_ren hok r1), hs _ fun L' h0 F' α' v H' ρ' σ' R' r' => ?_⟩
    obtain ⟨Rb, sF⟩ := R1.backL hmm R' (getL_mem h0)
    exact k F' α1 v H' Rb (st1.trans ⟨sF, fun _ _ => rfl⟩ h1) r')
/-- .. that leaves it as it was -/
theorem setL_same : ∀ {L : List (Nat × LO)} {n : Nat} {o : LO}, getL n L = some o → setL n o L = L
  | [], _, _, h => by cases h
  | (m, u) :: r, n, o, h => by
    unfold getL at h
    unfold setL
    by_cases e : n = m
    · rw [if_pos e] at h ⊢; cases h; rfl
    · rw [if_neg e] at h ⊢; rw [setL_same h]
theorem ev_callLr (n : Nat) {cs : List Ce} {xs : List D} (F : FnOk X.prog X.w X.K X.mg X.base CX0 k f fd ps (SpOf X.K X.mg sp)) (hr : Room k X.A) (hm : X.mg x = some (.ref f)) (hk : PySem.W.keepIn X.K (.ref f) = true) (hb : Binds X.K fd ps [])
    (ha : Ea X B (e :: es) S cs S1) (hl : getL n S1.L = some (.fl xs)) (hok : adsOk n cs = true) (hs : ∀ Kc : Ce → List (Nat × LO) → Prop, (∀ L', getL 0 L' = some (.fl xs) → Kc (.fr d) L') → sp (cs.map (renC n)) [(0, .fl xs)] Kc) (hg : Gl X x) (h1 : Sub S.L S1.L := by exact Sub.refl) (hdb : (x == ("__debug__" : Str)) = false := by decide)
    (he : starEach (e :: es) X.env = (false, eval e X.env) :: starEach es X.env := by rfl) (hpl : (backTo pos (starEach es X.env)).any (·.1) = false := by rfl) : Ev X B (.Call (.Name x p) (e :: es) [] pos) S (.fr d) S1 := by
  have := ev_callL (p := p) (pos := pos) n F hr hm hk hb ha hl hok hs hg h1 hdb he hpl
  rwa [setL_same hl] at this
/-- f(e, .., k = v, ..) -/
theorem ev_callKw {kws : List Keyword} {es' : List D} {ks : List Str} {n : Nat} (F : FnOk X.prog X.w X.K X.mg X.base CX0 k f fd ps (SpOf X.K X.mg sp)) (hr : Room k X.A) (hm : X.mg x = some (.ref f)) (hkp : PySem.W.keepIn X.K (.ref f) = true) (hb : KBn X.K fd ps n ks (fun us ws => us ++ ws) (fun vs zs => vs ++ zs))
    (ha : Ea X B (e :: es) S (ds.map Ce.fr) S1) (hk : Ek X B kws S1 es' S2) (l1 : ds.length = n) (l2 : es'.length = ks.length)
    (hs : ∀ Kc : Ce → List (Nat × LO) → Prop, (∀ L', Kc (.fr d) L') → sp ((ds ++ es').map Ce.fr) [] Kc) (hg : Gl X x) (h1 : Sub S.L S1.L := by exact Sub.refl) (h2 : Sub S1.L S2.L := by exact Sub.refl) (hdb : (x == ("__debug__" : Str)) = false := by decide)
    (hall : (backToKw pos (keywordEach kws X.env)).all (·.1.isSome) = true := by rfl) (hks : (backToKw pos (keywordEach kws X.env)).filterMap (·.1) = ks := by rfl)
    (he : starEach (e :: es) X.env = (false, eval e X.env) :: starEach es X.env := by rfl) (hpl : ((backTo pos (starEach (e :: es) X.env)).any (·.1) || (backToKw pos (keywordEach kws X.env)).any (·.1.isNone)) = false := by rfl) : Ev X B (.Call (.Name x p) (e :: es) kws pos) S (.fr d) S2 :=
  fun F0 α H σ Q R k => wE.of (pe_callN F hr hg hm hkp hb pass0 pa_w pk_w hall hks hdb he hpl) (ha F0 α H σ _ R fun F1 α1 vs H1 R1 st1 r1 => hk F1 α1 H1 σ _ R1 fun F2 α2 zs H2 R2 st2 r2 => by
    have rr := Reps.append ((CRels.fr r1).mono st2.fro) r2
    have lv : vs.length = n := by rw [← (CRels.fr r1).length]; exact l1
    have lz : zs.length = ks.length := by rw [← r2.length]; exact l2
    exact ⟨lv, lz, F2, α2, [], _, fun _ => False, R2.call0 rr, hs _ fun L' F' α' v H' ρ' σ' R' r' => k F' α2 v H' (R2.back0 R') ((st1.trans st2 h1).trans ⟨R'.bF, fun _ _ => rfl⟩ fun n h => h2 n (h1 n h)) r'⟩)
end
end Nz
namespace Nz
open PySem PySem.Spec PyProof.Rows L2
section
variable {X : Cx} {B : Bd} {S S1 : Nz.S} {a : Expr} {τ : Type} {enc : τ → D}
/-- if xs: -/
theorem et_list {xs : List τ} (ha : Ev X B a S (.fr (eL enc xs)) S1) (he : ∀ whole, isTrue a X.env whole = (do let v ← whole; standAt a.pos; holding [v] (truthy v)) := by intro _; rfl) : Et X B a S (!xs.isEmpty) S1 :=
  fun F α H σ Q R k => wT.of (pt_truth pe_w he) (ha F α H σ _ R fun F1 α1 v1 H1 R1 st1 r1 => by
    obtain ⟨p, us, rfl, hq, rs⟩ := R1.asL (c := .fr (.lst (xs.map enc))) rfl r1
    refine ⟨!xs.isEmpty, ?_, k F1 α1 H1 R1 st1⟩
    have : us.isEmpty = xs.isEmpty := by
      have := rs.length
      rw [List.length_map] at this
      cases us <;> cases xs <;> simp_all
    exact .inl ⟨us, hq, by rw [this]⟩)

/-- zip of two lists -/
theorem src_zip {μ : Type} {encB : μ → D} {xs : List τ} {ys : List μ} {e e2 : Expr} {elts : List Expr} {kk : Nat} {tpos pos p : Pos} (h : Ea X B [e, e2] S [.fr (eL enc xs), .fr (eL encB ys)] S1) (hg : Gl X "zip") (hm : X.mg "zip" = none)
    (hs : starEach [e, e2] X.env = (false, eval e X.env) :: starEach [e2] X.env := by rfl) (hpl : (backTo pos (starEach [e2] X.env)).any (·.1) = false := by rfl) :
    Src X B (.Tuple elts kk tpos) (.Call (.Name "zip" p) [e, e2] [] pos) S ((xs.zip ys).map (eT2 enc encB)) S1 :=
  fun F α H σ R RR k => wI.of (pi_zip hg hm pa_w hs hpl) (h F α H σ _ RR fun F1 α1 v1 H1 R1 st1 r1 => by
    have r := CRels.fr (ds := [eL enc xs, eL encB ys]) r1
    cases r with
    | cons q rr =>
      cases rr with
      | cons q2 rr2 =>
        cases rr2
        cases q with
        | lst h1 h2 =>
          rename_i a vs
          cases q2 with
          | lst g1 g2 =>
            rename_i b us
            have hlen : ((xs.zip ys).map (eT2 enc encB)).length = min vs.length us.length := by
              rw [List.length_map, List.length_zip, ← h2.length, ← g2.length, List.length_map, List.length_map]
            refine ⟨a, b, vs, us, rfl, R1.sub.seq h1, R1.sub.seq g1, k F1 α1 H1 _ R1 st1 ⟨fun B F' α H σ S i d R' hs hi => ?_, fun B F' α H σ S i R' hs hi => ⟨vs, us, R'.sub.seq (hs.seq h1), R'.sub.seq (hs.seq g1), by rw [hlen] at hi; omega⟩⟩⟩
            rw [List.getElem?_map] at hi
            cases hz : (xs.zip ys)[i]? with
            | none => rw [hz] at hi; cases hi
            | some pr =>
              rw [hz] at hi
              have hd : d = eT2 enc encB pr := (Option.some.inj hi).symm
              obtain ⟨z1, z2⟩ := List.getElem?_zip_eq_some.mp hz
              obtain ⟨v, hv, rv⟩ := h2.get (show (xs.map enc)[i]? = some (enc pr.1) by rw [List.getElem?_map, z1]; rfl)
              obtain ⟨u, hu, ru⟩ := g2.get (show (ys.map encB)[i]? = some (encB pr.2) by rw [List.getElem?_map, z2]; rfl)
              refine ⟨⟨vs, us, v, u, R'.sub.seq (hs.seq h1), R'.sub.seq (hs.seq g1), hv, hu⟩, fun x H' y => ?_⟩
              obtain ⟨T, x1, y1, rfl, hT, rfl, y2, y3⟩ := y
              have e1 := y2 vs (R'.sub.seq (hs.seq h1))
              have e2 := y3 us (R'.sub.seq (hs.seq g1))
              rw [hv] at e1; rw [hu] at e2; cases e1; cases e2
              subst hd
              exact ⟨upd F' T (.tup [v, u]), R'.allocF hT, same_upd (R'.fresh hT), .tup (SqT.of upd_same) (.cons ((rv.mono hs).mono (same_upd (R'.fresh hT))) (.cons ((ru.mono hs).mono (same_upd (R'.fresh hT))) .nil))⟩)
end
end Nz
namespace Nz
theorem some_of {τ : Type} {y : Option τ} (h : ¬ (y.isNone = true)) : y.isSome = true := by
  cases y with
  | none => exact absurd rfl h
  | some z => rfl
theorem some_of2 {τ : Type} {y : Option τ} (h : ¬ ¬ ¬ (y.isNone = true)) : y.isSome = true := some_of fun z => h fun w => w z
end Nz
namespace Nz
theorem runE_inv {τ σ ρ : Type} {step : σ → τ → Except ρ σ} (P : σ → Prop) (R : ρ → Prop) : ∀ {ys : List τ} {s : σ}, (∀ s y, y ∈ ys → P s → (∀ s', step s y = .ok s' → P s') ∧ ∀ r, step s y = .error r → R r) → P s →
    (∀ s', runE step ys s = .ok s' → P s') ∧ ∀ r, runE step ys s = .error r → R r
  | [], s, _, h => ⟨fun s' e => by cases e; exact h, fun r e => by cases e⟩
  | y :: ys, s, hs, h => by
    obtain ⟨h1, h2⟩ := hs s y List.mem_cons_self h
    rw [runE_cons]
    cases e : step s y with
    | error r => exact ⟨fun s' q => (by cases q), fun r' q => (by cases q; exact h2 r e)⟩
    | ok s1 => exact runE_inv P R (fun s y hy => hs s y (List.mem_cons_of_mem _ hy)) (h1 s1 e)
theorem mem_slc {τ : Type} {xs : List τ} {a b : Option Int} {x : τ} (h : x ∈ slcD xs a b) : x ∈ xs := by
  unfold slcD at h
  exact List.mem_of_mem_drop (List.mem_of_mem_take h)
theorem zip_at {τ μ : Type} {xs : List τ} {ys : List μ} {i : Nat} {z : τ × μ} (h : (xs.zip ys)[i]? = some z) : z.1 ∈ xs ∧ z.2 ∈ ys := by
  obtain ⟨h1, h2⟩ := List.getElem?_zip_eq_some.mp h
  exact ⟨List.mem_of_getElem? h1, List.mem_of_getElem? h2⟩
theorem slc_len {τ : Type} {xs : List τ} {a b : Option Int} : (slcD xs a b).length ≤ xs.length := by
  unfold slcD
  rw [List.length_take, List.length_drop]; omega
end Nz

namespace Nz
open PySem PySem.Spec PyProof.Rows L2
theorem Reps.reverse {K : Frag} {mg : Mg} {F : Hp} : ∀ {ds : List D} {vs : List V}, Reps K mg F ds vs → Reps K mg F ds.reverse vs.reverse
  | _, _, .nil => .nil
  | _ :: _, _ :: _, .cons h r => by
    rw [List.reverse_cons, List.reverse_cons]
    exact (Reps.reverse r).append (.cons h .nil)
section
variable {X : Cx} {B : Bd} {S S1 : Nz.S} {a : Expr} {τ : Type} {enc : τ → D} {k : Nat} {p1 p2 p3 pos : Pos}
/-- xs[::-1] -/
theorem ev_revT {xs : List τ} (ha : Ev X B a S (.fr (eL enc xs)) S1) : Ev X B (.Subscript a (.Slice none none (some (.UnaryOp .USub (.Constant (.int 1) k p1) p2)) p3) pos) S (.fr (eL enc xs.reverse)) S1 :=
  fun F α H σ Q R k' => wE.of (pe_revL pe_w) (ha F α H σ _ R fun F1 α1 v1 H1 R1 st1 r1 => by
    obtain ⟨p, us, rfl, hq, rs⟩ := R1.asL (c := .fr (.lst (xs.map enc))) rfl r1
    refine ⟨p, us, rfl, hq, fun q hp => ?_⟩
    have hf := R1.fresh hp
    refine k' _ α1 _ _ (R1.allocF hp) ⟨st1.fro.trans (same_upd hf), st1.nm⟩ (Rep.lst (SqL.of upd_same) ?_)
    rw [List.map_reverse]
    exact rs.reverse.mono (same_upd hf))
end
end Nz

namespace Nz
open PySem PySem.Spec PyProof.Rows L2
/-! lists that a def hands back live; live comprehensions, copies; items set -/
section
variable {K : Frag} {mg : Mg} {B : Bd} {F : Hp} {α : Nat → Addr} {H : Hp} {σ : L2.St} {S : Nz.S}
theorem Rel.adopt (R : Rel K mg B F α H σ S) {p : Addr} {m : Nat} {xs : List D} {vs : List V} (hm : m ∉ names S.L) (h100 : 100 ≤ m) (f0 : F p = none) (f1 : B.H0 p = none ∨ B.fp p) (e : H p = some (.lst vs)) (r : Reps K mg F xs vs) (ne : ∀ k, k ∈ names S.L → α k ≠ p) :
    Rel K mg B F (setα α m p) H σ ⟨S.ρ, S.L ++ [(m, .fl xs)]⟩ := by
  have st : Stp F α S.L F (setα α m p) := stp_setα hm
  have hsub : ∀ k, k ∈ names S.L → k ∈ names (S.L ++ [(m, LO.fl xs)]) := fun k hk => by rw [names_append]; exact List.mem_append_left _ hk
  have hself : setα α m p m = p := by unfold setα; rw [if_pos rfl]
  refine ⟨R.sub, R.bF, R.nF, R.frame, ?_, ?_, ?_, R.slots.step st hsub, fun k a e' hk => ?_⟩
  · rw [names_append]
    exact List.nodup_append.mpr ⟨R.nd, by simp, fun a ha b hb => by
      have : b = m := by simpa using hb
      subst this
      exact fun q => hm (q ▸ ha)⟩
  · intro a b ha hb e'
    rw [names_append] at ha hb
    rcases List.mem_append.mp ha with ha' | ha' <;> rcases List.mem_append.mp hb with hb' | hb'
    · rw [st.nm a ha', st.nm b hb'] at e'; exact R.inj a b ha' hb' e'
    · have h2 : b = m := by simpa using hb'
      rw [h2, hself, st.nm a ha'] at e'
      exact absurd e' (ne a ha')
    · have h2 : a = m := by simpa using ha'
      rw [h2, hself, st.nm b hb'] at e'
      exact absurd e'.symm (ne b hb')
    · have h1 : a = m := by simpa using ha'
      have h2 : b = m := by simpa using hb'
      rw [h1, h2]
  · intro k o' hk
    rcases List.mem_append.mp hk with hk | hk
    · obtain ⟨h1, h2, h3⟩ := R.live k o' hk
      have e' : setα α m p k = α k := st.nm k (mem_names hk)
      rw [e']
      exact ⟨h1, h2, h3.step st hsub (fun _ _ z => z) fun b w' z => .inl z⟩
    · have e' : (k, o') = (m, LO.fl xs) := by simpa using hk
      cases e'
      rw [hself]
      exact ⟨f0, f1, vs, e, r⟩
  · have hk : k ∈ names (S.L ++ [(m, LO.fl xs)]) := hk
    rw [names_append] at hk
    rcases List.mem_append.mp hk with hk | hk
    · rw [st.nm k hk]; exact R.fix k a e' hk
    · have : k = m := by simpa using hk
      rw [this, B.hpa m h100] at e'; cases e'
end
section
variable {X : Cx} {B : Bd} {S S1 S2 : Nz.S} {a b e o : Expr} {es : List Expr} {pos apos p q : Pos} {d d1 : D} {ds xs : List D} {x : Str} {fd : FuncData} {ps : List Str} {k : Nat} {sp : SpN} {f : Addr}
/-- f(e, ..) that hands back a new list that lives -/
theorem ev_callNew (m : Nat) (F : FnOk X.prog X.w X.K X.mg X.base CX0 k f fd ps (SpOf X.K X.mg sp)) (hr : Room k X.A) (hm : X.mg x = some (.ref f)) (hk : PySem.W.keepIn X.K (.ref f) = true) (hb : Binds X.K fd ps [])
    (ha : Ea X B (e :: es) S (ds.map Ce.fr) S1) (hn : m ∉ names S1.L) (h100 : 100 ≤ m) (hs : ∀ Kc : Ce → List (Nat × LO) → Prop, (∀ n L', getL n L' = some (.fl xs) → Kc (.ad n) L') → sp (ds.map Ce.fr) [] Kc) (hg : Gl X x) (h1 : Sub S.L S1.L := by exact Sub.refl) (hdb : (x == ("__debug__" : Str)) = false := by decide)
    (he : starEach (e :: es) X.env = (false, eval e X.env) :: starEach es X.env := by rfl) (hpl : (backTo pos (starEach es X.env)).any (·.1) = false := by rfl) : Ev X B (.Call (.Name x p) (e :: es) [] pos) S (.ad m) ⟨S1.ρ, S1.L ++ [(m, .fl xs)]⟩ :=
  fun F0 α H σ Q R k => wE.of (pe_call F hr hg hm hk hb .nil pass0 pa_w hdb he hpl) (ha F0 α H σ _ R fun F1 α1 vs H1 R1 st1 r1 => by
    rw [List.append_nil]
    refine ⟨F1, α1, [], _, fun _ => False, R1.call0 (CRels.fr r1), hs _ fun n L' h0 F' α' v H' ρ' σ' R' r' => ?_⟩
    obtain ⟨hnm, rfl⟩ := r'
    obtain ⟨g0, g1, us, hu, ru⟩ := R'.live n _ (getL_mem h0)
    have g1 : H1 (α' n) = none := g1.elim id fun z => z.elim
    have Rb := R1.back0 R'
    have ne : ∀ k, k ∈ names S1.L → α1 k ≠ α' n := fun k hk q => by
      obtain ⟨⟨k', o'⟩, h1, h2⟩ := List.mem_map.mp hk
      cases h2
      obtain ⟨w', hw⟩ := (R1.live _ _ h1).2.2.is
      rw [q, g1] at hw; cases hw
    have hB : B.H0 (α' n) = none ∨ B.fp (α' n) := by
      by_cases z : B.fp (α' n)
      · exact .inr z
      · refine .inl ?_
        cases q : B.H0 (α' n) with
        | none => rfl
        | some w' => rw [R1.frame _ w' q z] at g1; cases g1
    have Ra := Rb.adopt (m := m) hn h100 g0 hB hu ru ne
    have self : setα α1 m (α' n) m = α' n := by unfold setα; rw [if_pos rfl]
    refine k F' (setα α1 m (α' n)) _ H' Ra ((st1.trans ⟨R'.bF, fun _ _ => rfl⟩ h1).trans (stp_setα hn) h1) ⟨?_, by rw [self]⟩
    rw [names_append]; exact List.mem_append_right _ (List.mem_singleton.mpr rfl))
/-- .. that is frozen at once -/
theorem ev_callNewF (m : Nat) (F : FnOk X.prog X.w X.K X.mg X.base CX0 k f fd ps (SpOf X.K X.mg sp)) (hr : Room k X.A) (hm : X.mg x = some (.ref f)) (hk : PySem.W.keepIn X.K (.ref f) = true) (hb : Binds X.K fd ps [])
    (ha : Ea X B (e :: es) S (ds.map Ce.fr) S1) (hn : m ∉ names S1.L) (h100 : 100 ≤ m) (hs : ∀ Kc : Ce → List (Nat × LO) → Prop, (∀ n L', getL n L' = some (.fl xs) → Kc (.ad n) L') → sp (ds.map Ce.fr) [] Kc) (hg : Gl X x) (hfr : frS m (.lst xs) ⟨S1.ρ, S1.L ++ [(m, .fl xs)]⟩ = S1 := by rfl) (h1 : Sub S.L S1.L := by exact Sub.refl) (hdb : (x == ("__debug__" : Str)) = false := by decide)
    (he : starEach (e :: es) X.env = (false, eval e X.env) :: starEach es X.env := by rfl) (hpl : (backTo pos (starEach es X.env)).any (·.1) = false := by rfl) : Ev X B (.Call (.Name x p) (e :: es) [] pos) S (.fr (.lst xs)) S1 := by
  have h := ev_freeze m (ev_callNew (p := p) (pos := pos) m F hr hm hk hb ha hn h100 hs hg h1 hdb he hpl) (getL_app hn)
  rw [hfr] at h
  have e1 : frC m (.lst xs) (.ad m) = .fr (.lst xs) := by show (if m = m then _ else _) = _; rw [if_pos rfl]
  rwa [e1] at h
/-- xs[i] = v, the list lives -/
theorem ex_setI {K : Out → Prop} (n : Nat) {i : Int} (he : Ev X B e S (.fr d) S1) (ho : Ev X B o S1 (.ad n) S1) (hi : Ev X B a S1 (.fr (.int i)) S1) (hl : getL n S1.L = some (.fl xs)) (h0 : 0 ≤ i) (h1 : i < xs.length)
    (k : K (.nx ⟨S1.ρ, setL n (.fl (xs.set i.toNat d)) S1.L⟩)) (hs : swapsWithSole [.Subscript o a p] e pos.line X.env = pure false := by rfl) (hw : swappedStores [.Subscript o a p] e X.env = pure none := by rfl)
    (h2 : (assignEach [.Subscript o a p] X.env).map (·.2) = [assign (.Subscript o a p) X.env] := by rfl)
    (hsub : ∀ v, assign (.Subscript o a p) X.env v = (do
      let ov ← holding [v] (eval o X.env)
      let iv ← holding [v, ov] (eval a X.env)
      standAt p
      holding [v, ov, iv] (setItem ov iv v)
      release [v, ov, iv] []) := by intro _; rfl) : Ex X B (.Assign [.Subscript o a p] e pos) S K :=
  fun F α H σ D R oo => wS.of (ps_asg pe_w (pg_sub pe_w pe_w set_list hsub) hs hw h2) (he F α H σ _ R fun F1 α1 v1 H1 R1 st1 r1 => ho F1 α1 H1 σ _ R1 fun F2 α2 v2 H2 R2 st2 r2 => hi F2 α2 H2 σ _ R2 fun F3 α3 v3 H3 R3 st3 r3 => by
    obtain ⟨hn1, rfl⟩ := r2
    cases r3
    have hmm := getL_mem hl
    obtain ⟨f0, f1, vs, e1, rs⟩ := R3.live n _ hmm
    have en : α3 n = α2 n := st3.nm n hn1
    refine ⟨α2 n, vs, i, i.toNat, rfl, rfl, by rw [← en]; exact e1, by unfold ixN; rw [if_pos h0, ← rs.length, if_pos h1], ?_⟩
    have Rp := R3.put (n := n) (u := .fl (xs.set i.toNat d)) (o' := .lst (vs.set i.toNat v1)) hmm ⟨vs.set i.toNat v1, upd_same, rs.set i.toNat (Rep.mono (st2.fro.trans st3.fro) r1)⟩
    rw [en] at Rp
    exact oo.nx _ F3 α3 _ σ k Rp (st1.fro.trans (st2.fro.trans st3.fro)))
/-- list(e) that lives -/
theorem ev_listN (m : Nat) {ca : Ce} (hl : AsL S1.L ca xs) (ha : Ev X B e S ca S1) (hn : m ∉ names S1.L) (h100 : 100 ≤ m) (hg : Gl X "list") (hm : X.mg "list" = none) (hv : bootBuiltins "list" = some (.type "list") := by decide +kernel) (h1 : Sub S.L S1.L := by exact Sub.refl)
    (hs : starEach [e] X.env = (false, eval e X.env) :: starEach [] X.env := by rfl) (hpl : (backTo pos (starEach [] X.env)).any (·.1) = false := by rfl) : Ev X B (.Call (.Name "list" p) [e] [] pos) S (.ad m) ⟨S1.ρ, S1.L ++ [(m, .fl xs)]⟩ :=
  fun F α H σ Q R k => wE.of (pe_callTy call_list_of hg hm hv (pa_cons pe_w pa_nil hs) (by decide) (by decide) hs hpl) (ha F α H σ _ R fun F1 α1 v1 H1 R1 st1 r1 => by
    obtain ⟨a, vs, rfl, hq, rs⟩ := R1.asL hl r1
    refine ⟨a, vs, rfl, .inl hq, fun p hp => ?_⟩
    refine k F1 (setα α1 m p) _ _ (R1.allocL hp hn h100 ⟨vs, upd_same, rs⟩) (st1.trans (stp_setα hn) h1) ⟨?_, ?_⟩
    · rw [names_append]; exact List.mem_append_right _ (List.mem_singleton.mpr rfl)
    · show V.ref p = V.ref (if m = m then p else α1 m)
      rw [if_pos rfl])
/-- [e, ..] * n -/
theorem Reps.rep {K : Frag} {mg : Mg} {F : Hp} {ds : List D} {vs : List V} (h : Reps K mg F ds vs) : ∀ n : Nat, Reps K mg F (List.replicate n ds).flatten (List.replicate n vs).flatten
  | 0 => .nil
  | n + 1 => by
    rw [List.replicate_succ, List.flatten_cons, List.replicate_succ, List.flatten_cons]
    exact h.append (Reps.rep h n)
theorem ev_repD {i : Int} (ha : Ea X B es S (ds.map Ce.fr) S1) (hb : Ev X B b S1 (.fr (.int i)) S1) (hz : ds.length ≤ sizeLine) (h0 : -(2 ^ 63) ≤ i) (h1 : i < 2 ^ 63) (h2 : ds.length * i.toNat ≤ sizeLine) (SUBS : Sub S.L S1.L := by exact Sub.refl) :
    Ev X B (.BinOp (.List es q) .Mult b pos) S (.fr (.lst (List.replicate i.toNat ds).flatten)) S1 :=
  fun F α H σ Q R k => wE.of (pe_op op_rep (pe_lst pa_w) pe_w) (ha F α H σ _ R fun F1 α1 vs H1 R1 st1 r1 => by
    have r := r1.fr
    refine ⟨by rw [← r.length]; exact hz, fun p hp => ?_⟩
    have hf := R1.fresh hp
    have R2 := R1.allocF (o := .lst vs) hp
    refine hb _ α1 _ σ _ R2 fun F3 α3 v3 H3 R3 st3 r3 => ?_
    cases r3
    have e3 : F3 p = some (.lst vs) := st3.fro _ _ upd_same
    refine ⟨p, i, vs, rfl, rfl, R3.sub _ _ e3, h0, h1, by rw [← r.length]; exact h2, fun p' hp' => ?_⟩
    have hf' := R3.fresh hp'
    have rr : Reps X.K X.mg F3 ds vs := r.mono ((same_upd hf).trans st3.fro)
    refine k _ α3 _ _ (R3.allocF hp') ⟨(st1.fro.trans (same_upd hf)).trans (st3.fro.trans (same_upd hf')), fun n hn => ?_⟩ (Rep.lst (SqL.of upd_same) ((rr.rep i.toNat).mono (same_upd hf')))
    have h5 : n ∈ names S.L := hn
    by_cases hh : n ∈ names S1.L
    · rw [st3.nm n hh, st1.nm n h5]
    · exact absurd (SUBS n h5) hh)
end
section
variable {X : Cx} {B : Bd} {S S1 : Nz.S} {elt tg iter : Expr} {ifs : List Expr} {scope : Scope} {own : List (Str × Nat)} {pos : Pos}
theorem lc_readingL {τ : Type} (nD : Nat) {ys : List τ} {enc : τ → D} (f : τ → D) (p : τ → Bool) (Sx : Nat → τ → List D → Nz.S)
    (hsrc : Src X B tg iter S (ys.map enc) S1) (hn : nD ∉ names S1.L) (h100 : 100 ≤ nD) (hz : ys.length ≤ sizeLine) (hL : ∀ i y acc, (Sx i y acc).L = S1.L ++ [(nD, .fl acc)])
    (hg : ∀ i y acc, ys[i]? = some y → ∀ s H0 C cl fp, EgC (Blk X scope s H0 C cl fp) B tg (.fr (enc y)) ⟨wipeC S1.ρ (own.map (·.2)), S1.L ++ [(nD, .fl acc)]⟩ (Sx i y acc) (own.map (·.2)))
    (ht : ∀ i y acc, ys[i]? = some y → ∀ s H0 C cl fp, Ets (Blk X scope s H0 C cl fp) B ifs (Sx i y acc) (p y))
    (he : ∀ i y acc, ys[i]? = some y → p y = true → ∀ s H0 C cl fp, Ev (Blk X scope s H0 C cl fp) B elt (Sx i y acc) (.fr (f y)) (Sx i y acc))
    (F : Hp) (α : Nat → Addr) (H : Hp) (σ : L2.St) (Q : VK) (R : RelX X B F α H σ S) (hS : Sub S.L S1.L)
    (k : ∀ F' α' H', RelX X B F' α' H' σ ⟨S1.ρ, S1.L ++ [(nD, .fl ((ys.filter p).map f))]⟩ → Stp F α S.L F' α' → Q (.ref (α' nD)) H') :
    tLc (wI X tg iter) (fun v σ H Q => ∀ s H0 C cl fp, wG (Blk X scope s H0 C cl fp) tg v σ H Q) (fun σ H Q => ∀ s H0 C cl fp, wTs (Blk X scope s H0 C cl fp) ifs σ H Q) (fun σ H Q => ∀ s H0 C cl fp, wE (Blk X scope s H0 C cl fp) elt σ H Q) (own.map (·.2)) σ H Q := by
  refine hsrc F α H σ _ R fun F1 α1 H1 J R1 st1 j => ?_
  intro D hD
  have Rn := R1.allocL (n := nD) (u := .fl []) (o := .lst []) hD hn h100 ⟨[], upd_same, .nil⟩
  have stn : Stp F1 α1 S1.L F1 (setα α1 nD D) := stp_setα hn
  have eD : setα α1 nD D nD = D := by unfold setα; rw [if_pos rfl]
  -- the state at turn i
  let W : Nat → Hp → Prop := fun i H => ∃ F' α', RelX X B F' α' H (L2.wipe σ (own.map (·.2))) ⟨wipeC S1.ρ (own.map (·.2)), S1.L ++ [(nD, .fl (((ys.take i).filter p).map f))]⟩ ∧ Stp F1 (setα α1 nD D) (S1.L ++ [(nD, .fl [])]) F' α'
  have w0 : W 0 (upd H1 D (.lst [])) := ⟨F1, setα α1 nD D, ⟨Rn.sub, Rn.bF, Rn.nF, Rn.frame, Rn.nd, Rn.inj, Rn.live, Rn.slots.wipe _, Rn.fix⟩, Stp.refl⟩
  refine ⟨fun i m H => m = ys.length - i ∧ i ≤ ys.length ∧ W i H, ⟨ys.length, by simp, Nat.zero_le _, w0⟩, ?_⟩
  rintro i m H' ⟨rfl, hi, F', α', R', st'⟩
  have sm : Same F1 F' := st'.fro
  have nmD : α' nD = D := by rw [st'.nm nD (by rw [names_append]; exact List.mem_append_right _ (List.mem_singleton.mpr rfl)), eD]
  by_cases hlt : i < ys.length
  · obtain ⟨y, hy⟩ : ∃ y, ys[i]? = some y := ⟨ys[i], by simp [hlt]⟩
    obtain ⟨g, yl⟩ := j.go B F' α' H' _ _ i (enc y) R' sm (by rw [List.getElem?_map, hy]; rfl)
    have tk : (ys.take (i + 1)) = ys.take i ++ [y] := by rw [List.take_succ, hy]; rfl
    refine .inr ⟨g, W (i + 1), fun H2 w2 => ⟨ys.length - (i + 1), by omega, rfl, hlt, w2⟩, fun x H2 yy => ?_⟩
    obtain ⟨F2, R2, s2, r2⟩ := yl x H2 yy
    intro sA HA CA clA fpA
    refine hg i y (((ys.take i).filter p).map f) hy sA HA CA clA fpA F2 α' H2 _ x _ R2 r2 fun σ3 F3 H3 R3 s3 w3 => ⟨w3.trans wipe_idem, ?_⟩
    intro sB HB CB clB fpB
    refine ht i y (((ys.take i).filter p).map f) hy sB HB CB clB fpB F3 α' H3 σ3 _ R3 fun F4 α4 H4 R4 st4 => ?_
    have hLL := hL i y (((ys.take i).filter p).map f)
    have full : ∀ {F5 : Hp} {α5 : Nat → Addr} {acc : List Nz.D}, Same F' F5 → (∀ n, n ∈ names (S1.L ++ [(nD, LO.fl (((ys.take i).filter p).map f))]) → α5 n = α' n) → Stp F1 (setα α1 nD D) (S1.L ++ [(nD, .fl [])]) F5 α5 := fun {F5 α5 acc} h1 h2 =>
      ⟨sm.trans h1, fun n hn' => by
        rw [h2 n (by rw [names_append] at hn' ⊢; exact hn'), st'.nm n hn']⟩
    have back : ∀ {F5 : Hp} {α5 : Nat → Addr} {H5 : Hp} {acc : List Nz.D}, RelX X B F5 α5 H5 σ3 ⟨(Sx i y (((ys.take i).filter p).map f)).ρ, S1.L ++ [(nD, .fl acc)]⟩ → SlR X.K X.mg F5 α5 (S1.L ++ [(nD, .fl acc)]) (wipeC S1.ρ (own.map (·.2))) (L2.wipe σ (own.map (·.2))) →
        RelX X B F5 α5 H5 (L2.wipe σ (own.map (·.2))) ⟨wipeC S1.ρ (own.map (·.2)), S1.L ++ [(nD, .fl acc)]⟩ := fun {F5 α5 H5 acc} Rr sl => ⟨Rr.sub, Rr.bF, Rr.nF, Rr.frame, Rr.nd, Rr.inj, Rr.live, sl, Rr.fix⟩
    have sl0 : SlR X.K X.mg F' α' (S1.L ++ [(nD, .fl (((ys.take i).filter p).map f))]) (wipeC S1.ρ (own.map (·.2))) (L2.wipe σ (own.map (·.2))) := R'.slots
    have st4' : Stp F' α' (S1.L ++ [(nD, .fl (((ys.take i).filter p).map f))]) F4 α4 := ⟨s2.trans (s3.trans st4.fro), fun n hn' => st4.nm n (by rw [hLL]; exact hn')⟩
    cases hp : p y with
    | false =>
      rw [if_neg Bool.false_ne_true]
      have e2 : ((ys.take (i + 1)).filter p).map f = ((ys.take i).filter p).map f := by rw [tk, List.filter_append]; simp [hp]
      refine ⟨F4, α4, ?_, full (acc := []) st4'.fro st4'.nm⟩
      rw [e2]
      have R4' : RelX X B F4 α4 H4 σ3 ⟨(Sx i y (((ys.take i).filter p).map f)).ρ, S1.L ++ [(nD, .fl (((ys.take i).filter p).map f))]⟩ := by rw [← hLL]; exact R4
      exact back R4' (sl0.step st4' fun _ z => z)
    | true =>
      rw [if_pos rfl]
      intro sC HC CC clC fpC
      refine he i y (((ys.take i).filter p).map f) hy hp sC HC CC clC fpC F4 α4 H4 σ3 _ R4 fun F5 α5 v5 H5 R5 st5 r5 => ?_
      have st5' : Stp F' α' (S1.L ++ [(nD, .fl (((ys.take i).filter p).map f))]) F5 α5 := st4'.trans ⟨st5.fro, fun n hn' => st5.nm n (by rw [hLL]; exact hn')⟩ fun _ z => z
      have R5' : RelX X B F5 α5 H5 σ3 ⟨(Sx i y (((ys.take i).filter p).map f)).ρ, S1.L ++ [(nD, .fl (((ys.take i).filter p).map f))]⟩ := by rw [← hLL]; exact R5
      obtain ⟨q0, q1, vs5, e5, rs5⟩ := R5'.live nD _ (List.mem_append_right _ (List.mem_singleton.mpr rfl))
      have nm5 : α5 nD = D := by rw [st5'.nm nD (by rw [names_append]; exact List.mem_append_right _ (List.mem_singleton.mpr rfl)), nmD]
      have gl := getL_app (o := .fl (((ys.take i).filter p).map f)) hn
      have sl : ∀ (acc : List Nz.D), setL nD (.fl acc) (S1.L ++ [(nD, LO.fl (((ys.take i).filter p).map f))]) = S1.L ++ [(nD, .fl acc)] := fun acc => setL_app hn
      rw [nm5] at e5
      have e2 : ((ys.take (i + 1)).filter p).map f = ((ys.take i).filter p).map f ++ [f y] := by rw [tk, List.filter_append, List.map_append]; simp [hp]
      have lenv : vs5.length < sizeLine := by
        rw [← rs5.length, List.length_map]
        have := List.length_filter_le p (ys.take i)
        rw [List.length_take] at this
        omega
      refine ⟨vs5, e5, lenv, F5, α5, ?_, full (acc := []) st5'.fro st5'.nm⟩
      have Rp := R5'.put (n := nD) (u := .fl (((ys.take i).filter p).map f ++ [f y])) (o' := .lst (vs5 ++ [v5])) (getL_mem gl) ⟨vs5 ++ [v5], upd_same, rs5.append (.cons r5 .nil)⟩
      rw [nm5] at Rp
      rw [e2]
      have Rp' : RelX X B F5 α5 (upd H5 D (.lst (vs5 ++ [v5]))) σ3 ⟨(Sx i y (((ys.take i).filter p).map f)).ρ, S1.L ++ [(nD, .fl (((ys.take i).filter p).map f ++ [f y]))]⟩ := by rw [← sl]; exact Rp
      refine back Rp' (sl0.step (L' := S1.L ++ [(nD, .fl (((ys.take i).filter p).map f ++ [f y]))]) st5' fun n hn' => by rw [names_append] at hn' ⊢; exact hn')
  · have e1 : i = ys.length := by omega
    subst e1
    refine .inl ⟨j.stop B F' α' H' _ _ _ R' sm (by rw [List.length_map]; exact Nat.le_refl _), ?_⟩
    rw [List.take_length] at R'
    have stA : Stp F1 α1 S1.L F' α' := stn.trans ⟨st'.fro, fun n hn' => st'.nm n (Sub.app n hn')⟩ fun _ z => z
    have R6 : RelX X B F' α' H' σ ⟨S1.ρ, S1.L ++ [(nD, .fl ((ys.filter p).map f))]⟩ := ⟨R'.sub, R'.bF, R'.nF, R'.frame, R'.nd, R'.inj, R'.live, R1.slots.step (L' := S1.L ++ [(nD, .fl ((ys.filter p).map f))]) stA fun n hn' => Sub.app n hn', R'.fix⟩
    have := k F' α' H' R6 (st1.trans stA hS)
    rw [nmD] at this
    exact this
section
variable {τ : Type} {ys : List τ} {enc : τ → D}
theorem ev_lcL (nD : Nat) (ys : List τ) (enc : τ → D) (f : τ → D) (p : τ → Bool) (Sx : Nat → τ → List D → Nz.S) (hc : X.calm = true) (hN : X.N.Nodup) (ok : BlkOk X.N X.env.scope scope own)
    (hsrc : Src X B tg iter S (ys.map enc) S1) (hn : nD ∉ names S1.L) (h100 : 100 ≤ nD) (hz : ys.length ≤ sizeLine) (hL : ∀ i y acc, (Sx i y acc).L = S1.L ++ [(nD, .fl acc)])
    (hg : ∀ i y acc, ys[i]? = some y → ∀ s H0 C cl fp, EgC (Blk X scope s H0 C cl fp) B tg (.fr (enc y)) ⟨wipeC S1.ρ (own.map (·.2)), S1.L ++ [(nD, .fl acc)]⟩ (Sx i y acc) (own.map (·.2)))
    (ht : ∀ i y acc, ys[i]? = some y → ∀ s H0 C cl fp, Ets (Blk X scope s H0 C cl fp) B ifs (Sx i y acc) (p y))
    (he : ∀ i y acc, ys[i]? = some y → p y = true → ∀ s H0 C cl fp, Ev (Blk X scope s H0 C cl fp) B elt (Sx i y acc) (.fr (f y)) (Sx i y acc)) (hS : Sub S.L S1.L := by exact Sub.refl) (hs : ∀ x, foldedSetIterable iter X.env x = pure x := by intro _; rfl) :
    Ev X B (.ListComp elt [⟨tg, iter, ifs, 0⟩] scope pos) S (.ad nD) ⟨S1.ρ, S1.L ++ [(nD, .fl ((ys.filter p).map f))]⟩ :=
  fun F α H σ Q R k => wE.of (pe_lc hc hN pi_w ok (fun s H0 C cl fp => ⟨fun pins s1 σ1 H1 v u Q1 I r h => h s H0 C cl fp pins s1 u I r⟩) (fun s H0 C cl fp => ⟨fun pins s1 σ1 H1 Q1 I h => h s H0 C cl fp pins s1 I⟩) (fun s H0 C cl fp => ⟨fun pins s1 σ1 H1 Q1 I h => h s H0 C cl fp pins s1 I⟩) hs)
    (lc_readingL nD f p Sx hsrc hn h100 hz hL hg ht he F α H σ Q R hS fun F' α' H' R' st => k F' α' _ H' R' st ⟨by rw [names_append]; exact List.mem_append_right _ (List.mem_singleton.mpr rfl), rfl⟩)
theorem ex_setLcL (i : Nat) {y : Str} {py spos : Pos} {K : Out → Prop} (nD : Nat) (ys : List τ) (enc : τ → D) (f : τ → D) (p : τ → Bool) (Sx : Nat → τ → List D → Nz.S) (hc : X.calm = true) (hN : X.N.Nodup) (hy : X.N[i]? = some y) (hyl : X.env.scope.names.lookup y = some .local)
    (hsw : swapsWith (.ListComp elt [⟨tg, iter, ifs, 0⟩] scope pos) (some (.Name y py)) spos.line X.env = pure true) (ok : BlkOk X.N X.env.scope scope own)
    (hsrc : Src X B tg iter S (ys.map enc) S1) (hn : nD ∉ names S1.L) (h100 : 100 ≤ nD) (hz : ys.length ≤ sizeLine) (hL : ∀ i y acc, (Sx i y acc).L = S1.L ++ [(nD, .fl acc)])
    (hg : ∀ i y acc, ys[i]? = some y → ∀ s H0 C cl fp, EgC (Blk X scope s H0 C cl fp) B tg (.fr (enc y)) ⟨wipeC S1.ρ (own.map (·.2)), S1.L ++ [(nD, .fl acc)]⟩ (Sx i y acc) (own.map (·.2)))
    (ht : ∀ i y acc, ys[i]? = some y → ∀ s H0 C cl fp, Ets (Blk X scope s H0 C cl fp) B ifs (Sx i y acc) (p y))
    (he : ∀ i y acc, ys[i]? = some y → p y = true → ∀ s H0 C cl fp, Ev (Blk X scope s H0 C cl fp) B elt (Sx i y acc) (.fr (f y)) (Sx i y acc))
    (k : K (.nx (setS ⟨S1.ρ, S1.L ++ [(nD, .fl ((ys.filter p).map f))]⟩ i (.ad nD)))) (hS : Sub S.L S1.L := by exact Sub.refl) (hs : ∀ x, foldedSetIterable iter X.env x = pure x := by intro _; rfl) :
    Ex X B (.Assign [.Name y py] (.ListComp elt [⟨tg, iter, ifs, 0⟩] scope pos) spos) S K :=
  fun F α H σ D R o => wS.of (ps_setLc hc hN hy hyl hsw pi_w ok (fun s H0 C cl fp => ⟨fun pins s1 σ1 H1 v u Q1 I r h => h s H0 C cl fp pins s1 u I r⟩) (fun s H0 C cl fp => ⟨fun pins s1 σ1 H1 Q1 I h => h s H0 C cl fp pins s1 I⟩) (fun s H0 C cl fp => ⟨fun pins s1 σ1 H1 Q1 I h => h s H0 C cl fp pins s1 I⟩) hs)
    (lc_readingL nD f p Sx hsrc hn h100 hz hL hg ht he F α H σ _ R hS fun F' α' H' R' st => o.nx _ F' α' H' _ k (R'.setS (S := ⟨S1.ρ, S1.L ++ [(nD, .fl ((ys.filter p).map f))]⟩) (c := .ad nD) ⟨by rw [names_append]; exact List.mem_append_right _ (List.mem_singleton.mpr rfl), rfl⟩) st.fro)
end
end
end Nz

namespace Nz
open PySem PySem.Spec PyProof.Rows L2
/-! .. typed -/
def OpC (X : Cx) (f : Value → Value → Sem Value) (d1 : D) (L : List (Nat × LO)) (c2 : Ce) (d : D) : Prop :=
  ∀ B F α H σ (S : Nz.S) (Q : VK) x y, RelX X B F α H σ S → S.L = L → Rep X.K X.mg F d1 x → CR X F α S.L c2 y → (∀ F' α' v H', RelX X B F' α' H' σ S → Stp F α S.L F' α' → Rep X.K X.mg F' d v → Q v H') →
    ∀ pins s v u, Inv X pins σ H s → RelV x v → RelV y u → wpAny (model X.prog X.w) X.A (f v u) (EP X pins σ Q) X.xe s
section
variable {X : Cx} {B : Bd} {S S1 S2 : Nz.S} {a b e o tg : Expr} {es : List Expr} {pos apos p q : Pos} {d1 : D} {c2 : Ce} {τ : Type} {enc : τ → D} {n : Nat}
theorem asL_dp [DecidableEq τ] {F H : Hp} {α : Nat → Addr} {σ : L2.St} (R : RelX X B F α H σ S) {c : Ce} {ys : List τ} {y : V} (h : EqEnc n enc) (hl : AsL S.L c (ys.map enc)) (r : CR X F α S.L c y) : Dp X.K H y (.list (toPs (ys.map enc))) := by
  obtain ⟨l, us, rfl, hq, rs⟩ := R.asL hl r
  exact .lst hq (dps_of R.sub _ _ rs (ees_ok h ys))
theorem o_inC [DecidableEq τ] (hu : X.A.units + 64 < cLine) (h : EqEnc n enc) {x : τ} {ys : List τ} {L : List (Nat × LO)} {c : Ce} (hl : AsL L c (ys.map enc)) (hn : n ≤ 60 := by decide) : OpC X (compareOp .In) (enc x) L c (.bl (decide (x ∈ ys))) :=
  fun B F α H σ S Q v1 v2 R eL' r1 r2 k pins s u1 u2 I q1 q2 => by
    subst eL'
    obtain ⟨as, ra⟩ := Dp.reads I _ _ _ (dp_of R.sub _ _ r1 (h.ok x)) q1
    obtain ⟨bs, rb⟩ := Dp.reads I _ _ _ (asL_dp R h hl r2) q2
    refine PySem.SeqAt.in_list_data (xs := toPs (ys.map enc)) rb ra (plain_toPs _) (plain_toP _) ?_ ?_
    · have := h.dep x; have := Nat.min_le_right (PyData.depthAll (toPs (ys.map enc))) (toP (enc x)).depth; omega
    · rw [toPs_any h]; exact ⟨.bl _, H, I, rfl, k F α _ H R Stp.refl (.bl _)⟩
theorem o_ninC [DecidableEq τ] (hu : X.A.units + 64 < cLine) (h : EqEnc n enc) {x : τ} {ys : List τ} {L : List (Nat × LO)} {c : Ce} (hl : AsL L c (ys.map enc)) (hn : n ≤ 60 := by decide) : OpC X (compareOp .NotIn) (enc x) L c (.bl (!decide (x ∈ ys))) :=
  fun B F α H σ S Q v1 v2 R eL' r1 r2 k pins s u1 u2 I q1 q2 => by
    subst eL'
    obtain ⟨as, ra⟩ := Dp.reads I _ _ _ (dp_of R.sub _ _ r1 (h.ok x)) q1
    obtain ⟨bs, rb⟩ := Dp.reads I _ _ _ (asL_dp R h hl r2) q2
    refine PySem.SeqAt.notIn_list_data (xs := toPs (ys.map enc)) rb ra (plain_toPs _) (plain_toP _) ?_ ?_
    · have := h.dep x; have := Nat.min_le_right (PyData.depthAll (toPs (ys.map enc))) (toP (enc x)).depth; omega
    · rw [toPs_any h]; exact ⟨.bl _, H, I, rfl, k F α _ H R Stp.refl (.bl _)⟩
theorem et_cmpC {op : CmpOp} {i : Bool} (ho : OpC X (compareOp op) d1 S.L c2 (.bl i)) (ha : Ev X B a S (.fr d1) S) (hb : Ev X B b S c2 S) (hm : behindInMarks op b = false) : Et X B (.Compare a [op] [b] pos) S i S :=
  fun F α H σ Q R k pins s I => by
    refine wpAny_isTrue_Compare1 (thn (ha F α H σ _ R (fun F1 α1 v1 H1 R1 st1 r1 => hb F1 α1 H1 σ (fun v2 H2 => ∃ F2 α2, RelX X B F2 α2 H2 σ S ∧ Stp F α S.L F2 α2 ∧ Rep X.K X.mg F2 d1 v1 ∧ CR X F2 α2 S.L c2 v2) R1 fun F2 α2 v2 H2 R2 st2 r2 =>
      ⟨F2, α2, R2, st1.trans st2 Sub.refl, Rep.mono st2.fro r1, r2⟩) pins s I) fun v s1 ⟨x, H1, I1, rv, q1⟩ => thn (q1 pins s1 I1) fun u s2 ⟨y, H2, I2, ru, F2, α2, R2, st, r1, r2⟩ => ?_) hm
    refine thn (ho B F2 α2 H2 σ S (fun v' H' => ∃ k, v' = .bl k ∧ Q k H') x y R2 rfl r1 r2 (fun F' α' v' H' R' st' r' => by cases r'; exact ⟨i, rfl, k F' α' H' R' (st.trans st' Sub.refl)⟩) pins s2 v u I2 rv ru) fun c s3 ⟨z, H3, I3, r3, k', e, q3⟩ => ?_
    subst e
    cases r3
    exact wpAny_truthy_bool ⟨H3, I3, q3⟩
def OpCC (X : Cx) (f : Value → Value → Sem Value) (L : List (Nat × LO)) (c1 c2 : Ce) (d : D) : Prop :=
  ∀ B F α H σ (S : Nz.S) (Q : VK) x y, RelX X B F α H σ S → S.L = L → CR X F α S.L c1 x → CR X F α S.L c2 y → (∀ F' α' v H', RelX X B F' α' H' σ S → Stp F α S.L F' α' → Rep X.K X.mg F' d v → Q v H') →
    ∀ pins s v u, Inv X pins σ H s → RelV x v → RelV y u → wpAny (model X.prog X.w) X.A (f v u) (EP X pins σ Q) X.xe s
theorem o_eqCC [DecidableEq τ] (hu : X.A.units + 64 < cLine) (h : EqEnc n enc) {xs ys : List τ} {L : List (Nat × LO)} {c1 c : Ce} (hl1 : AsL L c1 (xs.map enc)) (hl : AsL L c (ys.map enc)) (hn : n + 1 ≤ 60 := by decide) : OpCC X (compareOp .Eq) L c1 c (.bl (decide (xs = ys))) :=
  fun B F α H σ S Q v1 v2 R eL' r1 r2 k pins s u1 u2 I q1 q2 => by
    subst eL'
    obtain ⟨as, ra⟩ := Dp.reads I _ _ _ (show Dp X.K H v1 (toP (eL enc xs)) from asL_dp R h hl1 r1) q1
    obtain ⟨bs, rb⟩ := Dp.reads I _ _ _ (show Dp X.K H v2 (toP (eL enc ys)) from asL_dp R h hl r2) q2
    refine PySem.SeqAt.eq_plain ra rb (plain_toP _) (plain_toP _) ?_ ?_
    · have := (ee_L h).dep xs; have := Nat.min_le_left (toP (eL enc xs)).depth (toP (eL enc ys)).depth; omega
    · rw [(ee_L h).eqv]; exact ⟨.bl _, H, I, rfl, k F α _ H R Stp.refl (.bl _)⟩
theorem o_neCC [DecidableEq τ] (hu : X.A.units + 64 < cLine) (h : EqEnc n enc) {xs ys : List τ} {L : List (Nat × LO)} {c1 c : Ce} (hl1 : AsL L c1 (xs.map enc)) (hl : AsL L c (ys.map enc)) (hn : n + 1 ≤ 60 := by decide) : OpCC X (compareOp .NotEq) L c1 c (.bl (!decide (xs = ys))) :=
  fun B F α H σ S Q v1 v2 R eL' r1 r2 k pins s u1 u2 I q1 q2 => by
    subst eL'
    obtain ⟨as, ra⟩ := Dp.reads I _ _ _ (show Dp X.K H v1 (toP (eL enc xs)) from asL_dp R h hl1 r1) q1
    obtain ⟨bs, rb⟩ := Dp.reads I _ _ _ (show Dp X.K H v2 (toP (eL enc ys)) from asL_dp R h hl r2) q2
    refine PySem.SeqAt.ne_plain ra rb (plain_toP _) (plain_toP _) ?_ ?_
    · have := (ee_L h).dep xs; have := Nat.min_le_left (toP (eL enc xs)).depth (toP (eL enc ys)).depth; omega
    · rw [(ee_L h).eqv]; exact ⟨.bl _, H, I, rfl, k F α _ H R Stp.refl (.bl _)⟩
theorem et_cmpCC {op : CmpOp} {i : Bool} {c1 : Ce} (ho : OpCC X (compareOp op) S.L c1 c2 (.bl i)) (ha : Ev X B a S c1 S) (hb : Ev X B b S c2 S) (hm : behindInMarks op b = false) : Et X B (.Compare a [op] [b] pos) S i S :=
  fun F α H σ Q R k pins s I => by
    refine wpAny_isTrue_Compare1 (thn (ha F α H σ _ R (fun F1 α1 v1 H1 R1 st1 r1 => hb F1 α1 H1 σ (fun v2 H2 => ∃ F2 α2, RelX X B F2 α2 H2 σ S ∧ Stp F α S.L F2 α2 ∧ CR X F2 α2 S.L c1 v1 ∧ CR X F2 α2 S.L c2 v2) R1 fun F2 α2 v2 H2 R2 st2 r2 =>
      ⟨F2, α2, R2, st1.trans st2 Sub.refl, r1.step st2 Sub.refl, r2⟩) pins s I) fun v s1 ⟨x, H1, I1, rv, q1⟩ => thn (q1 pins s1 I1) fun u s2 ⟨y, H2, I2, ru, F2, α2, R2, st, r1, r2⟩ => ?_) hm
    refine thn (ho B F2 α2 H2 σ S (fun v' H' => ∃ k, v' = .bl k ∧ Q k H') x y R2 rfl r1 r2 (fun F' α' v' H' R' st' r' => by cases r'; exact ⟨i, rfl, k F' α' H' R' (st.trans st' Sub.refl)⟩) pins s2 v u I2 rv ru) fun c s3 ⟨z, H3, I3, r3, k', e, q3⟩ => ?_
    subst e
    cases r3
    exact wpAny_truthy_bool ⟨H3, I3, q3⟩
/-- xs.index(y), flat and typed, of what lives too -/
theorem ev_indexC {ca : Ce} {ns : List Str} {i : Str} (hi : i ∈ ns) (hl : AsL S1.L ca (ns.map D.str)) (ho : Ev X B o S ca S1) (ha : Ev X B e S1 (.fr (.str i)) S1) (hS : Sub S.L S1.L := by exact Sub.refl)
    (hbase : attributeBase o "index" X.env (eval o X.env) = eval o X.env := by rfl)
    (hfew : ((backTo pos (starEach (e :: []) X.env)).all (fun x => !x.1) && (backToKw pos (keywordEach [] X.env)).all (fun x => x.1.isSome)
      && decide ((e :: ([] : List Expr)).length + ([] : List Keyword).length + (if ([] : List Keyword).isEmpty then 0 else 1) < 30)) = true := by rfl)
    (hline : (apos.endLine == pos.line) = true := by rfl) (hs : starEach (e :: []) X.env = (false, eval e X.env) :: starEach [] X.env := by rfl) (hplain : (backTo pos (starEach [] X.env)).any (·.1) = false := by rfl) :
    Ev X B (.Call (.Attribute o "index" apos) [e] [] pos) S (.fr (.int (ns.idxOf i : Nat))) S1 :=
  fun F α H σ Q R k => wE.of (pe_bm PySem.F.plainAttrs_list PySem.F.slot_list_index PySem.F.type_list_index mt_index pe_w (pa_cons pe_w pa_nil hs) hbase hfew hline hs hplain) (ho F α H σ _ R fun F1 α1 v1 H1 R1 st1 r1 => by
    obtain ⟨l, us, rfl, hq, rs⟩ := R1.asL hl r1
    refine ⟨.inl ⟨rfl, us, hq⟩, ha F1 α1 H1 σ _ R1 fun F2 α2 v2 H2 R2 st2 r2 => ?_⟩
    obtain ⟨l2, us2, e2, hq2, rs2⟩ := R2.asL hl (r1.step st2 Sub.refl)
    cases e2
    cases r2
    have e3 := Reps.strs_eq rs2
    rw [e3] at hq2
    have hlt := List.idxOf_lt_length_of_mem hi
    have hget : ns[ns.idxOf i]? = some i := by rw [List.getElem?_eq_getElem hlt, List.getElem_idxOf]
    refine ⟨l, ns.map V.str, .str i, ns.idxOf i, .str i, rfl, rfl, hq2, rfl, ?_, by rw [List.getElem?_map, hget]; rfl, ?_, ?_, k F2 α2 _ H2 R2 (st1.trans st2 hS) (.int _)⟩
    · rw [List.all_map, List.all_eq_true]; intro _ _; rfl
    · exact beq_self_eq_true i
    · intro m z' hm hz
      rw [List.getElem?_map] at hz
      cases hg : ns[m]? with
      | none => rw [hg] at hz; cases hz
      | some y =>
        rw [hg] at hz
        cases hz
        show (y == i) = false
        obtain ⟨hml, hmv⟩ := List.getElem?_eq_some_iff.mp hg
        have := List.not_of_lt_findIdx (p := (· == i)) (xs := ns) hm
        rw [← hmv]
        simpa using this)
/-- xs[i] = v, typed -/
theorem ex_setIT {K : Out → Prop} (n : Nat) {i : Int} {xs : List τ} (v : τ) {d : D} (hd : d = enc v) (hl : getL n S1.L = some (.fl (xs.map enc))) (h0 : 0 ≤ i) (h1 : i < xs.length) (he : Ev X B e S (.fr d) S1) (ho : Ev X B o S1 (.ad n) S1) (hi : Ev X B a S1 (.fr (.int i)) S1)
    (k : K (.nx ⟨S1.ρ, setL n (.fl ((xs.set i.toNat v).map enc)) S1.L⟩)) (hs : swapsWithSole [.Subscript o a p] e pos.line X.env = pure false := by rfl) (hw : swappedStores [.Subscript o a p] e X.env = pure none := by rfl)
    (h2 : (assignEach [.Subscript o a p] X.env).map (·.2) = [assign (.Subscript o a p) X.env] := by rfl)
    (hsub : ∀ v, assign (.Subscript o a p) X.env v = (do
      let ov ← holding [v] (eval o X.env)
      let iv ← holding [v, ov] (eval a X.env)
      standAt p
      holding [v, ov, iv] (setItem ov iv v)
      release [v, ov, iv] []) := by intro _; rfl) : Ex X B (.Assign [.Subscript o a p] e pos) S K := by
  subst hd
  refine ex_setI n he ho hi hl h0 (by rw [List.length_map]; exact h1) ?_ hs hw h2 hsub
  rw [← List.map_set]; exact k
/-- [x] * n, typed -/
theorem flat_rep (x : τ) : ∀ n : Nat, (List.replicate n [enc x]).flatten = (List.replicate n x).map enc
  | 0 => rfl
  | n + 1 => by rw [List.replicate_succ, List.flatten_cons, flat_rep x n, List.replicate_succ]; rfl
theorem ev_repT {i : Int} (x : τ) (ha : Ea X B es S [.fr (enc x)] S1) (hb : Ev X B b S1 (.fr (.int i)) S1) (h1 : i ≤ sizeLine) (h2 : -(2 ^ 63) ≤ i) (SUBS : Sub S.L S1.L := by exact Sub.refl) : Ev X B (.BinOp (.List es q) .Mult b pos) S (.fr (eL enc (List.replicate i.toNat x))) S1 := by
  have hSL := sizeLine_eq
  have := ev_repD (ds := [enc x]) (q := q) (pos := pos) ha hb (by rw [List.length_singleton]; omega) h2 (by omega) (by rw [List.length_singleton]; omega) SUBS
  rwa [flat_rep] at this
/-- .. that lives -/
theorem ev_repTL {i : Int} (m : Nat) (x : τ) (ha : Ea X B es S [.fr (enc x)] S1) (hb : Ev X B b S1 (.fr (.int i)) S1) (hn : m ∉ names S1.L) (h100 : 100 ≤ m) (h1 : i ≤ sizeLine) (h2 : -(2 ^ 63) ≤ i) (SUBS : Sub S.L S1.L := by exact Sub.refl) :
    Ev X B (.BinOp (.List es q) .Mult b pos) S (.ad m) ⟨S1.ρ, S1.L ++ [(m, .fl ((List.replicate i.toNat x).map enc))]⟩ :=
  fun F α H σ Q R k => wE.of (pe_op op_rep (pe_lst pa_w) pe_w) (ha F α H σ _ R fun F1 α1 vs H1 R1 st1 r1 => by
    have hSL := sizeLine_eq
    have r := CRels.fr (ds := [enc x]) r1
    have hlen := r.length
    rw [List.length_singleton] at hlen
    refine ⟨by omega, fun p hp => ?_⟩
    have hf := R1.fresh hp
    have R2 := R1.allocF (o := .lst vs) hp
    refine hb _ α1 _ σ _ R2 fun F3 α3 v3 H3 R3 st3 r3 => ?_
    cases r3
    have e3 : F3 p = some (.lst vs) := st3.fro _ _ upd_same
    refine ⟨p, i, vs, rfl, rfl, R3.sub _ _ e3, h2, by omega, by rw [← hlen]; omega, fun p' hp' => ?_⟩
    have hf' := R3.fresh hp'
    have rr : Reps X.K X.mg F3 [enc x] vs := r.mono ((same_upd hf).trans st3.fro)
    have rr2 := rr.rep i.toNat
    rw [flat_rep] at rr2
    have stA : Stp F α S.L F3 α3 := ⟨(st1.fro.trans (same_upd hf)).trans st3.fro, fun n hn => by rw [st3.nm n (SUBS n hn), st1.nm n hn]⟩
    refine k F3 (setα α3 m p') _ _ (R3.allocL hp' hn h100 ⟨_, upd_same, rr2⟩) (stA.trans (stp_setα hn) SUBS) ⟨?_, ?_⟩
    · rw [names_append]; exact List.mem_append_right _ (List.mem_singleton.mpr rfl)
    · show V.ref p' = V.ref (if m = m then p' else α3 m)
      rw [if_pos rfl])
/-- for i in range(a, b, -1) -/
theorem src_rangeD {i j : Int} {c : Expr} (h : Ea X B [a, b, c] S [.fr (.int i), .fr (.int j), .fr (.int (-1))] S1) (hg : Gl X "range") (hm : X.mg "range" = none) (h1 : -(2 ^ 62) ≤ i) (h2 : i < 2 ^ 62) (h3 : -(2 ^ 62) ≤ j) (h4 : j < 2 ^ 62) (hs : starEach [a, b, c] X.env = (false, eval a X.env) :: starEach [b, c] X.env := by rfl) (hpl : (backTo pos (starEach [b, c] X.env)).any (·.1) = false := by rfl) :
    Src X B tg (.Call (.Name "range" p) [a, b, c] [] pos) S ((List.range (i - j).toNat).map fun k : Nat => D.int (i + (k : Int) * -1)) S1 :=
  fun F α H σ R RR k => wI.of (pi_range3 hg hm pa_w hs hpl) (h F α H σ _ RR fun F1 α1 vs H1 R1 st1 r1 => by
    have r := CRels.fr (ds := [.int i, .int j, .int (-1)]) r1
    cases r with
    | cons q1 r =>
      cases r with
      | cons q2 r =>
        cases r with
        | cons q3 r =>
          cases r
          cases q1; cases q2; cases q3
          refine ⟨i, j, -1, (i - j).toNat, rfl, RgC.neg h1 h2 h3 h4, k F1 α1 H1 _ R1 st1 ⟨fun B F' α H σ S n d R' hs hi => ?_, fun B F' α H σ S n R' hs hi => by rw [List.length_map, List.length_range] at hi; exact hi⟩⟩
          rw [List.getElem?_map] at hi
          by_cases hn : n < (i - j).toNat
          · rw [List.getElem?_range hn] at hi
            refine ⟨hn, fun x H' y => ?_⟩
            obtain ⟨rfl, rfl⟩ := y
            cases hi
            exact ⟨F', R', Same.refl _, .int _⟩
          · rw [List.getElem?_eq_none (by rw [List.length_range]; omega)] at hi; cases hi)
/-- list(e), of what lives too -/
theorem ev_listC {ca : Ce} {xs : List τ} (hl : AsL S1.L ca (xs.map enc)) (ha : Ev X B e S ca S1) (hg : Gl X "list") (hm : X.mg "list" = none) (hv : bootBuiltins "list" = some (.type "list") := by decide +kernel)
    (hs : starEach [e] X.env = (false, eval e X.env) :: starEach [] X.env := by rfl) (hpl : (backTo pos (starEach [] X.env)).any (·.1) = false := by rfl) : Ev X B (.Call (.Name "list" p) [e] [] pos) S (.fr (eL enc xs)) S1 :=
  fun F α H σ Q R k => wE.of (pe_callTy call_list_of hg hm hv (pa_cons pe_w pa_nil hs) (by decide) (by decide) hs hpl) (ha F α H σ _ R fun F1 α1 v1 H1 R1 st1 r1 => by
    obtain ⟨a, vs, rfl, hq, rs⟩ := R1.asL hl r1
    refine ⟨a, vs, rfl, .inl hq, fun p hp => ?_⟩
    have hf := R1.fresh hp
    exact k _ α1 _ _ (R1.allocF hp) ⟨st1.fro.trans (same_upd hf), st1.nm⟩ (Rep.lst (SqL.of upd_same) (rs.mono (same_upd hf))))
/-- if xs: of what lives -/
theorem et_listC {ca : Ce} {xs : List τ} (hl : AsL S1.L ca (xs.map enc)) (ha : Ev X B a S ca S1) (he : ∀ whole, isTrue a X.env whole = (do let v ← whole; standAt a.pos; holding [v] (truthy v)) := by intro _; rfl) : Et X B a S (!xs.isEmpty) S1 :=
  fun F α H σ Q R k => wT.of (pt_truth pe_w he) (ha F α H σ _ R fun F1 α1 v1 H1 R1 st1 r1 => by
    obtain ⟨p, us, rfl, hq, rs⟩ := R1.asL hl r1
    refine ⟨!xs.isEmpty, ?_, k F1 α1 H1 R1 st1⟩
    have : us.isEmpty = xs.isEmpty := by
      have := rs.length
      rw [List.length_map] at this
      cases us <;> cases xs <;> simp_all
    exact .inl ⟨us, hq, by rw [this]⟩)
end
section
variable {X : Cx} {B : Bd} {S S1 : Nz.S} {elt tg iter a : Expr} {scope : Scope} {own : List (Str × Nat)} {pos : Pos} {K : Out → Prop} {τ μ : Type} {ys : List τ} {enc : τ → D} {enc2 : μ → D}
theorem ev_lcML (nD : Nat) (g : τ → μ) (Sx : Nat → τ → List D → Nz.S) (hc : X.calm = true) (hN : X.N.Nodup) (ok : BlkOk X.N X.env.scope scope own)
    (hsrc : Src X B tg iter S (ys.map enc) S1) (hn : nD ∉ names S1.L) (h100 : 100 ≤ nD) (hz : ys.length ≤ sizeLine)
    (hg : ∀ i y acc, ys[i]? = some y → ∀ s H0 C cl fp, EgC (Blk X scope s H0 C cl fp) B tg (.fr (enc y)) ⟨wipeC S1.ρ (own.map (·.2)), S1.L ++ [(nD, .fl acc)]⟩ (Sx i y acc) (own.map (·.2)))
    (he : ∀ i y acc, ys[i]? = some y → ∀ s H0 C cl fp, Ev (Blk X scope s H0 C cl fp) B elt (Sx i y acc) (.fr (enc2 (g y))) (Sx i y acc)) (hL : ∀ i y acc, (Sx i y acc).L = S1.L ++ [(nD, .fl acc)] := by exact fun _ _ _ => rfl) (hS : Sub S.L S1.L := by exact Sub.refl) (hs : ∀ x, foldedSetIterable iter X.env x = pure x := by intro _; rfl) :
    Ev X B (.ListComp elt [⟨tg, iter, [], 0⟩] scope pos) S (.ad nD) ⟨S1.ρ, S1.L ++ [(nD, .fl ((ys.map g).map enc2))]⟩ := by
  have := ev_lcL (pos := pos) nD ys enc (fun y => enc2 (g y)) (fun _ => true) Sx hc hN ok hsrc hn h100 hz hL hg (fun _ _ _ _ _ _ _ _ _ => ets_nil) (fun i y acc h1 _ => he i y acc h1) hS hs
  rwa [lm_map] at this
theorem ex_setLcML (i : Nat) {y : Str} {py spos : Pos} (nD : Nat) (g : τ → μ) (Sx : Nat → τ → List D → Nz.S) (hc : X.calm = true) (hN : X.N.Nodup) (hy : X.N[i]? = some y) (hyl : X.env.scope.names.lookup y = some .local)
    (hsw : swapsWith (.ListComp elt [⟨tg, iter, [], 0⟩] scope pos) (some (.Name y py)) spos.line X.env = pure true) (ok : BlkOk X.N X.env.scope scope own)
    (hsrc : Src X B tg iter S (ys.map enc) S1) (hn : nD ∉ names S1.L) (h100 : 100 ≤ nD) (hz : ys.length ≤ sizeLine)
    (hg : ∀ i y acc, ys[i]? = some y → ∀ s H0 C cl fp, EgC (Blk X scope s H0 C cl fp) B tg (.fr (enc y)) ⟨wipeC S1.ρ (own.map (·.2)), S1.L ++ [(nD, .fl acc)]⟩ (Sx i y acc) (own.map (·.2)))
    (he : ∀ i y acc, ys[i]? = some y → ∀ s H0 C cl fp, Ev (Blk X scope s H0 C cl fp) B elt (Sx i y acc) (.fr (enc2 (g y))) (Sx i y acc))
    (k : K (.nx (setS ⟨S1.ρ, S1.L ++ [(nD, .fl ((ys.map g).map enc2))]⟩ i (.ad nD)))) (hL : ∀ i y acc, (Sx i y acc).L = S1.L ++ [(nD, .fl acc)] := by exact fun _ _ _ => rfl) (hS : Sub S.L S1.L := by exact Sub.refl) (hs : ∀ x, foldedSetIterable iter X.env x = pure x := by intro _; rfl) :
    Ex X B (.Assign [.Name y py] (.ListComp elt [⟨tg, iter, [], 0⟩] scope pos) spos) S K :=
  ex_setLcL i nD ys enc (fun y => enc2 (g y)) (fun _ => true) Sx hc hN hy hyl hsw ok hsrc hn h100 hz hL hg (fun _ _ _ _ _ _ _ _ _ => ets_nil) (fun i y acc h1 _ => he i y acc h1) (by
    rw [lm_map]; exact k) hS hs
theorem ev_lcFL (nD : Nat) (g : τ → μ) (p : τ → Bool) (Sx : Nat → τ → List D → Nz.S) (hc : X.calm = true) (hN : X.N.Nodup) (ok : BlkOk X.N X.env.scope scope own)
    (hsrc : Src X B tg iter S (ys.map enc) S1) (hn : nD ∉ names S1.L) (h100 : 100 ≤ nD) (hz : ys.length ≤ sizeLine)
    (hg : ∀ i y acc, ys[i]? = some y → ∀ s H0 C cl fp, EgC (Blk X scope s H0 C cl fp) B tg (.fr (enc y)) ⟨wipeC S1.ρ (own.map (·.2)), S1.L ++ [(nD, .fl acc)]⟩ (Sx i y acc) (own.map (·.2)))
    (ht : ∀ i y acc, ys[i]? = some y → ∀ s H0 C cl fp, Et (Blk X scope s H0 C cl fp) B a (Sx i y acc) (p y) (Sx i y acc))
    (he : ∀ i y acc, ys[i]? = some y → p y = true → ∀ s H0 C cl fp, Ev (Blk X scope s H0 C cl fp) B elt (Sx i y acc) (.fr (enc2 (g y))) (Sx i y acc)) (hL : ∀ i y acc, (Sx i y acc).L = S1.L ++ [(nD, .fl acc)] := by exact fun _ _ _ => rfl) (hS : Sub S.L S1.L := by exact Sub.refl) (hs : ∀ x, foldedSetIterable iter X.env x = pure x := by intro _; rfl) :
    Ev X B (.ListComp elt [⟨tg, iter, [a], 0⟩] scope pos) S (.ad nD) ⟨S1.ρ, S1.L ++ [(nD, .fl (((ys.filter p).map g).map enc2))]⟩ := by
  have := ev_lcL (pos := pos) nD ys enc (fun y => enc2 (g y)) p Sx hc hN ok hsrc hn h100 hz hL hg (fun i y acc h s H0 C cl fp => ets_one (ht i y acc h s H0 C cl fp)) he hS hs
  rwa [lm_filt] at this
theorem ex_setLcFL (i : Nat) {y : Str} {py spos : Pos} (nD : Nat) (g : τ → μ) (p : τ → Bool) (Sx : Nat → τ → List D → Nz.S) (hc : X.calm = true) (hN : X.N.Nodup) (hy : X.N[i]? = some y) (hyl : X.env.scope.names.lookup y = some .local)
    (hsw : swapsWith (.ListComp elt [⟨tg, iter, [a], 0⟩] scope pos) (some (.Name y py)) spos.line X.env = pure true) (ok : BlkOk X.N X.env.scope scope own)
    (hsrc : Src X B tg iter S (ys.map enc) S1) (hn : nD ∉ names S1.L) (h100 : 100 ≤ nD) (hz : ys.length ≤ sizeLine)
    (hg : ∀ i y acc, ys[i]? = some y → ∀ s H0 C cl fp, EgC (Blk X scope s H0 C cl fp) B tg (.fr (enc y)) ⟨wipeC S1.ρ (own.map (·.2)), S1.L ++ [(nD, .fl acc)]⟩ (Sx i y acc) (own.map (·.2)))
    (ht : ∀ i y acc, ys[i]? = some y → ∀ s H0 C cl fp, Et (Blk X scope s H0 C cl fp) B a (Sx i y acc) (p y) (Sx i y acc))
    (he : ∀ i y acc, ys[i]? = some y → p y = true → ∀ s H0 C cl fp, Ev (Blk X scope s H0 C cl fp) B elt (Sx i y acc) (.fr (enc2 (g y))) (Sx i y acc))
    (k : K (.nx (setS ⟨S1.ρ, S1.L ++ [(nD, .fl (((ys.filter p).map g).map enc2))]⟩ i (.ad nD)))) (hL : ∀ i y acc, (Sx i y acc).L = S1.L ++ [(nD, .fl acc)] := by exact fun _ _ _ => rfl) (hS : Sub S.L S1.L := by exact Sub.refl) (hs : ∀ x, foldedSetIterable iter X.env x = pure x := by intro _; rfl) :
    Ex X B (.Assign [.Name y py] (.ListComp elt [⟨tg, iter, [a], 0⟩] scope pos) spos) S K :=
  ex_setLcL i nD ys enc (fun y => enc2 (g y)) p Sx hc hN hy hyl hsw ok hsrc hn h100 hz hL hg (fun i y acc h s H0 C cl fp => ets_one (ht i y acc h s H0 C cl fp)) he (by
    rw [lm_filt]; exact k) hS hs
end
end Nz

namespace Nz
open PySem PySem.Spec PyProof.Rows L2
/-! a def that reads what lives here: all live lists are lent to it as frozen ones -/
mutual
def noL : D → Bool
  | .non | .bl _ | .int _ | .str _ => true
  | .tup xs => noLs xs
  | _ => false
def noLs : List D → Bool
  | [] => true
  | d :: ds => noL d && noLs ds
end
structure NoL {τ : Type} (e : τ → D) : Prop where
  ok : ∀ x, noL (e x) = true
theorem nl_int : NoL D.int := ⟨fun _ => rfl⟩
theorem nl_bool : NoL D.bl := ⟨fun _ => rfl⟩
theorem nl_str : NoL D.str := ⟨fun _ => rfl⟩
theorem nl_non : NoL eN := ⟨fun _ => rfl⟩
section
variable {τ μ ν κ ι : Type} {e : τ → D} {f : μ → D} {g : ν → D} {h : κ → D} {j : ι → D}
theorem nl_O (a : NoL e) : NoL (eO e) := ⟨fun x => by cases x with | none => rfl | some y => exact a.ok y⟩
theorem nl_T1 (a : NoL e) : NoL (eT1 e) := ⟨fun x => by simp [noL, noLs, a.ok]⟩
theorem nl_T2 (a : NoL e) (b : NoL f) : NoL (eT2 e f) := ⟨fun x => by simp [noL, noLs, a.ok, b.ok]⟩
theorem nl_T3 (a : NoL e) (b : NoL f) (c : NoL g) : NoL (eT3 e f g) := ⟨fun x => by simp [noL, noLs, a.ok, b.ok, c.ok]⟩
theorem nl_T4 (a : NoL e) (b : NoL f) (c : NoL g) (d : NoL h) : NoL (eT4 e f g h) := ⟨fun x => by simp [noL, noLs, a.ok, b.ok, c.ok, d.ok]⟩
theorem nl_T5 (a : NoL e) (b : NoL f) (c : NoL g) (d : NoL h) (k : NoL j) : NoL (eT5 e f g h j) := ⟨fun x => by simp [noL, noLs, a.ok, b.ok, c.ok, d.ok, k.ok]⟩
theorem nls_map (a : NoL e) : ∀ xs : List τ, noLs (xs.map e) = true
  | [] => rfl
  | x :: xs => by show (noL (e x) && noLs (xs.map e)) = true; rw [a.ok, nls_map a xs]; rfl
end
section
variable {K : Frag} {mg : Mg} {F F' : Hp}

mutual
theorem Rep.lent (hT : ∀ a vs, SqT K F a vs → SqT K F' a vs) : ∀ {d : D} {v : V}, noL d = true → Rep K mg F d v → Rep K mg F' d v
  | .non, _, _, .non => .non
  | .bl _, _, _, .bl b => .bl b
  | .int _, _, _, .int i => .int i
  | .str _, _, _, .str s => .str s
  | .tup _, _, h, .tup h1 h2 => .tup (hT _ _ h1) (Reps.lent hT (by simpa [noL] using h) h2)
  | .lst _, _, h, .lst _ _ => by simp [noL] at h
  | .obj _ _, _, h, .obj _ _ _ _ => by simp [noL] at h
theorem Reps.lent (hT : ∀ a vs, SqT K F a vs → SqT K F' a vs) : ∀ {ds : List D} {vs : List V}, noLs ds = true → Reps K mg F ds vs → Reps K mg F' ds vs
  | [], _, _, .nil => .nil
  | _ :: _, _, h, .cons h1 h2 => by
    rw [noLs, Bool.and_eq_true] at h
    exact .cons (Rep.lent hT h.1 h1) (Reps.lent hT h.2 h2)
end
end
def boOf (L : List (Nat × LO)) : List Ce → Option (List D)
  | [] => some []
  | .fr d :: cs => (boOf L cs).map (d :: ·)
  | .ad n :: cs => match getL n L with
    | some (.fl xs) => (boOf L cs).map (.lst xs :: ·)
    | _ => none
section
variable {K : Frag} {mg : Mg} {B : Bd} {F F' : Hp} {α α' : Nat → Addr} {H H' : Hp} {σ σ' : L2.St} {S S' : Nz.S}
def lentAt (α : Nat → Addr) (L : List (Nat × LO)) (b : Addr) : Prop := ∃ n xs, (n, LO.fl xs) ∈ L ∧ b = α n
open Classical in
noncomputable def lendF (F H : Hp) (α : Nat → Addr) (L : List (Nat × LO)) : Hp := fun b => if lentAt α L b then H b else F b
open Classical in
noncomputable def unlend (F : Hp) (α : Nat → Addr) (L : List (Nat × LO)) : Hp := fun b => if lentAt α L b then none else F b
theorem Rel.lent_none (R : Rel K mg B F α H σ S) {b : Addr} (h : lentAt α S.L b) : F b = none := by
  obtain ⟨n, xs, h1, rfl⟩ := h
  exact (R.live n _ h1).1
theorem Rel.lent_lst (R : Rel K mg B F α H σ S) {b : Addr} (h : lentAt α S.L b) : ∃ vs, H b = some (.lst vs) := by
  obtain ⟨n, xs, h1, rfl⟩ := h
  obtain ⟨_, _, vs, e, _⟩ := R.live n _ h1
  exact ⟨vs, e⟩
theorem Rel.lend_same (R : Rel K mg B F α H σ S) : Same F (lendF F H α S.L) := fun b o e => by
  unfold lendF
  by_cases h : lentAt α S.L b
  · rw [R.lent_none h] at e; cases e
  · rw [if_neg h]; exact e
theorem Rel.lend_sub (R : Rel K mg B F α H σ S) : Same (lendF F H α S.L) H := fun b o e => by
  unfold lendF at e
  by_cases h : lentAt α S.L b
  · rw [if_pos h] at e; exact e
  · rw [if_neg h] at e; exact R.sub b o e
theorem Rel.lend_reps (R : Rel K mg B F α H σ S) : ∀ {cs : List Ce} {ds : List D} {vs : List V}, boOf S.L cs = some ds → CRels K mg F α S.L cs vs → Reps K mg (lendF F H α S.L) ds vs
  | [], ds, _, h, .nil => by cases h; exact .nil
  | .fr d :: cs, ds, _, h, .cons r rs => by
    unfold boOf at h
    cases q : boOf S.L cs with
    | none => rw [q] at h; cases h
    | some ds' =>
      rw [q] at h; cases h
      exact .cons (Rep.mono R.lend_same (show Rep K mg F d _ from r)) (R.lend_reps q rs)
  | .ad n :: cs, ds, _, h, .cons r rs => by
    unfold boOf at h
    split at h
    · rename_i xs hx
      cases q : boOf S.L cs with
      | none => rw [q] at h; cases h
      | some ds' =>
        rw [q] at h; cases h
        obtain ⟨hn, rfl⟩ := r
        obtain ⟨f0, f1, us, e1, rs1⟩ := R.live n _ (getL_mem hx)
        refine .cons (.lst (SqL.of ?_) (rs1.mono R.lend_same)) (R.lend_reps q rs)
        unfold lendF
        rw [if_pos ⟨n, xs, getL_mem hx, rfl⟩]; exact e1
    · cases h
/-- behind the call -/
theorem Rel.unlend (R : Rel K mg B F α H σ S) {α0 : Nat → Addr} (R' : Rel K mg (bdOf (lendF F H α S.L) H (fun _ => False) α0 []) F' α' H' σ' S') :
    Rel K mg B (Nz.unlend F' α S.L) α H' σ S ∧ Same F (Nz.unlend F' α S.L) ∧ (∀ a vs, SqT K F' a vs → SqT K (Nz.unlend F' α S.L) a vs) := by
  have hF' : Same (lendF F H α S.L) F' := R'.bF
  have h1 : Same F (Nz.unlend F' α S.L) := fun b o e => by
    unfold Nz.unlend
    by_cases h : lentAt α S.L b
    · rw [R.lent_none h] at e; cases e
    · rw [if_neg h]; exact hF' b o (R.lend_same b o e)
  have hH : Same H H' := fun b o e => R'.frame b o e fun z => z
  refine ⟨R.grow h1 hH (fun b o e => ?_) fun b u e => ?_, h1, fun a vs q => ?_⟩
  · unfold Nz.unlend at e
    by_cases h : lentAt α S.L b
    · rw [if_pos h] at e; cases e
    · rw [if_neg h] at e; exact R'.sub b o e
  · unfold Nz.unlend at e
    by_cases h : lentAt α S.L b
    · rw [if_pos h] at e; cases e
    · rw [if_neg h] at e
      rcases R'.nF b u e with z | z | z
      · have z : lendF F H α S.L b = some u := z
        unfold lendF at z
        rw [if_neg h] at z; exact .inl z
      · exact .inr z
      · exact z.elim
  · have key : ∀ o, F' a = some o → (∀ ws, o ≠ .lst ws) → Nz.unlend F' α S.L a = some o := fun o e ne => by
      unfold Nz.unlend
      by_cases h : lentAt α S.L a
      · obtain ⟨ws, hw⟩ := R.lent_lst h
        have : F' a = some (.lst ws) := hF' a _ (by unfold lendF; rw [if_pos h]; exact hw)
        rw [this] at e; cases e; exact absurd rfl (ne ws)
      · rw [if_neg h]; exact e
    rcases q with (q | ⟨o, q⟩) | q
    · exact .inl (.inl (key _ q fun ws z => by cases z))
    · exact .inl (.inr ⟨o, key _ q fun ws z => by cases z⟩)
    · exact .inr q
end
section
variable {X : Cx} {B : Bd} {S S1 S2 : Nz.S} {e : Expr} {es : List Expr} {pos p : Pos} {d : D} {ds : List D} {cs : List Ce} {x : Str} {fd : FuncData} {ps : List Str} {k : Nat} {sp : SpN} {f : Addr}
/-- f(e, ..) where arguments live; what it gives holds no list -/
theorem ev_callBo (F : FnOk X.prog X.w X.K X.mg X.base CX0 k f fd ps (SpOf X.K X.mg sp)) (hr : Room k X.A) (hm : X.mg x = some (.ref f)) (hk : PySem.W.keepIn X.K (.ref f) = true) (hb : Binds X.K fd ps [])
    (ha : Ea X B (e :: es) S cs S1) (hbo : boOf S1.L cs = some ds) (hno : noL d = true) (hs : ∀ Kc : Ce → List (Nat × LO) → Prop, (∀ L', Kc (.fr d) L') → sp (ds.map Ce.fr) [] Kc) (hg : Gl X x) (h1 : Sub S.L S1.L := by exact Sub.refl) (hdb : (x == ("__debug__" : Str)) = false := by decide)
    (he : starEach (e :: es) X.env = (false, eval e X.env) :: starEach es X.env := by rfl) (hpl : (backTo pos (starEach es X.env)).any (·.1) = false := by rfl) : Ev X B (.Call (.Name x p) (e :: es) [] pos) S (.fr d) S1 :=
  fun F0 α H σ Q R k => wE.of (pe_call F hr hg hm hk hb .nil pass0 pa_w hdb he hpl) (ha F0 α H σ _ R fun F1 α1 vs H1 R1 st1 r1 => by
    rw [List.append_nil]
    have rr := R1.lend_reps hbo r1
    refine ⟨lendF F1 H1 α1 S1.L, α1, [], _, fun _ => False, ⟨R1.lend_sub, Same.refl _, fun b o e => .inl e, fun b o e _ => e, List.nodup_nil, fun n m h => absurd h (by simp [names]), fun n o h => absurd h (by simp), paired_slots rr, fun n a h hn => absurd hn (by simp [names])⟩, hs _ fun L' F' α' v H' ρ' σ' R' r' => ?_⟩
    obtain ⟨Ru, sF, hT⟩ := R1.unlend R'
    exact k _ α1 v H' Ru (st1.trans ⟨sF, fun _ _ => rfl⟩ h1) (Rep.lent hT hno (show Rep X.K X.mg F' d v from r')))
/-- .. and a new list that lives, of such things -/
theorem ev_callBoN (m : Nat) {xs : List D} (F : FnOk X.prog X.w X.K X.mg X.base CX0 k f fd ps (SpOf X.K X.mg sp)) (hr : Room k X.A) (hm : X.mg x = some (.ref f)) (hk : PySem.W.keepIn X.K (.ref f) = true) (hb : Binds X.K fd ps [])
    (ha : Ea X B (e :: es) S cs S1) (hbo : boOf S1.L cs = some ds) (hno : noLs xs = true) (hn : m ∉ names S1.L) (h100 : 100 ≤ m) (hs : ∀ Kc : Ce → List (Nat × LO) → Prop, (∀ n L', getL n L' = some (.fl xs) → Kc (.ad n) L') → sp (ds.map Ce.fr) [] Kc) (hg : Gl X x) (h1 : Sub S.L S1.L := by exact Sub.refl) (hdb : (x == ("__debug__" : Str)) = false := by decide)
    (he : starEach (e :: es) X.env = (false, eval e X.env) :: starEach es X.env := by rfl) (hpl : (backTo pos (starEach es X.env)).any (·.1) = false := by rfl) : Ev X B (.Call (.Name x p) (e :: es) [] pos) S (.ad m) ⟨S1.ρ, S1.L ++ [(m, .fl xs)]⟩ :=
  fun F0 α H σ Q R k => wE.of (pe_call F hr hg hm hk hb .nil pass0 pa_w hdb he hpl) (ha F0 α H σ _ R fun F1 α1 vs H1 R1 st1 r1 => by
    rw [List.append_nil]
    have rr := R1.lend_reps hbo r1
    refine ⟨lendF F1 H1 α1 S1.L, α1, [], _, fun _ => False, ⟨R1.lend_sub, Same.refl _, fun b o e => .inl e, fun b o e _ => e, List.nodup_nil, fun n m h => absurd h (by simp [names]), fun n o h => absurd h (by simp), paired_slots rr, fun n a h hn => absurd hn (by simp [names])⟩, hs _ fun n L' h0 F' α' v H' ρ' σ' R' r' => ?_⟩
    obtain ⟨Ru, sF, hT⟩ := R1.unlend R'
    obtain ⟨hnm, rfl⟩ := r'
    obtain ⟨g0, g1, us, hu, ru⟩ := R'.live n _ (getL_mem h0)
    have g1 : H1 (α' n) = none := g1.elim id fun z => z.elim
    have ne : ∀ k, k ∈ names S1.L → α1 k ≠ α' n := fun k hk q => by
      obtain ⟨⟨k', o'⟩, h1, h2⟩ := List.mem_map.mp hk
      cases h2
      obtain ⟨w', hw⟩ := (R1.live _ _ h1).2.2.is
      rw [q, g1] at hw; cases hw
    have hB : B.H0 (α' n) = none ∨ B.fp (α' n) := by
      by_cases z : B.fp (α' n)
      · exact .inr z
      · refine .inl ?_
        cases q : B.H0 (α' n) with
        | none => rfl
        | some w' => rw [R1.frame _ w' q z] at g1; cases g1
    have g0' : unlend F' α1 S1.L (α' n) = none := by
      unfold unlend
      split
      · rfl
      · exact g0
    have Ra := Ru.adopt (m := m) hn h100 g0' hB hu (Reps.lent hT hno ru) ne
    have self : setα α1 m (α' n) m = α' n := by unfold setα; rw [if_pos rfl]
    refine k _ (setα α1 m (α' n)) _ H' Ra ((st1.trans ⟨sF, fun _ _ => rfl⟩ h1).trans (stp_setα hn) h1) ⟨?_, by rw [self]⟩
    rw [names_append]; exact List.mem_append_right _ (List.mem_singleton.mpr rfl))
/-- .. frozen at once -/
theorem ev_callBoNF (m : Nat) {xs : List D} (F : FnOk X.prog X.w X.K X.mg X.base CX0 k f fd ps (SpOf X.K X.mg sp)) (hr : Room k X.A) (hm : X.mg x = some (.ref f)) (hk : PySem.W.keepIn X.K (.ref f) = true) (hb : Binds X.K fd ps [])
    (ha : Ea X B (e :: es) S cs S1) (hbo : boOf S1.L cs = some ds) (hno : noLs xs = true) (hn : m ∉ names S1.L) (h100 : 100 ≤ m) (hs : ∀ Kc : Ce → List (Nat × LO) → Prop, (∀ n L', getL n L' = some (.fl xs) → Kc (.ad n) L') → sp (ds.map Ce.fr) [] Kc) (hg : Gl X x) (hfr : frS m (.lst xs) ⟨S1.ρ, S1.L ++ [(m, .fl xs)]⟩ = S1 := by rfl) (h1 : Sub S.L S1.L := by exact Sub.refl) (hdb : (x == ("__debug__" : Str)) = false := by decide)
    (he : starEach (e :: es) X.env = (false, eval e X.env) :: starEach es X.env := by rfl) (hpl : (backTo pos (starEach es X.env)).any (·.1) = false := by rfl) : Ev X B (.Call (.Name x p) (e :: es) [] pos) S (.fr (.lst xs)) S1 := by
  have h := ev_freeze m (ev_callBoN (p := p) (pos := pos) m F hr hm hk hb ha hbo hno hn h100 hs hg h1 hdb he hpl) (getL_app hn)
  rw [hfr] at h
  have e1 : frC m (.lst xs) (.ad m) = .fr (.lst xs) := by show (if m = m then _ else _) = _; rw [if_pos rfl]
  rwa [e1] at h
end
end Nz
namespace Nz
theorem rng_lt {n i y : Nat} (h : (List.range n)[i]? = some y) : y < n := List.mem_range.mp (List.mem_of_getElem? h)
end Nz

namespace Nz
open PySem PySem.Spec PyProof.Rows L2
/-! sum of a tuple -/
section
variable {prog : Program} {w : World} {A : Around} {E : Value → Shared → Prop} {s : Shared} {l : Addr} {its : List Value} {ns : List Int} {Q : Value → Shared → Prop}
theorem sum_rawT (hh : A.handled = none) (hl : s.heap.IsTuple l its.toArray) (hi : IntsAre its ns)
    (h : ∀ h' tk t', (∀ b o, s.heap.get? b = some o → h'.get? b = some o) → Q (.int ns.sum t') { s with heap := h', toks := tk }) : wpAny (model prog w) A (call (.builtin "sum") [.ref l]) Q E s := by
  obtain ⟨xs, e⟩ := hi.allInts.items
  have hn : numsOf (intItems xs).toList = ns := by rw [← e]; exact hi.numsOf
  rw [nums_intItems] at hn
  rw [e] at hl
  refine PySem.W.ktm_sumG hh hl fun h' tk t' hk => ?_
  have := h h' tk t' hk
  rw [preSum_eq, List.take_of_length_le (by simp), hn]; exact this
end
section
variable {X : Cx}
theorem cr_sumT (hc : X.calm = true) : CallR X (.builtin "sum") (fun vs H Q => ∃ (a : Addr) (ns : List Int), vs = [V.ref a] ∧ SqT X.K H a (ns.map V.int) ∧ Q (.int ns.sum) H) := by
  intro pins s σ H vs us Q I r h
  obtain ⟨a, ns, rfl, hs, q⟩ := h
  obtain ⟨its, rv, hl, _⟩ := I.tuple hs
  rw [Vals.ref1 r]
  exact sum_rawT (I.ok.hd hc) hl rv.ints fun h' tk t' hk => ⟨.int _, H, I.kept hk, ⟨_, rfl⟩, q⟩
theorem c_sumU {ns : List Int} (hc : X.calm = true) : Cb X (.builtin "sum") [.tup (ns.map D.int)] (.int ns.sum) := .of (cr_sumT hc) fun B F α H σ S Q vs R rx k => by
  cases rx with
  | cons r rr =>
    cases rr
    obtain ⟨a, us, rfl, hq, rs⟩ := R.asT r
    exact ⟨a, ns, rfl, by rw [← Reps.ints_eq rs]; exact hq, k F α _ H R Stp.refl (.int _)⟩
end
end Nz
namespace Nz
theorem small_log {i : Int} (h : -1000000 ≤ i ∧ i ≤ 1000000) : i.natAbs.log2 < 1920 := by
  by_cases h0 : i.natAbs = 0
  · rw [h0]; decide
  · have h1 : i.natAbs < 2 ^ 20 := by
      have : (2 : Nat) ^ 20 = 1048576 := by decide
      omega
    have := (Nat.log2_lt h0).mpr h1
    omega
end Nz
namespace Nz
theorem some_of3 {τ : Type} {y : Option τ} {b : Bool} (h : ¬ ¬ ((y.isSome && b) = true)) : y.isSome = true := by
  have := Classical.not_not.mp h
  rw [Bool.and_eq_true] at this
  exact this.1
theorem some_of4 {τ : Type} {y : Option τ} {b : Bool} {q : Prop} (h : ¬ ((¬ ((y.isSome && b) = true)) ∨ q)) : y.isSome = true := some_of3 fun z => h (.inl z)
theorem some_of5 {τ : Type} {y : Option τ} {b : Bool} {q : Prop} (h : ((y.isSome && b) = true)) : y.isSome = true := some_of3 fun z => z h
end Nz
namespace Nz
/-- from the test of a while -/
theorem some_ofW {τ : Type} {y : Option τ} (h : (!y.isNone) = true) : y.isSome = true := by
  cases y with
  | none => exact absurd h (by simp)
  | some z => rfl
end Nz

namespace Nz
open PySem PySem.Spec PyProof.Rows L2
section
variable {X : Cx} {B : Bd} {S S1 : Nz.S} {elt tg iter tg1 iter1 : Expr} {scope : Scope} {own : List (Str × Nat)} {pos : Pos}
/-- [elt for tg in iter for tg1 in iter1] -/
theorem lc2_reading {τ υ : Type} (nD : Nat) (vs1 : List Nat) {ys : List τ} {zs : τ → List υ} {enc : τ → D} {enc1 : υ → D} (f : τ → υ → D) (Sx : Nat → τ → List D → Nz.S) (Sy : Nat → τ → Nat → υ → List D → Nz.S)
    (hsrc : Src X B tg iter S (ys.map enc) S1) (hn : nD ∉ names S1.L) (h100 : 100 ≤ nD) (hz : (ys.flatMap zs).length ≤ sizeLine)
    (hL : ∀ i y acc, (Sx i y acc).L = S1.L ++ [(nD, .fl acc)]) (hLy : ∀ i y j z acc, (Sy i y j z acc).L = S1.L ++ [(nD, .fl acc)])
    (hg : ∀ i y acc, ys[i]? = some y → ∀ s H0 C cl fp, EgC (Blk X scope s H0 C cl fp) B tg (.fr (enc y)) ⟨wipeC S1.ρ (own.map (·.2)), S1.L ++ [(nD, .fl acc)]⟩ (Sx i y acc) (own.map (·.2)))
    (hsrc1 : ∀ i y acc, ys[i]? = some y → ∀ s H0 C cl fp, Src (Blk X scope s H0 C cl fp) B tg1 iter1 (Sx i y acc) ((zs y).map enc1) (Sx i y acc))
    (hg1 : ∀ i y acc0 j z acc, ys[i]? = some y → (zs y)[j]? = some z → ∀ s H0 C cl fp, EgC (Blk X scope s H0 C cl fp) B tg1 (.fr (enc1 z)) ⟨wipeC (Sx i y acc0).ρ vs1, S1.L ++ [(nD, .fl acc)]⟩ (Sy i y j z acc) vs1)
    (he : ∀ i y j z acc, ys[i]? = some y → (zs y)[j]? = some z → ∀ s H0 C cl fp, Ev (Blk X scope s H0 C cl fp) B elt (Sy i y j z acc) (.fr (f y z)) (Sy i y j z acc))
    (F : Hp) (α : Nat → Addr) (H : Hp) (σ : L2.St) (Q : VK) (R : RelX X B F α H σ S) (hS : Sub S.L S1.L)
    (k : ∀ F' α' v H', RelX X B F' α' H' σ S1 → Stp F α S.L F' α' → Rep X.K X.mg F' (.lst (ys.flatMap fun y => (zs y).map (f y))) v → Q v H') :
    tLc2 (wI X tg iter) (fun v σ H Q => ∀ s H0 C cl fp, wG (Blk X scope s H0 C cl fp) tg v σ H Q) (fun σ H Q => ∀ s H0 C cl fp, wTs (Blk X scope s H0 C cl fp) [] σ H Q)
      (fun σ H Q => ∀ s H0 C cl fp, wI (Blk X scope s H0 C cl fp) tg1 iter1 σ H Q) (fun v σ H Q => ∀ s H0 C cl fp, wG (Blk X scope s H0 C cl fp) tg1 v σ H Q) (fun σ H Q => ∀ s H0 C cl fp, wTs (Blk X scope s H0 C cl fp) [] σ H Q)
      (fun σ H Q => ∀ s H0 C cl fp, wE (Blk X scope s H0 C cl fp) elt σ H Q) (own.map (·.2)) vs1 σ H Q := by
  refine hsrc F α H σ _ R fun F1 α1 H1 J R1 st1 j => ?_
  intro D hD
  have Rn := R1.allocL (n := nD) (u := .fl []) (o := .lst []) hD hn h100 ⟨[], upd_same, .nil⟩
  have stn : Stp F1 α1 S1.L F1 (setα α1 nD D) := stp_setα hn
  have eD : setα α1 nD D nD = D := by unfold setα; rw [if_pos rfl]
  let A0 : Nat → List Nz.D := fun i => (ys.take i).flatMap fun y => (zs y).map (f y)
  let W : Nat → Hp → Prop := fun i H => ∃ F' α', RelX X B F' α' H (L2.wipe σ (own.map (·.2))) ⟨wipeC S1.ρ (own.map (·.2)), S1.L ++ [(nD, .fl (A0 i))]⟩ ∧ Stp F1 (setα α1 nD D) (S1.L ++ [(nD, .fl [])]) F' α'
  have w0 : W 0 (upd H1 D (.lst [])) := ⟨F1, setα α1 nD D, ⟨Rn.sub, Rn.bF, Rn.nF, Rn.frame, Rn.nd, Rn.inj, Rn.live, Rn.slots.wipe _, Rn.fix⟩, Stp.refl⟩
  have sl : ∀ (a b : List Nz.D), setL nD (.fl a) (S1.L ++ [(nD, LO.fl b)]) = S1.L ++ [(nD, .fl a)] := fun a b => setL_app hn
  have nms : ∀ (a b : List Nz.D) n, n ∈ names (S1.L ++ [(nD, LO.fl a)]) → n ∈ names (S1.L ++ [(nD, LO.fl b)]) := fun a b n hn' => by rw [names_append] at hn' ⊢; exact hn'
  have len : ∀ i, (A0 i).length ≤ (ys.flatMap zs).length := fun i => by
    have : ∀ xs : List τ, (xs.flatMap fun y => (zs y).map (f y)).length = (xs.flatMap zs).length := by
      intro xs
      induction xs with
      | nil => rfl
      | cons x xs ih => rw [List.flatMap_cons, List.flatMap_cons, List.length_append, List.length_append, ih, List.length_map]
    show ((ys.take i).flatMap fun y => (zs y).map (f y)).length ≤ _
    rw [this]
    conv => rhs; rw [← List.take_append_drop i ys]
    rw [List.flatMap_append, List.length_append]; omega
  refine ⟨fun i m H => m = ys.length - i ∧ i ≤ ys.length ∧ W i H, ⟨ys.length, by simp, Nat.zero_le _, w0⟩, ?_⟩
  rintro i m H' ⟨rfl, hi, F', α', R', st'⟩
  have sm : Same F1 F' := st'.fro
  have nmD : α' nD = D := by rw [st'.nm nD (by rw [names_append]; exact List.mem_append_right _ (List.mem_singleton.mpr rfl)), eD]
  by_cases hlt : i < ys.length
  · obtain ⟨y, hy⟩ : ∃ y, ys[i]? = some y := ⟨ys[i], by simp [hlt]⟩
    obtain ⟨g, yl⟩ := j.go B F' α' H' _ _ i (enc y) R' sm (by rw [List.getElem?_map, hy]; rfl)
    have tk : (ys.take (i + 1)) = ys.take i ++ [y] := by rw [List.take_succ, hy]; rfl
    have eA : A0 (i + 1) = A0 i ++ (zs y).map (f y) := by
      show (ys.take (i + 1)).flatMap _ = _
      rw [tk, List.flatMap_append, List.flatMap_cons, List.flatMap_nil, List.append_nil]
    refine .inr ⟨g, W (i + 1), fun H2 w2 => ⟨ys.length - (i + 1), by omega, rfl, hlt, w2⟩, fun x H2 yy => ?_⟩
    obtain ⟨F2, R2, s2, r2⟩ := yl x H2 yy
    intro sA HA CA clA fpA
    refine hg i y (A0 i) hy sA HA CA clA fpA F2 α' H2 _ x _ R2 r2 fun σ3 F3 H3 R3 s3 w3 => ⟨w3.trans wipe_idem, ?_⟩
    intro sB HB CB clB fpB
    refine ets_nil F3 α' H3 σ3 _ R3 fun F4 α4 H4 R4 st4 => ?_
    rw [if_pos rfl]
    have hLL := hL i y (A0 i)
    have sl0 : SlR X.K X.mg F' α' (S1.L ++ [(nD, .fl (A0 i))]) (wipeC S1.ρ (own.map (·.2))) (L2.wipe σ (own.map (·.2))) := R'.slots
    have st4' : Stp F' α' (S1.L ++ [(nD, .fl (A0 i))]) F4 α4 := ⟨s2.trans (s3.trans st4.fro), fun n hn' => st4.nm n (by rw [hLL]; exact hn')⟩
    intro sC HC CC clC fpC
    refine hsrc1 i y (A0 i) hy sC HC CC clC fpC F4 α4 H4 σ3 _ R4 fun F5 α5 H5 J1 R5 st5 j1 => ?_
    have st5' : Stp F' α' (S1.L ++ [(nD, .fl (A0 i))]) F5 α5 := st4'.trans ⟨st5.fro, fun n hn' => st5.nm n (by rw [hLL]; exact hn')⟩ fun _ z => z
    -- the inner loop at j
    let A1 : Nat → List Nz.D := fun j => A0 i ++ ((zs y).take j).map (f y)
    let W1 : Nat → Hp → Prop := fun j H => ∃ F' α'', RelX X B F' α'' H (L2.wipe σ3 vs1) ⟨wipeC (Sx i y (A0 i)).ρ vs1, S1.L ++ [(nD, .fl (A1 j))]⟩ ∧ Stp F5 α5 (S1.L ++ [(nD, .fl (A0 i))]) F' α''
    have R5a : RelX X B F5 α5 H5 σ3 ⟨(Sx i y (A0 i)).ρ, S1.L ++ [(nD, .fl (A0 i))]⟩ := by rw [← hLL]; exact R5
    have w10 : W1 0 H5 := ⟨F5, α5, by
      have e0 : A1 0 = A0 i := by show A0 i ++ _ = _; simp
      rw [e0]
      exact ⟨R5a.sub, R5a.bF, R5a.nF, R5a.frame, R5a.nd, R5a.inj, R5a.live, R5a.slots.wipe _, R5a.fix⟩, Stp.refl⟩
    refine ⟨fun j m H => m = (zs y).length - j ∧ j ≤ (zs y).length ∧ W1 j H, ⟨(zs y).length, by simp, Nat.zero_le _, w10⟩, ?_⟩
    rintro q m H6 ⟨rfl, hq, F6, α6, R6, st6⟩
    have sm6 : Same F5 F6 := st6.fro
    by_cases hql : q < (zs y).length
    · obtain ⟨z, hzq⟩ : ∃ z, (zs y)[q]? = some z := ⟨(zs y)[q], by simp [hql]⟩
      obtain ⟨g1, yl1⟩ := j1.go B F6 α6 H6 _ _ q (enc1 z) R6 sm6 (by rw [List.getElem?_map, hzq]; rfl)
      have tk1 : ((zs y).take (q + 1)) = (zs y).take q ++ [z] := by rw [List.take_succ, hzq]; rfl
      have eA1 : A1 (q + 1) = A1 q ++ [f y z] := by
        show A0 i ++ _ = (A0 i ++ _) ++ _
        rw [tk1, List.map_append, List.append_assoc]; rfl
      refine .inr ⟨g1, W1 (q + 1), fun H7 w7 => ⟨(zs y).length - (q + 1), by omega, rfl, hql, w7⟩, fun x7 H7 yy7 => ?_⟩
      obtain ⟨F7, R7, s7, r7⟩ := yl1 x7 H7 yy7
      intro sD HD' CD clD fpD
      refine hg1 i y (A0 i) q z (A1 q) hy hzq sD HD' CD clD fpD F7 α6 H7 _ x7 _ R7 r7 fun σ8 F8 H8 R8 s8 w8 => ⟨w8.trans wipe_idem, ?_⟩
      intro sE HE CE clE fpE
      refine ets_nil F8 α6 H8 σ8 _ R8 fun F9 α9 H9 R9 st9 => ?_
      rw [if_pos rfl]
      have hLy := hLy i y q z (A1 q)
      intro sF HF CF clF fpF
      refine he i y q z (A1 q) hy hzq sF HF CF clF fpF F9 α9 H9 σ8 _ R9 fun Fa αa va Ha Ra sta ra => ?_
      have st9' : Stp F6 α6 (S1.L ++ [(nD, .fl (A1 q))]) F9 α9 := ⟨s7.trans (s8.trans st9.fro), fun n hn' => st9.nm n (by rw [hLy]; exact hn')⟩
      have sta' : Stp F6 α6 (S1.L ++ [(nD, .fl (A1 q))]) Fa αa := st9'.trans ⟨sta.fro, fun n hn' => sta.nm n (by rw [hLy]; exact hn')⟩ fun _ z => z
      have Ra' : RelX X B Fa αa Ha σ8 ⟨(Sy i y q z (A1 q)).ρ, S1.L ++ [(nD, .fl (A1 q))]⟩ := by rw [← hLy]; exact Ra
      obtain ⟨q0, q1, vs5, e5, rs5⟩ := Ra'.live nD _ (List.mem_append_right _ (List.mem_singleton.mpr rfl))
      have nm5 : αa nD = D := by
        rw [sta'.nm nD (by rw [names_append]; exact List.mem_append_right _ (List.mem_singleton.mpr rfl)), st6.nm nD (by rw [names_append]; exact List.mem_append_right _ (List.mem_singleton.mpr rfl)), st5'.nm nD (by rw [names_append]; exact List.mem_append_right _ (List.mem_singleton.mpr rfl)), nmD]
      have gl := getL_app (o := .fl (A1 q)) hn
      rw [nm5] at e5
      have lenv : vs5.length < sizeLine := by
        have hl1 := len (i + 1)
        rw [eA, List.length_append, List.length_map] at hl1
        rw [← rs5.length]
        show (A0 i ++ _).length < _
        rw [List.length_append, List.length_map, List.length_take]
        omega
      refine ⟨vs5, e5, lenv, Fa, αa, ?_, st6.trans sta' (nms _ _)⟩
      have Rp := Ra'.put (n := nD) (u := .fl (A1 q ++ [f y z])) (o' := .lst (vs5 ++ [va])) (getL_mem gl) ⟨vs5 ++ [va], upd_same, rs5.append (.cons ra .nil)⟩
      rw [nm5] at Rp
      rw [eA1]
      have Rp' : RelX X B Fa αa (upd Ha D (.lst (vs5 ++ [va]))) σ8 ⟨(Sy i y q z (A1 q)).ρ, S1.L ++ [(nD, .fl (A1 q ++ [f y z]))]⟩ := by rw [← sl _ (A1 q)]; exact Rp
      have sl6 : SlR X.K X.mg F6 α6 (S1.L ++ [(nD, .fl (A1 q))]) (wipeC (Sx i y (A0 i)).ρ vs1) (L2.wipe σ3 vs1) := R6.slots
      exact ⟨Rp'.sub, Rp'.bF, Rp'.nF, Rp'.frame, Rp'.nd, Rp'.inj, Rp'.live, sl6.step (L' := S1.L ++ [(nD, .fl (A1 q ++ [f y z]))]) sta' (nms _ _), Rp'.fix⟩
    · have e1 : q = (zs y).length := by omega
      subst e1
      refine .inl ⟨j1.stop B F6 α6 H6 _ _ _ R6 sm6 (by rw [List.length_map]; exact Nat.le_refl _), ?_⟩
      have eE : A1 (zs y).length = A0 (i + 1) := by
        rw [eA]
        show A0 i ++ _ = _
        rw [List.take_length]
      have R6' : RelX X B F6 α6 H6 (L2.wipe σ3 vs1) ⟨wipeC (Sx i y (A0 i)).ρ vs1, S1.L ++ [(nD, .fl (A0 (i + 1)))]⟩ := by rw [← eE]; exact R6
      have stZ : Stp F' α' (S1.L ++ [(nD, .fl (A0 i))]) F6 α6 := st5'.trans st6 fun _ z => z
      exact ⟨F6, α6, ⟨R6'.sub, R6'.bF, R6'.nF, R6'.frame, R6'.nd, R6'.inj, R6'.live, sl0.step (L' := S1.L ++ [(nD, .fl (A0 (i + 1)))]) stZ (nms _ _), R6'.fix⟩, st'.trans stZ (nms _ _)⟩
  · have e1 : i = ys.length := by omega
    subst e1
    refine .inl ⟨j.stop B F' α' H' _ _ _ R' sm (by rw [List.length_map]; exact Nat.le_refl _), ?_⟩
    have eF : A0 ys.length = ys.flatMap fun y => (zs y).map (f y) := by
      show (ys.take ys.length).flatMap _ = _
      rw [List.take_length]
    rw [eF] at R'
    have stA : Stp F1 α1 S1.L F' α' := stn.trans ⟨st'.fro, fun n hn' => st'.nm n (Sub.app n hn')⟩ fun _ z => z
    obtain ⟨F6, R6, st6, r6⟩ := Rel.close (L := S1.L) R1 R' stA hn
    rw [nmD] at r6
    exact k F6 α' (.ref D) H' R6 (st1.trans st6 hS) r6

theorem lm_fm {τ υ μ : Type} {enc2 : μ → D} {ys : List τ} {zs : τ → List υ} {g : τ → υ → μ} : D.lst (ys.flatMap fun y => (zs y).map (fun z => enc2 (g y z))) = eL enc2 (ys.flatMap fun y => (zs y).map (g y)) := by
  show D.lst _ = D.lst _
  rw [List.map_flatMap]
  congr 2
  funext y
  rw [List.map_map]; rfl
theorem ev_lc2M {τ υ μ : Type} {enc2 : μ → D} (nD : Nat) (vs1 : List Nat) {ys : List τ} {zs : τ → List υ} {enc : τ → D} {enc1 : υ → D} (g : τ → υ → μ) (Sx : Nat → τ → List D → Nz.S) (Sy : Nat → τ → Nat → υ → List D → Nz.S) (hc : X.calm = true) (hN : X.N.Nodup) (ok : BlkOk X.N X.env.scope scope own) (hv : ∀ i ∈ vs1, i ∈ own.map (·.2))
    (hsrc : Src X B tg iter S (ys.map enc) S1) (hn : nD ∉ names S1.L) (h100 : 100 ≤ nD) (hz : (ys.flatMap zs).length ≤ sizeLine)
    (hg : ∀ i y acc, ys[i]? = some y → ∀ s H0 C cl fp, EgC (Blk X scope s H0 C cl fp) B tg (.fr (enc y)) ⟨wipeC S1.ρ (own.map (·.2)), S1.L ++ [(nD, .fl acc)]⟩ (Sx i y acc) (own.map (·.2)))
    (hsrc1 : ∀ i y acc, ys[i]? = some y → ∀ s H0 C cl fp, Src (Blk X scope s H0 C cl fp) B tg1 iter1 (Sx i y acc) ((zs y).map enc1) (Sx i y acc))
    (hg1 : ∀ i y acc0 j z acc, ys[i]? = some y → (zs y)[j]? = some z → ∀ s H0 C cl fp, EgC (Blk X scope s H0 C cl fp) B tg1 (.fr (enc1 z)) ⟨wipeC (Sx i y acc0).ρ vs1, S1.L ++ [(nD, .fl acc)]⟩ (Sy i y j z acc) vs1)
    (he : ∀ i y j z acc, ys[i]? = some y → (zs y)[j]? = some z → ∀ s H0 C cl fp, Ev (Blk X scope s H0 C cl fp) B elt (Sy i y j z acc) (.fr (enc2 (g y z))) (Sy i y j z acc))
    (hL : ∀ i y acc, (Sx i y acc).L = S1.L ++ [(nD, .fl acc)] := by exact fun _ _ _ => rfl) (hLy : ∀ i y j z acc, (Sy i y j z acc).L = S1.L ++ [(nD, .fl acc)] := by exact fun _ _ _ _ _ => rfl) (hS : Sub S.L S1.L := by exact Sub.refl) (hs : ∀ x, foldedSetIterable iter X.env x = pure x := by intro _; rfl) (hs1 : ∀ env x, foldedSetIterable iter1 env x = pure x := by intro _ _; rfl) :
    Ev X B (.ListComp elt [⟨tg, iter, [], 0⟩, ⟨tg1, iter1, [], 0⟩] scope pos) S (.fr (eL enc2 (ys.flatMap fun y => (zs y).map (g y)))) S1 := by
  rw [← lm_fm]
  exact fun F α H σ Q R k => wE.of (pe_lc2 hc hN pi_w ok hv (fun s H0 C cl fp => ⟨fun pins s1 σ1 H1 v u Q1 I r h => h s H0 C cl fp pins s1 u I r⟩) (fun s H0 C cl fp => ⟨fun pins s1 σ1 H1 Q1 I h => h s H0 C cl fp pins s1 I⟩)
      (fun s H0 C cl fp => ⟨fun pins s1 σ1 H1 R1 I h => h s H0 C cl fp pins s1 I⟩) (fun s H0 C cl fp => ⟨fun pins s1 σ1 H1 v u Q1 I r h => h s H0 C cl fp pins s1 u I r⟩) (fun s H0 C cl fp => ⟨fun pins s1 σ1 H1 Q1 I h => h s H0 C cl fp pins s1 I⟩) (fun s H0 C cl fp => ⟨fun pins s1 σ1 H1 Q1 I h => h s H0 C cl fp pins s1 I⟩) hs hs1)
    (lc2_reading nD vs1 (fun y z => enc2 (g y z)) Sx Sy hsrc hn h100 hz hL hLy hg hsrc1 hg1 he F α H σ Q R hS k)
theorem ex_setLc2M {τ υ μ : Type} {enc2 : μ → D} (i : Nat) {y : Str} {py spos : Pos} {K : Out → Prop} (nD : Nat) (vs1 : List Nat) {ys : List τ} {zs : τ → List υ} {enc : τ → D} {enc1 : υ → D} (g : τ → υ → μ) (Sx : Nat → τ → List D → Nz.S) (Sy : Nat → τ → Nat → υ → List D → Nz.S) (hc : X.calm = true) (hN : X.N.Nodup) (hy : X.N[i]? = some y) (hyl : X.env.scope.names.lookup y = some .local)
    (hsw : swapsWith (.ListComp elt [⟨tg, iter, [], 0⟩, ⟨tg1, iter1, [], 0⟩] scope pos) (some (.Name y py)) spos.line X.env = pure true) (ok : BlkOk X.N X.env.scope scope own) (hv : ∀ i ∈ vs1, i ∈ own.map (·.2))
    (hsrc : Src X B tg iter S (ys.map enc) S1) (hn : nD ∉ names S1.L) (h100 : 100 ≤ nD) (hz : (ys.flatMap zs).length ≤ sizeLine)
    (hg : ∀ i y acc, ys[i]? = some y → ∀ s H0 C cl fp, EgC (Blk X scope s H0 C cl fp) B tg (.fr (enc y)) ⟨wipeC S1.ρ (own.map (·.2)), S1.L ++ [(nD, .fl acc)]⟩ (Sx i y acc) (own.map (·.2)))
    (hsrc1 : ∀ i y acc, ys[i]? = some y → ∀ s H0 C cl fp, Src (Blk X scope s H0 C cl fp) B tg1 iter1 (Sx i y acc) ((zs y).map enc1) (Sx i y acc))
    (hg1 : ∀ i y acc0 j z acc, ys[i]? = some y → (zs y)[j]? = some z → ∀ s H0 C cl fp, EgC (Blk X scope s H0 C cl fp) B tg1 (.fr (enc1 z)) ⟨wipeC (Sx i y acc0).ρ vs1, S1.L ++ [(nD, .fl acc)]⟩ (Sy i y j z acc) vs1)
    (he : ∀ i y j z acc, ys[i]? = some y → (zs y)[j]? = some z → ∀ s H0 C cl fp, Ev (Blk X scope s H0 C cl fp) B elt (Sy i y j z acc) (.fr (enc2 (g y z))) (Sy i y j z acc))
    (k : K (.nx (setS S1 i (.fr (eL enc2 (ys.flatMap fun y => (zs y).map (g y)))))))
    (hL : ∀ i y acc, (Sx i y acc).L = S1.L ++ [(nD, .fl acc)] := by exact fun _ _ _ => rfl) (hLy : ∀ i y j z acc, (Sy i y j z acc).L = S1.L ++ [(nD, .fl acc)] := by exact fun _ _ _ _ _ => rfl) (hS : Sub S.L S1.L := by exact Sub.refl) (hs : ∀ x, foldedSetIterable iter X.env x = pure x := by intro _; rfl) (hs1 : ∀ env x, foldedSetIterable iter1 env x = pure x := by intro _ _; rfl) :
    Ex X B (.Assign [.Name y py] (.ListComp elt [⟨tg, iter, [], 0⟩, ⟨tg1, iter1, [], 0⟩] scope pos) spos) S K := by
  rw [← lm_fm] at k
  exact fun F α H σ D R o => wS.of (ps_setLc2 hc hN hy hyl hsw pi_w ok hv (fun s H0 C cl fp => ⟨fun pins s1 σ1 H1 v u Q1 I r h => h s H0 C cl fp pins s1 u I r⟩) (fun s H0 C cl fp => ⟨fun pins s1 σ1 H1 Q1 I h => h s H0 C cl fp pins s1 I⟩)
      (fun s H0 C cl fp => ⟨fun pins s1 σ1 H1 R1 I h => h s H0 C cl fp pins s1 I⟩) (fun s H0 C cl fp => ⟨fun pins s1 σ1 H1 v u Q1 I r h => h s H0 C cl fp pins s1 u I r⟩) (fun s H0 C cl fp => ⟨fun pins s1 σ1 H1 Q1 I h => h s H0 C cl fp pins s1 I⟩) (fun s H0 C cl fp => ⟨fun pins s1 σ1 H1 Q1 I h => h s H0 C cl fp pins s1 I⟩) hs hs1)
    (lc2_reading nD vs1 (fun y z => enc2 (g y z)) Sx Sy hsrc hn h100 hz hL hLy hg hsrc1 hg1 he F α H σ _ R hS fun F' α' v H' R' st r => o.nx _ F' α' H' _ k (R'.setS r) st.fro)
end

/-! ### list(range(a, b, c)) -/
def nStep (a b c : Int) : Nat := if a < b then ((b - a - 1) / c).toNat + 1 else 0
theorem rangeSize_up {a b c : Int} (hc : 1 ≤ c) : Builtin.Range.rangeSize a b c = (nStep a b c : Int) := by
  unfold Builtin.Range.rangeSize nStep
  rw [if_pos (show c > 0 by omega)]
  split
  · have := Int.ediv_nonneg (a := b - a - 1) (b := c) (by omega) (by omega)
    omega
  · rfl
theorem nStep_le {a b c : Int} (hc : 1 ≤ c) : (nStep a b c : Int) ≤ (b - a).toNat := by
  unfold nStep
  split
  · have h1 := Int.ediv_nonneg (a := b - a - 1) (b := c) (by omega) (by omega)
    have h2 := Int.ediv_le_self (a := b - a - 1) c (by omega)
    omega
  · omega
theorem small_up {a b c : Int} (hc : 1 ≤ c) (hc' : c < 2 ^ 30) (ha : -(2 ^ 40) ≤ a) (ha' : a < 2 ^ 40) (hb : -(2 ^ 40) ≤ b) (hb' : b < 2 ^ 40) : Builtin.Range.small a b c = true := by
  have hn := nStep_le (a := a) (b := b) hc
  have hn0 : (0 : Int) ≤ (nStep a b c : Int) := by omega
  unfold Builtin.Range.small
  rw [rangeSize_up hc]
  generalize (nStep a b c : Int) = n at *
  simp only [Builtin.Range.rangeFitsLong, Bool.and_eq_true, Bool.or_eq_true, decide_eq_true_eq, beq_iff_eq, show c > 0 by omega, if_true]
  omega
theorem rgc_up {a b c : Int} (hc : 1 ≤ c) (hc' : c < 2 ^ 30) (ha : -(2 ^ 40) ≤ a) (ha' : a < 2 ^ 40) (hb : -(2 ^ 40) ≤ b) (hb' : b < 2 ^ 40) : RgC a b c (nStep a b c) := ⟨by omega, by omega, small_up hc hc' ha ha' hb hb', rangeSize_up hc⟩
theorem vals_getN : ∀ (us : List Value) (f : Nat → V), (∀ j u, us[j]? = some u → RelV (f j) u) → Vals ((List.range us.length).map f) us
  | [], f, _ => .nil
  | u :: us, f, h => by
    rw [List.length_cons, List.range_succ_eq_map, List.map_cons, List.map_map]
    exact .cons (h 0 u rfl) (vals_getN us (fun j => f (j + 1)) fun j w hj => h (j + 1) w hj)
def tLst3 (ta : TA) : TE := fun σ H Q => ta σ H fun vs H1 => ∃ (i j c : Int) (n : Nat), vs = [.int i, .int j, .int c] ∧ RgC i j c n ∧ n ≤ 2 ^ 24 ∧ ∀ q, H1 q = none → Q (.ref q) (upd H1 q (.lst ((List.range n).map fun k : Nat => V.int (i + (k : Int) * c))))
section
variable {X : Cx} {B : Bd} {S S1 : Nz.S}
theorem pe_listRg3 {a b c : Expr} {ta : TA} {p p2 pos pos2 : Pos} (hcm : X.calm = true) (hg : Gl X "list") (hm : X.mg "list" = none) (hg2 : Gl X "range") (hm2 : X.mg "range" = none) (ha : PA X [a, b, c] ta)
    (na : starEach [Expr.Call (.Name "range" p2) [a, b, c] [] pos2] X.env = (false, eval (.Call (.Name "range" p2) [a, b, c] [] pos2) X.env) :: starEach [] X.env := by rfl)
    (hs : starEach [a, b, c] X.env = (false, eval a X.env) :: starEach [b, c] X.env := by rfl) (hpl : (backTo pos2 (starEach [b, c] X.env)).any (·.1) = false := by rfl) :
    PE X (.Call (.Name "list" p) [.Call (.Name "range" p2) [a, b, c] [] pos2] [] pos) (tLst3 ta) := by
  refine ⟨fun pins s σ H Q I h => ?_⟩
  refine Call_ (ld_blt I hg hm boot_list (PyProof.Rows.callWith_type1 (args_cons (thn (Q := fun x s' => ∃ r i j c n t u v H', x = .ref r ∧ IsRange s'.heap r i j c t u v ∧ Inv X pins σ H' s' ∧ RgC i j c n ∧ n ≤ 2 ^ 24 ∧ ∀ q, H' q = none → Q (.ref q) (upd H' q (.lst ((List.range n).map fun k : Nat => V.int (i + (k : Int) * c))))) ?_ fun x s1 ⟨r, i, j, c, n, t, u, v, H1, ex, hr, I1, rg, hn, q⟩ => args_nil ?_) na) na))
  · refine Call_ (ld_blt I hg2 hm2 boot_range (PyProof.Rows.callWith_type1 (thn (ha.run pos2 pins s σ H _ I h) fun us s1 ⟨vs, H1, I1, r1, q1⟩ => ?_) hs hpl))
    obtain ⟨i, j, k, n, e, rg, hn, q⟩ := q1
    subst e
    obtain ⟨c0, c1, c2, c3⟩ := rg
    cases r1 with
    | cons r rr =>
      cases rr with
      | cons r' rr =>
        cases rr with
        | cons r'' rr =>
          cases rr
          obtain ⟨t, rfl⟩ := r
          obtain ⟨t', rfl⟩ := r'
          obtain ⟨t'', rfl⟩ := r''
          refine call_range_3 c0 ?_ (.inl (PyProof.noPylong_small c1))
          exact ⟨_, i, j, k, n, _, _, _, H1, rfl, IsRange.new _ _ _ _ _ _ _, I1.kept fun b u e => Heap.get?_push_of_some _ e, ⟨c0, c1, c2, c3⟩, hn, q⟩
  · subst ex
    obtain ⟨c0, c1, c2, c3⟩ := rg
    refine call_list_range (n := n) (I1.ok.hd hcm) hr c2 c3 hn fun h' tk acc c' hk e' hi => ?_
    have hl : acc.toList.length = n := by rw [Array.length_toList]; exact hi.1
    refine ⟨.ref s1.heap.objs.size, upd H1 s1.heap.objs.size (.lst ((List.range n).map fun k : Nat => V.int (i + (k : Int) * c))), I1.laid hk (Nat.le_refl _) (show ObjOk X.prog X.w _ _ _ (.lst ((List.range n).map fun k : Nat => V.int (i + (k : Int) * c))) from ⟨?_, acc.toList, c', ?_, ?_⟩), rfl, q _ (I1.hok.fresh (Nat.le_refl _))⟩
    · rw [List.length_map, List.length_range, sizeLine_eq]; omega
    · have := vals_getN acc.toList (fun k : Nat => V.int (i + (k : Int) * c)) fun j u hj => by
        obtain ⟨t, rfl⟩ := hi.2 j u (by rw [← hj, Array.getElem?_toList])
        exact ⟨t, rfl⟩
      rwa [hl] at this
    · rw [Array.toArray_toList]; exact e'
theorem ev_listRg3 {a b c : Expr} {i j k : Int} {p p2 pos pos2 : Pos} (hcm : X.calm = true) (h : Ea X B [a, b, c] S [.fr (.int i), .fr (.int j), .fr (.int k)] S1) (hg : Gl X "list") (hm : X.mg "list" = none) (hg2 : Gl X "range") (hm2 : X.mg "range" = none)
    (h1 : 1 ≤ k) (h2 : k < 2 ^ 30) (h3 : -(2 ^ 20) ≤ i) (h4 : i < 2 ^ 20) (h5 : -(2 ^ 20) ≤ j) (h6 : j < 2 ^ 20)
    (na : starEach [Expr.Call (.Name "range" p2) [a, b, c] [] pos2] X.env = (false, eval (.Call (.Name "range" p2) [a, b, c] [] pos2) X.env) :: starEach [] X.env := by rfl)
    (hs : starEach [a, b, c] X.env = (false, eval a X.env) :: starEach [b, c] X.env := by rfl) (hpl : (backTo pos2 (starEach [b, c] X.env)).any (·.1) = false := by rfl) :
    Ev X B (.Call (.Name "list" p) [.Call (.Name "range" p2) [a, b, c] [] pos2] [] pos) S (.fr (eL D.int ((List.range (nStep i j k)).map fun q : Nat => i + (q : Int) * k))) S1 :=
  fun F α H σ Q R kk => wE.of (pe_listRg3 hcm hg hm hg2 hm2 pa_w na hs hpl) (h F α H σ _ R fun F1 α1 vs H1 R1 st1 r1 => by
    have r := CRels.fr (ds := [.int i, .int j, .int k]) r1
    cases r with
    | cons q1 r =>
      cases r with
      | cons q2 r =>
        cases r with
        | cons q3 r =>
          cases r
          cases q1; cases q2; cases q3
          refine ⟨i, j, k, nStep i j k, rfl, rgc_up h1 h2 (by omega) (by omega) (by omega) (by omega), by have := nStep_le (a := i) (b := j) h1; omega, fun p hp => ?_⟩
          have hf := R1.fresh hp
          refine kk _ α1 _ _ (R1.allocF hp) ⟨st1.fro.trans (same_upd hf), st1.nm⟩ (Rep.lst (SqL.of upd_same) ?_)
          have : ∀ xs : List Nat, Reps X.K X.mg (upd F1 p (.lst ((List.range (nStep i j k)).map fun q : Nat => V.int (i + (q : Int) * k)))) ((xs.map fun q : Nat => i + (q : Int) * k).map D.int) (xs.map fun q : Nat => V.int (i + (q : Int) * k)) := by
            intro xs
            induction xs with
            | nil => exact .nil
            | cons x xs ih => exact .cons (.int _) ih
          exact this _)
end
end Nz
namespace Nz
open PySem PySem.Spec PyProof.Rows L2
/-! ### max(xs, default=d) -/
def maxLD (ns : List Int) (d : Int) : Int := if ns = [] then d else maxL ns
theorem maxOf_maxL (x : Int) (xs : List Int) : PySem.W.maxOf x xs = maxL (x :: xs) := by
  unfold PySem.W.maxOf maxL
  congr 1
  funext a y
  show (if decide (a < y) = true then y else a) = _
  by_cases h : a < y
  · rw [if_pos (decide_eq_true h), if_pos h]
  · rw [if_neg (by simpa using h), if_neg h]
def rMaxLD (K : PySem.W.Frag) : List V → List V → Hp → VK → Prop := fun vs zs H Q => ∃ (a : Addr) (ns : List Int) (d : Int), vs = [V.ref a] ∧ zs = [V.int d] ∧ SqL K H a (ns.map V.int) ∧ Q (.int (maxLD ns d)) H
theorem cr_maxLD {X : Cx} (hc : X.calm = true) (hu : X.A.units + 1 < cLine) : CallRK X (.builtin "max") [Str.ofString "default"] (rMaxLD X.K) := by
  intro pins s σ H vs zs us ws Q I r rz h
  obtain ⟨a, ns, d, rfl, rfl, hs, q⟩ := h
  obtain ⟨its, rv, hl, _⟩ := I.list hs
  rw [Vals.ref1 r]
  cases rz with
  | cons z zz =>
    cases zz
    obtain ⟨t, rfl⟩ := z
    refine PySem.W.max_list_datum_default (xs := ns) (I.ok.hd hc) hl.isList (PySem.W.HoldAll.of_ints rv.ints) hu (fun e h' tk hk => ?_) fun y ys i v h' tk e hi hv hk => ?_
    · subst e
      exact ⟨.int _, H, I.kept hk, ⟨_, rfl⟩, q⟩
    · subst e
      obtain ⟨as, rr⟩ := hv
      obtain ⟨t', rfl, _⟩ := reads_int_inv rr
      refine ⟨.int _, H, I.kept hk, ⟨_, rfl⟩, ?_⟩
      rw [maxOf_maxL]
      unfold maxLD at q
      rw [if_neg (by simp)] at q
      exact q
section
variable {X : Cx} {B : Bd} {S S1 S2 : Nz.S}
theorem ev_maxLD {e : Expr} {kws : List Keyword} {ns : List Int} {d : Int} {p pos : Pos} (hc : X.calm = true) (hu : X.A.units + 64 < cLine) (ha : Ea X B [e] S [.fr (.lst (ns.map D.int))] S1) (hk : Ek X B kws S1 [.int d] S2) (hg : Gl X "max") (hm : X.mg "max" = none)
    (hv : bootBuiltins "max" = some (.builtin "max") := by decide +kernel) (h1 : Sub S.L S1.L := by exact Sub.refl) (h2 : Sub S1.L S2.L := by exact Sub.refl)
    (he : backTo pos (starEach [e] X.env) = (false, eval e X.env) :: backTo pos (starEach [] X.env) := by rfl) (hpl : (backTo pos (starEach [e] X.env)).any (·.1) = false := by rfl)
    (hall : (backToKw pos (keywordEach kws X.env)).all (·.1.isSome) = true := by rfl) (hnone : (backToKw pos (keywordEach kws X.env)).any (·.1.isNone) = false := by rfl) (hks : (backToKw pos (keywordEach kws X.env)).filterMap (·.1) = [Str.ofString "default"] := by rfl) :
    Ev X B (.Call (.Name "max" p) [e] kws pos) S (.fr (.int (maxLD ns d))) S2 :=
  fun F0 α H σ Q R k => wE.of (pe_callBK (cr_maxLD hc (by omega)) hg hm hv pa_w pk_w (by decide) (by decide) he hpl hall hnone hks) (ha F0 α H σ _ R fun F1 α1 vs H1 R1 st1 r1 => hk F1 α1 H1 σ _ R1 fun F2 α2 zs H2 R2 st2 r2 => by
    have rr := (CRels.fr (ds := [.lst (ns.map D.int)]) r1).mono st2.fro
    cases rr with
    | cons r rr =>
      cases rr
      cases r2 with
      | cons z zz =>
        cases zz
        cases z
        obtain ⟨a, us, rfl, hq, rs⟩ := R2.asL (c := .fr (.lst (ns.map D.int))) rfl r
        exact ⟨a, ns, d, rfl, rfl, by rw [← Reps.ints_eq rs]; exact hq, k F2 α2 _ H2 R2 ((st1.trans st2 h1)) (.int _)⟩)
end
end Nz

namespace Nz
open PySem PySem.Spec PyProof.Rows L2
/-! keyword-only parameters that are left out; int of a truth value; lcm -/
theorem kbn_dfl1 {K : Frag} {fd : FuncData} {ps ks : List Str} {n : Nat} {Dd : Addr} {nm : Str} {u : Value} {v : V} (hq : PySem.W.nsIn K Dd nm = some (some u)) (rv : RelV v u)
    (h : ∀ us ws : List Value, us.length = n → ws.length = ks.length → KwChain Dd [(nm, u)] (bindArgs fd ⟨us, ks.zip ws⟩) (ps.zip (us ++ ws ++ [u]))) : KBn K fd ps n ks (fun us ws => us ++ ws ++ [u]) (fun vs zs => vs ++ zs ++ [v]) :=
  ⟨fun s us ws X l1 l2 => BindsTo.of_looks fun M => KwChain.looks X (fun q hm => by rw [List.mem_singleton.mp hm]; exact hq) (h us ws l1 l2), fun r1 r2 => (r1.append r2).append (.cons rv .nil)⟩
theorem kbn_dfl2 {K : Frag} {fd : FuncData} {ps ks : List Str} {n : Nat} {Dd : Addr} {nm nm2 : Str} {u u2 : Value} {v v2 : V} (hq : PySem.W.nsIn K Dd nm = some (some u)) (hq2 : PySem.W.nsIn K Dd nm2 = some (some u2)) (rv : RelV v u) (rv2 : RelV v2 u2)
    (h : ∀ us ws : List Value, us.length = n → ws.length = ks.length → KwChain Dd [(nm, u), (nm2, u2)] (bindArgs fd ⟨us, ks.zip ws⟩) (ps.zip (us ++ ws ++ [u, u2]))) : KBn K fd ps n ks (fun us ws => us ++ ws ++ [u, u2]) (fun vs zs => vs ++ zs ++ [v, v2]) :=
  ⟨fun s us ws X l1 l2 => BindsTo.of_looks fun M => KwChain.looks X (fun q hm => by
    rcases List.mem_cons.mp hm with e | e
    · rw [e]; exact hq
    · rw [List.mem_singleton.mp e]; exact hq2) (h us ws l1 l2), fun r1 r2 => (r1.append r2).append (.cons rv (.cons rv2 .nil))⟩
theorem rep_tup0 {K : Frag} {mg : Mg} {a : Addr} {od : Option Addr} {n : Nat} {sl : Array (Option Value)} (h : K.lookup a = some ⟨.type "tuple", od, .seq #[] n, sl⟩) (F : Hp) : Rep K mg F (.tup []) (.ref a) :=
  .tup (.inr ⟨_, #[], n, h, rfl, rfl, Nat.zero_le _, .nil⟩) .nil
section
variable {X : Cx} {B : Bd} {S S1 S2 S3 : Nz.S} {a e : Expr} {es : List Expr} {kws : List Keyword} {pos p kpos : Pos} {x : Str} {d : D} {ds es' dd : List D} {dv : List V} {mv : List Value} {c nm : Str} {fs : List (Str × D)} {C g f : Addr} {fd : FuncData} {ps ks : List Str} {k n : Nat} {sp : SpN}
theorem c_intB {b : Bool} : Cb X (.type "int") [.bl b] (.int (if b = true then 1 else 0)) := .of call_int1 fun B F α H σ S Q xs R rx k => by
  cases rx with | cons r rr => cases rr; cases r; exact .inr ⟨b, rfl, k F α _ H R Stp.refl (.int _)⟩
/-- C(e, .., k = v, ..), the last parameters left out -/
theorem ev_makeKD (hm : X.mg c = some (.ref C)) (M : Mk X.K C g) (F : FnOk X.prog X.w X.K X.mg X.base CX0 k g fd ps (SpOf X.K X.mg sp)) (hr : Room (k + 1) X.A) (hb : KBn X.K fd ps (n + 1) ks (fun us ws => us ++ ws ++ mv) (fun vs zs => vs ++ zs ++ dv)) (hd : ∀ F', Reps X.K X.mg F' dd dv)
    (ha : Ea X B (e :: es) S (ds.map Ce.fr) S1) (hk : Ek X B kws S1 es' S2) (l1 : ds.length = n) (l2 : es'.length = ks.length)
    (hs : ∀ Kc : Ce → List (Nat × LO) → Prop, Kc (.fr .non) [(0, .ins c (fs.map fun p => (p.1, Ce.fr p.2)))] → sp (.ad 0 :: (ds ++ es' ++ dd).map Ce.fr) [(0, .ins c [])] Kc) (hg : Gl X c) (h1 : Sub S.L S1.L := by exact Sub.refl) (h2 : Sub S1.L S2.L := by exact Sub.refl) (hdb : (c == ("__debug__" : Str)) = false := by decide)
    (hall : (backToKw pos (keywordEach kws X.env)).all (·.1.isSome) = true := by rfl) (hks : (backToKw pos (keywordEach kws X.env)).filterMap (·.1) = ks := by rfl)
    (he : starEach (e :: es) X.env = (false, eval e X.env) :: starEach es X.env := by rfl) (hpl : ((backTo pos (starEach (e :: es) X.env)).any (·.1) || (backToKw pos (keywordEach kws X.env)).any (·.1.isNone)) = false := by rfl) : Ev X B (.Call (.Name c p) (e :: es) kws pos) S (.fr (.obj c fs)) S2 :=
  fun F0 α H σ Q R k => wE.of (pe_makeK M F hr hg hm hb pass0 pa_w pk_w hall hks hdb he hpl) (ha F0 α H σ _ R fun F1 α1 vs H1 R1 st1 r1 => hk F1 α1 H1 σ _ R1 fun F2 α2 zs H2 R2 st2 r2 => by
    have rr := Reps.append (Reps.append ((CRels.fr r1).mono st2.fro) r2) (hd F2)
    have lv : vs.length = n := by rw [← (CRels.fr r1).length]; exact l1
    have lz : zs.length = ks.length := by rw [← r2.length]; exact l2
    exact ⟨lv, lz, fun y dy hy hdy hne => init_call R2 hy hdy hne hm rr hs fun F' H' R' st' r' => k F' α2 _ H' R' ((st1.trans st2 h1).trans ⟨st', fun _ _ => rfl⟩ fun n h => h2 n (h1 n h)) r'⟩)
/-- f(e, .., k = v, ..), the last parameters left out -/
theorem ev_callKwD (F : FnOk X.prog X.w X.K X.mg X.base CX0 k f fd ps (SpOf X.K X.mg sp)) (hr : Room k X.A) (hm : X.mg x = some (.ref f)) (hkp : PySem.W.keepIn X.K (.ref f) = true) (hb : KBn X.K fd ps n ks (fun us ws => us ++ ws ++ mv) (fun vs zs => vs ++ zs ++ dv)) (hd : ∀ F', Reps X.K X.mg F' dd dv)
    (ha : Ea X B (e :: es) S (ds.map Ce.fr) S1) (hk : Ek X B kws S1 es' S2) (l1 : ds.length = n) (l2 : es'.length = ks.length)
    (hs : ∀ Kc : Ce → List (Nat × LO) → Prop, (∀ L', Kc (.fr d) L') → sp ((ds ++ es' ++ dd).map Ce.fr) [] Kc) (hg : Gl X x) (h1 : Sub S.L S1.L := by exact Sub.refl) (h2 : Sub S1.L S2.L := by exact Sub.refl) (hdb : (x == ("__debug__" : Str)) = false := by decide)
    (hall : (backToKw pos (keywordEach kws X.env)).all (·.1.isSome) = true := by rfl) (hks : (backToKw pos (keywordEach kws X.env)).filterMap (·.1) = ks := by rfl)
    (he : starEach (e :: es) X.env = (false, eval e X.env) :: starEach es X.env := by rfl) (hpl : ((backTo pos (starEach (e :: es) X.env)).any (·.1) || (backToKw pos (keywordEach kws X.env)).any (·.1.isNone)) = false := by rfl) : Ev X B (.Call (.Name x p) (e :: es) kws pos) S (.fr d) S2 :=
  fun F0 α H σ Q R k => wE.of (pe_callN F hr hg hm hkp hb pass0 pa_w pk_w hall hks hdb he hpl) (ha F0 α H σ _ R fun F1 α1 vs H1 R1 st1 r1 => hk F1 α1 H1 σ _ R1 fun F2 α2 zs H2 R2 st2 r2 => by
    have rr := Reps.append (Reps.append ((CRels.fr r1).mono st2.fro) r2) (hd F2)
    have lv : vs.length = n := by rw [← (CRels.fr r1).length]; exact l1
    have lz : zs.length = ks.length := by rw [← r2.length]; exact l2
    exact ⟨lv, lz, F2, α2, [], _, fun _ => False, R2.call0 rr, hs _ fun L' F' α' v H' ρ' σ' R' r' => k F' α2 v H' (R2.back0 R') ((st1.trans st2 h1).trans ⟨R'.bF, fun _ _ => rfl⟩ fun n h => h2 n (h1 n h)) r'⟩)
/-- math.lcm -/
theorem cr_lcm : CallR X (.builtin "math.lcm") (fun vs H Q => ∃ a b : Int, vs = [.int a, .int b] ∧ a.natAbs < 2 ^ 64 ∧ b.natAbs < 2 ^ 64 ∧ Q (.int ((a.natAbs.lcm b.natAbs : Nat) : Int)) H) := by
  intro pins s σ H vs us Q I r h
  obtain ⟨i, j, rfl, h1, h2, q⟩ := h
  obtain ⟨t, u, rfl⟩ := Vals.int2 r
  exact PySem.W.mc_lcm h1 h2 fun _ => ⟨.int _, H, I.tok _, ⟨_, rfl⟩, q⟩
theorem c_lcm {i j : Int} (h1 : i.natAbs < 2 ^ 64) (h2 : j.natAbs < 2 ^ 64) : Cb X (.builtin "math.lcm") [.int i, .int j] (.int ((i.natAbs.lcm j.natAbs : Nat) : Int)) := .of cr_lcm fun B F α H σ S Q xs R rx k => by
  cases rx with | cons r rr => cases rr with | cons r2 rr => cases rr; cases r; cases r2; exact ⟨i, j, rfl, h1, h2, k F α _ H R Stp.refl (.int _)⟩
end
end Nz

set_option maxRecDepth 100000
set_option maxHeartbeats 4000000
namespace My
open PySem PySem.Spec PyProof.Rows L2 Nz
def top (i : Nat) : Stmt := PySem.Challenge.pw_neverlate_k47_overfull_windows.main.body.getD i (.Pass ⟨0, 0, 0, 0⟩)

local macro_rules | `(tactic| walk_at "lcm") => `(tactic| omega)
local macro_rules | `(tactic| walk_at "str") => `(tactic| (apply small_log; omega))
local macro_rules | `(tactic| walk_at "scan") => `(tactic| (unfold PySem.scanBound; omega))
local macro_rules | `(tactic| walk_at "mulw") => `(tactic| first | exact mulW_of (by omega) | with_reducible assumption)
local macro_rules | `(tactic| walk_at "divw") => `(tactic| first | exact divW_of (by omega) | with_reducible assumption)
local macro_rules | `(tactic| walk_at "some") => `(tactic| first | assumption | exact some_ofW (by assumption) | exact some_of (by assumption) | exact some_of2 (by assumption) | exact some_of3 (by assumption) | exact some_of4 (by assumption) | exact some_of5 (by assumption) | (simp_all; done))
local macro_rules | `(tactic| walk_at "mem") => `(tactic| first | assumption | exact minL_mem (by walk_at "ne") | exact maxL_mem (by walk_at "ne"))
local macro_rules | `(tactic| walk_at "sd") => `(tactic| first | omega | (have hyy := seq_range (by assumption); omega) | (have hyy := rng_lt (by assumption); omega) | (simp only [List.length_append, List.length_map, List.length_cons, List.length_nil, List.length_range, List.length_replicate] at *; omega) | decide | with_reducible assumption | exact Int.emod_nonneg _ (by omega) | exact Int.emod_lt_of_pos _ (by omega) | (constructor <;> omega) | (refine ⟨?_, ?_⟩ <;> omega))
local macro_rules | `(tactic| walk_at "mul") => `(tactic| first | exact Or.inl ⟨by omega, by omega⟩ | (have hyy := seq_range (by assumption); exact Or.inl ⟨by omega, by omega⟩) | exact Or.inr ⟨by omega, by omega⟩ | with_reducible assumption)
local macro_rules | `(tactic| walk_at "ne") => `(tactic| first | assumption | (intro h; subst h; contradiction) | (intro h; simp only [h, List.isEmpty_nil, not_true_eq_false] at *; done) | (intro h; have := congrArg List.length h; simp only [List.length_map, List.length_range, List.length_nil, List.length_append, List.length_cons] at this; omega) | (simp; done) | (intro h; simp [h] at *; done) | (intro h; simp [h] at *; omega))
local macro_rules | `(tactic| walk_at "pre") => `(tactic| first | omega | with_reducible assumption | (simp only [List.length_map]; omega) | (refine ⟨?_, ?_⟩ <;> first | omega | with_reducible assumption) | (refine ⟨?_, ?_, ?_⟩ <;> first | omega | with_reducible assumption) | (refine ⟨?_, ?_, ?_, ?_⟩ <;> first | omega | with_reducible assumption) | (have hyy := seq_range (by assumption); (repeat' apply And.intro) <;> omega))

structure Task where
  name : Str
  kinds : List (Str × Int × Int)
  ways : List (Str × Str × Int)
  deriving Inhabited
def fTask (t : Task) : List (Str × D) := [("name", D.str t.name), ("kinds", (eU (eT3 D.str D.int D.int)) t.kinds), ("ways", (eU (eT3 D.str D.str D.int)) t.ways)]
abbrev eTask (t : Task) : D := .obj "Task" (fTask t)
structure System where
  tasks : List Task
  table : List Int
  deriving Inhabited
def fSystem (t : System) : List (Str × D) := [("tasks", (eU eTask) t.tasks), ("table", (eU D.int) t.table)]
abbrev eSystem (t : System) : D := .obj "System" (fSystem t)
abbrev s_law_row : Stmt := top 44
abbrev s_law_numbers : Stmt := top 45
abbrev s_is_integer : Stmt := top 31
abbrev s_is_name : Stmt := top 32
abbrev s_is_kind : Stmt := top 33
abbrev s_is_way : Stmt := top 34
abbrev s_are_different : Stmt := top 35
abbrev s_are_kinds : Stmt := top 36
abbrev s_are_ways : Stmt := top 37
abbrev s_Task_init__ : Stmt := inClass (top 41) 0
abbrev s_Task_kind_number : Stmt := inClass (top 41) 3
abbrev s_Task_kind : Stmt := inClass (top 41) 7
abbrev s_Task_ways_from : Stmt := inClass (top 41) 6
abbrev s_Task_cost : Stmt := inClass (top 41) 4
abbrev s_Task_deadline : Stmt := inClass (top 41) 5
abbrev s_law_is_integer : Stmt := top 47
abbrev s_law_pick : Stmt := top 46
abbrev s_law_scale : Stmt := top 49
abbrev s_law_name : Stmt := top 50
abbrev s_law_kinds : Stmt := top 51
abbrev s_law_ways : Stmt := top 52
abbrev s_law_number : Stmt := top 53
abbrev s_steps : Stmt := top 6
abbrev s_best_step : Stmt := top 7
abbrev s_rows : Stmt := top 2
abbrev s_is_table : Stmt := top 38
abbrev s_are_task_names : Stmt := top 39
abbrev s_System_init__ : Stmt := inClass (top 42) 0
abbrev s_demands : Stmt := top 3
abbrev s_joint_demands : Stmt := top 5
abbrev s_system_demands : Stmt := top 4
abbrev s_capacity : Stmt := top 15
abbrev s_sums : Stmt := top 18
abbrev s_supply : Stmt := top 16
abbrev s_supplies : Stmt := top 17
abbrev s_law_rows : Stmt := top 54
abbrev s_law_tasks : Stmt := top 55
abbrev s_law_system : Stmt := top 56
abbrev s_law_demands : Stmt := top 57
abbrev s_law_table : Stmt := top 58
abbrev s_law_supply : Stmt := top 59
abbrev s_is_overfull : Stmt := top 20
abbrev s_first_overfull : Stmt := top 21
abbrev s_law_is_pair : Stmt := top 48
abbrev s_law_overfull : Stmt := top 60
abbrev s_law : Stmt := top 61
structure TX (K : Frag) (mg : Mg) where
  n_abs : mg "abs" = none
  n_all : mg "all" = none
  n_bool : mg "bool" = none
  n_divmod : mg "divmod" = none
  n_enumerate : mg "enumerate" = none
  n_int : mg "int" = none
  n_isinstance : mg "isinstance" = none
  n_len : mg "len" = none
  n_list : mg "list" = none
  n_max : mg "max" = none
  n_min : mg "min" = none
  n_range : mg "range" = none
  n_set : mg "set" = none
  n_str : mg "str" = none
  n_sum : mg "sum" = none
  n_tuple : mg "tuple" = none
  n_zip : mg "zip" = none
  t_LONGEST_NAME : Tok
  c_LONGEST_NAME : mg "LONGEST_NAME" = some (.int 12 t_LONGEST_NAME)
  t_LONGEST_TABLE : Tok
  c_LONGEST_TABLE : mg "LONGEST_TABLE" = some (.int 1001 t_LONGEST_TABLE)
  t_MOST_CAPACITY : Tok
  c_MOST_CAPACITY : mg "MOST_CAPACITY" = some (.int 1000000 t_MOST_CAPACITY)
  t_MOST_KINDS : Tok
  c_MOST_KINDS : mg "MOST_KINDS" = some (.int 8 t_MOST_KINDS)
  t_MOST_TASKS : Tok
  c_MOST_TASKS : mg "MOST_TASKS" = some (.int 6 t_MOST_TASKS)
  t_MOST_UNITS : Tok
  c_MOST_UNITS : mg "MOST_UNITS" = some (.int 1000 t_MOST_UNITS)
  t_MOST_WAYS : Tok
  c_MOST_WAYS : mg "MOST_WAYS" = some (.int 16 t_MOST_WAYS)
  t_NAME_CHARACTERS : Tok
  c_NAME_CHARACTERS : mg "NAME_CHARACTERS" = some (.str "abcdefghijklmnopqrstuvwxyz0123456789" t_NAME_CHARACTERS)
  C_System : Addr
  q_System : mg "System" = some (.ref C_System)
  cl_System : Cls K C_System
  na_System_tasks : NoAttr K C_System "tasks"
  na_System_table : NoAttr K C_System "table"
  C_Task : Addr
  q_Task : mg "Task" = some (.ref C_Task)
  cl_Task : Cls K C_Task
  na_Task_name : NoAttr K C_Task "name"
  na_Task_kinds : NoAttr K C_Task "kinds"
  na_Task_ways : NoAttr K C_Task "ways"
  a_law_row : Addr
  d_law_row : FuncData
  F_law_row : Fun K "_law_row" "_law_row" s_law_row a_law_row d_law_row
  k_law_row : PySem.W.keepIn K (.ref a_law_row) = true
  m_law_row : mg "_law_row" = some (.ref a_law_row)
  b_law_row : Binds K d_law_row ["cell", "many"] []
  a_law_numbers : Addr
  d_law_numbers : FuncData
  F_law_numbers : Fun K "_law_numbers" "_law_numbers" s_law_numbers a_law_numbers d_law_numbers
  k_law_numbers : PySem.W.keepIn K (.ref a_law_numbers) = true
  m_law_numbers : mg "_law_numbers" = some (.ref a_law_numbers)
  b_law_numbers : Binds K d_law_numbers ["script", "many"] []
  a_is_integer : Addr
  d_is_integer : FuncData
  F_is_integer : Fun K "is_integer" "is_integer" s_is_integer a_is_integer d_is_integer
  k_is_integer : PySem.W.keepIn K (.ref a_is_integer) = true
  m_is_integer : mg "is_integer" = some (.ref a_is_integer)
  b_is_integer : Binds K d_is_integer ["value", "low", "high"] []
  a_is_name : Addr
  d_is_name : FuncData
  F_is_name : Fun K "is_name" "is_name" s_is_name a_is_name d_is_name
  k_is_name : PySem.W.keepIn K (.ref a_is_name) = true
  m_is_name : mg "is_name" = some (.ref a_is_name)
  b_is_name : Binds K d_is_name ["value"] []
  a_is_kind : Addr
  d_is_kind : FuncData
  F_is_kind : Fun K "is_kind" "is_kind" s_is_kind a_is_kind d_is_kind
  k_is_kind : PySem.W.keepIn K (.ref a_is_kind) = true
  m_is_kind : mg "is_kind" = some (.ref a_is_kind)
  b_is_kind : Binds K d_is_kind ["value"] []
  a_is_way : Addr
  d_is_way : FuncData
  F_is_way : Fun K "is_way" "is_way" s_is_way a_is_way d_is_way
  k_is_way : PySem.W.keepIn K (.ref a_is_way) = true
  m_is_way : mg "is_way" = some (.ref a_is_way)
  b_is_way : Binds K d_is_way ["value", "kind_names"] []
  a_are_different : Addr
  d_are_different : FuncData
  F_are_different : Fun K "are_different" "are_different" s_are_different a_are_different d_are_different
  k_are_different : PySem.W.keepIn K (.ref a_are_different) = true
  m_are_different : mg "are_different" = some (.ref a_are_different)
  b_are_different : Binds K d_are_different ["names"] []
  a_are_kinds : Addr
  d_are_kinds : FuncData
  F_are_kinds : Fun K "are_kinds" "are_kinds" s_are_kinds a_are_kinds d_are_kinds
  k_are_kinds : PySem.W.keepIn K (.ref a_are_kinds) = true
  m_are_kinds : mg "are_kinds" = some (.ref a_are_kinds)
  b_are_kinds : Binds K d_are_kinds ["kinds"] []
  a_are_ways : Addr
  d_are_ways : FuncData
  F_are_ways : Fun K "are_ways" "are_ways" s_are_ways a_are_ways d_are_ways
  k_are_ways : PySem.W.keepIn K (.ref a_are_ways) = true
  m_are_ways : mg "are_ways" = some (.ref a_are_ways)
  b_are_ways : Binds K d_are_ways ["ways", "kinds"] []
  a_Task_init__ : Addr
  d_Task_init__ : FuncData
  F_Task_init__ : Fun K "__init__" "Task.__init__" s_Task_init__ a_Task_init__ d_Task_init__
  k_Task_init__ : PySem.W.keepIn K (.ref a_Task_init__) = true
  mk_Task_init__ : Mk K C_Task a_Task_init__
  kb_Task_init___1_kinds_ways : KBn K d_Task_init__ ["self", "name", "kinds", "ways"] (1 + 1) ["kinds", "ways"] (fun us ws => us ++ ws) (fun vs zs => vs ++ zs)
  a_Task_kind_number : Addr
  d_Task_kind_number : FuncData
  F_Task_kind_number : Fun K "kind_number" "Task.kind_number" s_Task_kind_number a_Task_kind_number d_Task_kind_number
  k_Task_kind_number : PySem.W.keepIn K (.ref a_Task_kind_number) = true
  me_Task_kind_number : Meth K C_Task "kind_number" a_Task_kind_number
  b_Task_kind_number : Binds K d_Task_kind_number ["self", "kind_name"] []
  a_Task_kind : Addr
  d_Task_kind : FuncData
  F_Task_kind : Fun K "_kind" "Task._kind" s_Task_kind a_Task_kind d_Task_kind
  k_Task_kind : PySem.W.keepIn K (.ref a_Task_kind) = true
  me_Task_kind : Meth K C_Task "_kind" a_Task_kind
  b_Task_kind : Binds K d_Task_kind ["self", "kind_name"] []
  a_Task_ways_from : Addr
  d_Task_ways_from : FuncData
  F_Task_ways_from : Fun K "ways_from" "Task.ways_from" s_Task_ways_from a_Task_ways_from d_Task_ways_from
  k_Task_ways_from : PySem.W.keepIn K (.ref a_Task_ways_from) = true
  me_Task_ways_from : Meth K C_Task "ways_from" a_Task_ways_from
  b_Task_ways_from : Binds K d_Task_ways_from ["self", "kind_name"] []
  a_Task_cost : Addr
  d_Task_cost : FuncData
  F_Task_cost : Fun K "cost" "Task.cost" s_Task_cost a_Task_cost d_Task_cost
  k_Task_cost : PySem.W.keepIn K (.ref a_Task_cost) = true
  me_Task_cost : Meth K C_Task "cost" a_Task_cost
  b_Task_cost : Binds K d_Task_cost ["self", "kind_name"] []
  a_Task_deadline : Addr
  d_Task_deadline : FuncData
  F_Task_deadline : Fun K "deadline" "Task.deadline" s_Task_deadline a_Task_deadline d_Task_deadline
  k_Task_deadline : PySem.W.keepIn K (.ref a_Task_deadline) = true
  me_Task_deadline : Meth K C_Task "deadline" a_Task_deadline
  b_Task_deadline : Binds K d_Task_deadline ["self", "kind_name"] []
  a_law_is_integer : Addr
  d_law_is_integer : FuncData
  F_law_is_integer : Fun K "_law_is_integer" "_law_is_integer" s_law_is_integer a_law_is_integer d_law_is_integer
  k_law_is_integer : PySem.W.keepIn K (.ref a_law_is_integer) = true
  m_law_is_integer : mg "_law_is_integer" = some (.ref a_law_is_integer)
  b_law_is_integer : Binds K d_law_is_integer ["actual"] []
  a_law_pick : Addr
  d_law_pick : FuncData
  F_law_pick : Fun K "_law_pick" "_law_pick" s_law_pick a_law_pick d_law_pick
  k_law_pick : PySem.W.keepIn K (.ref a_law_pick) = true
  m_law_pick : mg "_law_pick" = some (.ref a_law_pick)
  b_law_pick : Binds K d_law_pick ["numbers", "at", "count"] []
  a_law_scale : Addr
  d_law_scale : FuncData
  F_law_scale : Fun K "_law_scale" "_law_scale" s_law_scale a_law_scale d_law_scale
  k_law_scale : PySem.W.keepIn K (.ref a_law_scale) = true
  m_law_scale : mg "_law_scale" = some (.ref a_law_scale)
  b_law_scale : Binds K d_law_scale ["numbers"] []
  a_law_name : Addr
  d_law_name : FuncData
  F_law_name : Fun K "_law_name" "_law_name" s_law_name a_law_name d_law_name
  k_law_name : PySem.W.keepIn K (.ref a_law_name) = true
  m_law_name : mg "_law_name" = some (.ref a_law_name)
  b_law_name : Binds K d_law_name ["numbers", "k"] []
  a_law_kinds : Addr
  d_law_kinds : FuncData
  F_law_kinds : Fun K "_law_kinds" "_law_kinds" s_law_kinds a_law_kinds d_law_kinds
  k_law_kinds : PySem.W.keepIn K (.ref a_law_kinds) = true
  m_law_kinds : mg "_law_kinds" = some (.ref a_law_kinds)
  b_law_kinds : Binds K d_law_kinds ["numbers", "at", "most"] []
  a_law_ways : Addr
  d_law_ways : FuncData
  F_law_ways : Fun K "_law_ways" "_law_ways" s_law_ways a_law_ways d_law_ways
  k_law_ways : PySem.W.keepIn K (.ref a_law_ways) = true
  m_law_ways : mg "_law_ways" = some (.ref a_law_ways)
  b_law_ways : Binds K d_law_ways ["numbers", "at", "kinds", "most"] []
  a_law_number : Addr
  d_law_number : FuncData
  F_law_number : Fun K "_law_number" "_law_number" s_law_number a_law_number d_law_number
  k_law_number : PySem.W.keepIn K (.ref a_law_number) = true
  m_law_number : mg "_law_number" = some (.ref a_law_number)
  b_law_number : Binds K d_law_number ["kinds", "name"] []
  a_steps : Addr
  d_steps : FuncData
  F_steps : Fun K "_steps" "_steps" s_steps a_steps d_steps
  k_steps : PySem.W.keepIn K (.ref a_steps) = true
  m_steps : mg "_steps" = some (.ref a_steps)
  b_steps : Binds K d_steps ["task", "kind_name"] []
  a_best_step : Addr
  d_best_step : FuncData
  F_best_step : Fun K "_best_step" "_best_step" s_best_step a_best_step d_best_step
  k_best_step : PySem.W.keepIn K (.ref a_best_step) = true
  m_best_step : mg "_best_step" = some (.ref a_best_step)
  b_best_step : Binds K d_best_step ["steps", "found", "length"] []
  a_rows : Addr
  d_rows : FuncData
  F_rows : Fun K "rows" "rows" s_rows a_rows d_rows
  k_rows : PySem.W.keepIn K (.ref a_rows) = true
  m_rows : mg "rows" = some (.ref a_rows)
  b_rows : Binds K d_rows ["task", "length"] []
  a_is_table : Addr
  d_is_table : FuncData
  F_is_table : Fun K "is_table" "is_table" s_is_table a_is_table d_is_table
  k_is_table : PySem.W.keepIn K (.ref a_is_table) = true
  m_is_table : mg "is_table" = some (.ref a_is_table)
  b_is_table : Binds K d_is_table ["capacities"] []
  a_are_task_names : Addr
  d_are_task_names : FuncData
  F_are_task_names : Fun K "are_task_names" "are_task_names" s_are_task_names a_are_task_names d_are_task_names
  k_are_task_names : PySem.W.keepIn K (.ref a_are_task_names) = true
  m_are_task_names : mg "are_task_names" = some (.ref a_are_task_names)
  b_are_task_names : Binds K d_are_task_names ["names"] []
  a_System_init__ : Addr
  d_System_init__ : FuncData
  F_System_init__ : Fun K "__init__" "System.__init__" s_System_init__ a_System_init__ d_System_init__
  k_System_init__ : PySem.W.keepIn K (.ref a_System_init__) = true
  mk_System_init__ : Mk K C_System a_System_init__
  kb_System_init___1_table : KBn K d_System_init__ ["self", "tasks", "table"] (1 + 1) ["table"] (fun us ws => us ++ ws) (fun vs zs => vs ++ zs)
  a_demands : Addr
  d_demands : FuncData
  F_demands : Fun K "demands" "demands" s_demands a_demands d_demands
  k_demands : PySem.W.keepIn K (.ref a_demands) = true
  m_demands : mg "demands" = some (.ref a_demands)
  b_demands : Binds K d_demands ["task", "length"] []
  a_joint_demands : Addr
  d_joint_demands : FuncData
  F_joint_demands : Fun K "joint_demands" "joint_demands" s_joint_demands a_joint_demands d_joint_demands
  k_joint_demands : PySem.W.keepIn K (.ref a_joint_demands) = true
  m_joint_demands : mg "joint_demands" = some (.ref a_joint_demands)
  b_joint_demands : Binds K d_joint_demands ["tasks", "length"] []
  a_system_demands : Addr
  d_system_demands : FuncData
  F_system_demands : Fun K "system_demands" "system_demands" s_system_demands a_system_demands d_system_demands
  k_system_demands : PySem.W.keepIn K (.ref a_system_demands) = true
  m_system_demands : mg "system_demands" = some (.ref a_system_demands)
  b_system_demands : Binds K d_system_demands ["system", "length"] []
  a_capacity : Addr
  d_capacity : FuncData
  F_capacity : Fun K "capacity" "capacity" s_capacity a_capacity d_capacity
  k_capacity : PySem.W.keepIn K (.ref a_capacity) = true
  m_capacity : mg "capacity" = some (.ref a_capacity)
  b_capacity : Binds K d_capacity ["table", "slot"] []
  a_sums : Addr
  d_sums : FuncData
  F_sums : Fun K "_sums" "_sums" s_sums a_sums d_sums
  k_sums : PySem.W.keepIn K (.ref a_sums) = true
  m_sums : mg "_sums" = some (.ref a_sums)
  b_sums : Binds K d_sums ["table"] []
  a_supply : Addr
  d_supply : FuncData
  F_supply : Fun K "supply" "supply" s_supply a_supply d_supply
  k_supply : PySem.W.keepIn K (.ref a_supply) = true
  m_supply : mg "supply" = some (.ref a_supply)
  b_supply : Binds K d_supply ["table", "start", "end"] []
  a_supplies : Addr
  d_supplies : FuncData
  F_supplies : Fun K "supplies" "supplies" s_supplies a_supplies d_supplies
  k_supplies : PySem.W.keepIn K (.ref a_supplies) = true
  m_supplies : mg "supplies" = some (.ref a_supplies)
  b_supplies : Binds K d_supplies ["table", "slots"] []
  a_law_rows : Addr
  d_law_rows : FuncData
  F_law_rows : Fun K "_law_rows" "_law_rows" s_law_rows a_law_rows d_law_rows
  k_law_rows : PySem.W.keepIn K (.ref a_law_rows) = true
  m_law_rows : mg "_law_rows" = some (.ref a_law_rows)
  b_law_rows : Binds K d_law_rows ["kinds", "ways", "length"] []
  a_law_tasks : Addr
  d_law_tasks : FuncData
  F_law_tasks : Fun K "_law_tasks" "_law_tasks" s_law_tasks a_law_tasks d_law_tasks
  k_law_tasks : PySem.W.keepIn K (.ref a_law_tasks) = true
  m_law_tasks : mg "_law_tasks" = some (.ref a_law_tasks)
  b_law_tasks : Binds K d_law_tasks ["numbers", "at", "count"] []
  a_law_system : Addr
  d_law_system : FuncData
  F_law_system : Fun K "_law_system" "_law_system" s_law_system a_law_system d_law_system
  k_law_system : PySem.W.keepIn K (.ref a_law_system) = true
  m_law_system : mg "_law_system" = some (.ref a_law_system)
  b_law_system : Binds K d_law_system ["tasks", "table"] []
  a_law_demands : Addr
  d_law_demands : FuncData
  F_law_demands : Fun K "_law_demands" "_law_demands" s_law_demands a_law_demands d_law_demands
  k_law_demands : PySem.W.keepIn K (.ref a_law_demands) = true
  m_law_demands : mg "_law_demands" = some (.ref a_law_demands)
  b_law_demands : Binds K d_law_demands ["tasks", "length"] []
  a_law_table : Addr
  d_law_table : FuncData
  F_law_table : Fun K "_law_table" "_law_table" s_law_table a_law_table d_law_table
  k_law_table : PySem.W.keepIn K (.ref a_law_table) = true
  m_law_table : mg "_law_table" = some (.ref a_law_table)
  b_law_table : Binds K d_law_table ["numbers", "at"] []
  a_law_supply : Addr
  d_law_supply : FuncData
  F_law_supply : Fun K "_law_supply" "_law_supply" s_law_supply a_law_supply d_law_supply
  k_law_supply : PySem.W.keepIn K (.ref a_law_supply) = true
  m_law_supply : mg "_law_supply" = some (.ref a_law_supply)
  b_law_supply : Binds K d_law_supply ["table", "start", "end"] []
  a_is_overfull : Addr
  d_is_overfull : FuncData
  F_is_overfull : Fun K "is_overfull" "is_overfull" s_is_overfull a_is_overfull d_is_overfull
  k_is_overfull : PySem.W.keepIn K (.ref a_is_overfull) = true
  m_is_overfull : mg "is_overfull" = some (.ref a_is_overfull)
  kb_is_overfull_1_start_length : KBn K d_is_overfull ["system", "start", "length"] 1 ["start", "length"] (fun us ws => us ++ ws) (fun vs zs => vs ++ zs)
  a_first_overfull : Addr
  d_first_overfull : FuncData
  F_first_overfull : Fun K "first_overfull" "first_overfull" s_first_overfull a_first_overfull d_first_overfull
  k_first_overfull : PySem.W.keepIn K (.ref a_first_overfull) = true
  m_first_overfull : mg "first_overfull" = some (.ref a_first_overfull)
  kb_first_overfull_1_horizon : KBn K d_first_overfull ["system", "horizon"] 1 ["horizon"] (fun us ws => us ++ ws) (fun vs zs => vs ++ zs)
  a_law_is_pair : Addr
  d_law_is_pair : FuncData
  F_law_is_pair : Fun K "_law_is_pair" "_law_is_pair" s_law_is_pair a_law_is_pair d_law_is_pair
  k_law_is_pair : PySem.W.keepIn K (.ref a_law_is_pair) = true
  m_law_is_pair : mg "_law_is_pair" = some (.ref a_law_is_pair)
  b_law_is_pair : Binds K d_law_is_pair ["actual"] []
  a_law_overfull : Addr
  d_law_overfull : FuncData
  F_law_overfull : Fun K "_law_overfull" "_law_overfull" s_law_overfull a_law_overfull d_law_overfull
  k_law_overfull : PySem.W.keepIn K (.ref a_law_overfull) = true
  m_law_overfull : mg "_law_overfull" = some (.ref a_law_overfull)
  b_law_overfull : Binds K d_law_overfull ["tasks", "table", "horizon"] []
  a_law : Addr
  d_law : FuncData
  F_law : Fun K "law" "law" s_law a_law d_law
  k_law : PySem.W.keepIn K (.ref a_law) = true
  m_law : mg "law" = some (.ref a_law)
  b_law : Binds K d_law ["script"] []
  e_law : ∀ (s : Shared) (v : Value), BindsTo s d_law ⟨[v], []⟩ [("script", v)]
section
variable {P : Program} {w : World} {K : Frag} {mg : Mg} {base : Heap}
def m_law_row_l0 (cell : Int) (zs0 : (List Int) × Int) (zy0 : Nat) : (List Int) × Int :=
  if (((10 : Int) ^ ((18 : Int)).toNat) ≤ (if cell < 0 then -cell else cell)) then ((zs0.1 ++ [(zs0.2 % (1009 : Int))]), (zs0.2 / (1009 : Int))) else let mixed : Int := (((zs0.2 * (48271 : Int)) + ((((0 : Int) + (zy0 : Int)) + (1 : Int)) * (69621 : Int))) % (2147483647 : Int))
  let mixed : Int := (((mixed * (16807 : Int)) + ((271 : Int) * (((0 : Int) + (zy0 : Int)) + (3 : Int)))) % (2147483629 : Int))
  ((zs0.1 ++ [(mixed % (1009 : Int))]), zs0.2)
def m_law_row (cell : Int) (many : Int) : List Int :=
  let rest1 : Int := (if cell < 0 then -cell else cell)
  ((List.range (many).toNat).foldl (m_law_row_l0 cell) (([] : List Int), rest1)).1
theorem len_row (cell many : Int) : (m_law_row cell many).length = many.toNat := by
  have key : ∀ (n : Nat) (xs : List Nat) (s : List Int × Int), ((xs.foldl (m_law_row_l0 cell) s).1).length = s.1.length + xs.length := by
    intro _ xs
    induction xs with
    | nil => intro s; rfl
    | cons x r ih =>
      intro s
      rw [List.foldl_cons, ih]
      have : ((m_law_row_l0 cell s x).1).length = s.1.length + 1 := by
        unfold m_law_row_l0
        split <;> split <;> simp
      rw [this, List.length_cons]; omega
  have := key 0 (List.range (many).toNat) (([] : List Int), (if cell < 0 then -cell else cell))
  unfold m_law_row
  simpa using this
theorem mem_row (cell many : Int) : ∀ x ∈ m_law_row cell many, 0 ≤ x ∧ x ≤ 1008 := by
  have key : ∀ (xs : List Nat) (s : List Int × Int), (∀ x ∈ s.1, 0 ≤ x ∧ x ≤ 1008) → ∀ x ∈ ((xs.foldl (m_law_row_l0 cell) s).1), 0 ≤ x ∧ x ≤ 1008 := by
    intro xs
    induction xs with
    | nil => intro s h; exact h
    | cons y r ih =>
      intro s h
      rw [List.foldl_cons]
      refine ih _ ?_
      have app : ∀ (v : Int), 0 ≤ v ∧ v ≤ 1008 → ∀ x ∈ s.1 ++ [v], 0 ≤ x ∧ x ≤ 1008 := fun v hv x hx => by
        rcases List.mem_append.mp hx with hx | hx
        · exact h x hx
        · rw [List.mem_singleton.mp hx]; exact hv
      unfold m_law_row_l0
      split <;> split <;> exact app _ (by omega)
  unfold m_law_row
  exact key _ _ (fun x hx => absurd hx (by simp))
theorem sc_law_row : FnScope ["cell", "many", "row", "rest", "k", "mixed"] ["cell", "many"] (defScope s_law_row) := ⟨rfl, rfl, rfl, by decide +kernel, rfl, by decide +kernel, by decide +kernel⟩
def sp_law_row : SpN := fun zcs zL zKc => ∃ cell : Int, ∃ many : Int, zcs = [.fr (D.int cell), .fr (D.int many)] ∧ zL = [] ∧ (0 ≤ many ∧ many ≤ 1001) ∧ ∀ zL', zKc (.fr ((eL D.int) (m_law_row cell many))) zL'
theorem ok_law_row (T : TX K mg) : FnOk P w K mg base CX0 1 T.a_law_row T.d_law_row ["cell", "many"] (SpOf K mg sp_law_row) := by
  refine T.F_law_row.okN sc_law_row (fun zcs zL zKc zh => by obtain ⟨cell, many, rfl, _⟩ := zh; rfl) fun zcdv zA zout zst zH zE zB zcs zL zKc zhr zh => ?_
  obtain ⟨cell, many, rfl, rfl, hpre, zk⟩ := zh
  have nd := sc_law_row.nd
  have hSL := sizeLine_eq
  show Exs _ _ _ ⟨[some (.fr (D.int cell)), some (.fr (D.int many)), none, none, none, none], []⟩ _
  refine exs_cons (ex_set 2 (ev_lstN 100 (enc := D.int) ([] : List Int) ea_nil rfl (by simp only [List.length_cons, List.length_nil]; decide) (by simp [names]) (by decide)) ?_ nd rfl (.inl rfl))
  show Exs _ _ _ ⟨[some (.fr (D.int cell)), some (.fr (D.int many)), some (.ad 100), none, none, none], [(100, .fl ((([] : List Int)).map D.int))]⟩ _
  refine exs_cons (ex_set 3 (ev_callB (ds := [D.int cell]) c_abs (ea_cons (ev_var 0 rfl (.inl rfl) rfl) ea_nil) (by exact rfl) T.n_abs (by decide +kernel)) ?_ nd rfl (.inl rfl))
  show Exs _ _ _ ⟨[some (.fr (D.int cell)), some (.fr (D.int many)), some (.ad 100), some (.fr (D.int (if cell < 0 then -cell else cell))), none, none], [(100, .fl ((([] : List Int)).map D.int))]⟩ _
  generalize zg_rest : (if cell < 0 then -cell else cell) = rest
  show Exs _ _ _ ⟨[some (.fr (D.int cell)), some (.fr (D.int many)), some (.ad 100), some (.fr (D.int rest)), none, none], [(100, .fl ((([] : List Int)).map D.int))]⟩ _
  refine exs_cons (ex_forF (enc := (fun i : Nat => D.int ((0 : Int) + (i : Int)))) (fun (zs0 : (List Int) × Int) => (⟨[some (.fr (D.int cell)), some (.fr (D.int many)), some (.ad 100), some (.fr (D.int zs0.2)), none, none], [(100, .fl ((zs0.1).map D.int))]⟩ : Nz.S)) (m_law_row_l0 cell) (([] : List Int), rest) (fun (zi0 : Nat) (zs0 : (List Int) × Int) => zs0.1.length ≤ zi0) (src_range1 (ea_cons (ev_var 1 rfl (.inl rfl) rfl) ea_nil) (by exact rfl) T.n_range (by walk_at "sd") (by walk_at "sd")) ⟨⟨.inr rfl, .inr rfl, .inr rfl, .inr rfl, .inl rfl, .inl rfl, trivial⟩, rfl⟩ (by simp) ?_ ?_ PassesOwn.never rfl)
  · intro zi0 zy0 zs0 zhy0 zq0
    skip
    have hi := (List.getElem?_eq_some_iff.mp zhy0).1
    simp only [List.length_range] at hi
    refine ⟨⟨[some (.fr (D.int cell)), some (.fr (D.int many)), some (.ad 100), some (.fr (D.int zs0.2)), some (.fr (D.int ((0 : Int) + (zy0 : Int)))), none], [(100, .fl ((zs0.1).map D.int))]⟩, (eg_name 4 nd rfl (.inl rfl)), ?_⟩
    refine exs_one (ex_ifP bd_d (et_cmp o_ge (ev_callB (ds := [D.int cell]) c_abs (ea_cons (ev_var 0 rfl (.inl rfl) rfl) ea_nil) (by exact rfl) T.n_abs (by decide +kernel)) (ev_bin (o_pow (by unfold CPow; decide)) ev_int ev_int) (nomark _)) (fun (zh1 : (((10 : Int) ^ ((18 : Int)).toNat) ≤ (if cell < 0 then -cell else cell))) => ?_) (fun (zh1 : ¬ (((10 : Int) ^ ((18 : Int)).toNat) ≤ (if cell < 0 then -cell else cell))) => ?_))
    · skip
      refine exs_cons (ex_expr (ev_appendT (n := 100) (enc := D.int) (xs := zs0.1) (xs0 := zs0.1) (zs0.2 % (1009 : Int)) rfl rfl rfl (by walk_at "sd") (ev_var 2 rfl (.inl rfl) rfl) (ev_bin (o_mod (by walk_at "sd")) (ev_callTy (ds := [D.int zs0.2]) c_int (ea_cons (ev_var 3 rfl (.inl rfl) rfl) ea_nil) (by exact rfl) T.n_int (by decide +kernel)) ev_int)) ?_)
      show Exs _ _ _ ⟨[some (.fr (D.int cell)), some (.fr (D.int many)), some (.ad 100), some (.fr (D.int zs0.2)), some (.fr (D.int ((0 : Int) + (zy0 : Int)))), none], [(100, .fl (((zs0.1 ++ [(zs0.2 % (1009 : Int))])).map D.int))]⟩ _
      refine exs_one (ex_set 3 (ev_bin (o_div (by walk_at "sd") (by walk_at "sd")) (ev_var 3 rfl (.inl rfl) rfl) ev_int) ?_ nd rfl (.inl rfl))
      have est : (m_law_row_l0 cell) zs0 zy0 = ((zs0.1 ++ [(zs0.2 % (1009 : Int))]), (zs0.2 / (1009 : Int))) := by simp only [m_law_row_l0, not_true_eq_false, not_false_eq_true, ↓reduceIte, ↓if_pos zh1]
      show Le _ _ ∧ _
      try rw [est]
      exact ⟨⟨⟨.inr rfl, .inr rfl, .inr rfl, .inr rfl, .inl rfl, .inl rfl, trivial⟩, rfl⟩, (by simp; omega)⟩
    · skip
      refine exs_cons (ex_set 5 (ev_bin (o_mod (by walk_at "sd")) (ev_callTy (ds := [D.int ((zs0.2 * (48271 : Int)) + ((((0 : Int) + (zy0 : Int)) + (1 : Int)) * (69621 : Int)))]) c_int (ea_cons (ev_bin o_add (ev_bin (o_mul (by walk_at "mul")) (ev_var 3 rfl (.inl rfl) rfl) ev_int) (ev_bin (o_mul (by walk_at "mul")) (ev_bin o_add (ev_var 4 rfl (.inl rfl) rfl) ev_int) ev_int)) ea_nil) (by exact rfl) T.n_int (by decide +kernel)) ev_int) ?_ nd rfl (.inl rfl))
      show Exs _ _ _ ⟨[some (.fr (D.int cell)), some (.fr (D.int many)), some (.ad 100), some (.fr (D.int zs0.2)), some (.fr (D.int ((0 : Int) + (zy0 : Int)))), some (.fr (D.int (((zs0.2 * (48271 : Int)) + ((((0 : Int) + (zy0 : Int)) + (1 : Int)) * (69621 : Int))) % (2147483647 : Int))))], [(100, .fl ((zs0.1).map D.int))]⟩ _
      generalize zg_mixed : (((zs0.2 * (48271 : Int)) + ((((0 : Int) + (zy0 : Int)) + (1 : Int)) * (69621 : Int))) % (2147483647 : Int)) = mixed
      show Exs _ _ _ ⟨[some (.fr (D.int cell)), some (.fr (D.int many)), some (.ad 100), some (.fr (D.int zs0.2)), some (.fr (D.int ((0 : Int) + (zy0 : Int)))), some (.fr (D.int mixed))], [(100, .fl ((zs0.1).map D.int))]⟩ _
      refine exs_cons (ex_set 5 (ev_bin (o_mod (by walk_at "sd")) (ev_callTy (ds := [D.int ((mixed * (16807 : Int)) + ((271 : Int) * (((0 : Int) + (zy0 : Int)) + (3 : Int))))]) c_int (ea_cons (ev_bin o_add (ev_bin (o_mul (by walk_at "mul")) (ev_var 5 rfl (.inl rfl) rfl) ev_int) (ev_bin (o_mul (by walk_at "mul")) ev_int (ev_bin o_add (ev_var 4 rfl (.inl rfl) rfl) ev_int))) ea_nil) (by exact rfl) T.n_int (by decide +kernel)) ev_int) ?_ nd rfl (.inl rfl))
      show Exs _ _ _ ⟨[some (.fr (D.int cell)), some (.fr (D.int many)), some (.ad 100), some (.fr (D.int zs0.2)), some (.fr (D.int ((0 : Int) + (zy0 : Int)))), some (.fr (D.int (((mixed * (16807 : Int)) + ((271 : Int) * (((0 : Int) + (zy0 : Int)) + (3 : Int)))) % (2147483629 : Int))))], [(100, .fl ((zs0.1).map D.int))]⟩ _
      generalize zg_mixed1 : (((mixed * (16807 : Int)) + ((271 : Int) * (((0 : Int) + (zy0 : Int)) + (3 : Int)))) % (2147483629 : Int)) = mixed1
      show Exs _ _ _ ⟨[some (.fr (D.int cell)), some (.fr (D.int many)), some (.ad 100), some (.fr (D.int zs0.2)), some (.fr (D.int ((0 : Int) + (zy0 : Int)))), some (.fr (D.int mixed1))], [(100, .fl ((zs0.1).map D.int))]⟩ _
      refine exs_one (ex_expr (ev_appendT (n := 100) (enc := D.int) (xs := zs0.1) (xs0 := zs0.1) (mixed1 % (1009 : Int)) rfl rfl rfl (by walk_at "sd") (ev_var 2 rfl (.inl rfl) rfl) (ev_bin (o_mod (by walk_at "sd")) (ev_callTy (ds := [D.int mixed1]) c_int (ea_cons (ev_var 5 rfl (.inl rfl) rfl) ea_nil) (by exact rfl) T.n_int (by decide +kernel)) ev_int)) ?_)
      have est : (m_law_row_l0 cell) zs0 zy0 = ((zs0.1 ++ [(mixed1 % (1009 : Int))]), zs0.2) := by subst zg_mixed1; subst zg_mixed; simp only [m_law_row_l0, not_true_eq_false, not_false_eq_true, ↓reduceIte, ↓if_neg zh1]
      show Le _ _ ∧ _
      try rw [est]
      exact ⟨⟨⟨.inr rfl, .inr rfl, .inr rfl, .inr rfl, .inl rfl, .inl rfl, trivial⟩, rfl⟩, (by simp; omega)⟩
  · intro zq0
    show Exs _ _ _ ⟨[some (.fr (D.int cell)), some (.fr (D.int many)), some (.ad 100), some (.fr (D.int (((List.range (many).toNat).foldl (m_law_row_l0 cell) (([] : List Int), rest)).2))), none, none], [(100, .fl ((((List.range (many).toNat).foldl (m_law_row_l0 cell) (([] : List Int), rest)).1).map D.int))]⟩ _
    refine exs_freezeT 100 (xs := ((List.range (many).toNat).foldl (m_law_row_l0 cell) (([] : List Int), rest)).1) (enc := D.int) (by exact rfl) ?_
    show Exs _ _ _ ⟨[some (.fr (D.int cell)), some (.fr (D.int many)), some (.fr ((eL D.int) (((List.range (many).toNat).foldl (m_law_row_l0 cell) (([] : List Int), rest)).1))), some (.fr (D.int (((List.range (many).toNat).foldl (m_law_row_l0 cell) (([] : List Int), rest)).2))), none, none], []⟩ _
    refine exs_one (ex_ret (ev_var 2 rfl (.inl rfl) rfl) ?_)
    have efin : m_law_row cell many = ((List.range (many).toNat).foldl (m_law_row_l0 cell) (([] : List Int), rest)).1 := by subst zg_rest; simp only [m_law_row, not_true_eq_false, not_false_eq_true, ↓reduceIte]
    rw [efin] at zk
    exact zk _
def m_law_numbers_l1 (zs1 : (List Int)) (zy1 : Int) : (List Int) :=
  (zs1 ++ [zy1])
def m_law_numbers_l0 (each : Int) (zs0 : (List Int)) (zy0 : Int) : (List Int) :=
  ((m_law_row zy0 each).foldl (m_law_numbers_l1) zs0)
def m_law_numbers_c2 (many : Int) (zs0 : (List Int)) : Bool := (decide ((zs0.length : Int) < many))
def m_law_numbers_w2 (many : Int) (zs0 : (List Int)) : (List Int) :=
  (zs0 ++ [(0 : Int)])
def m_law_numbers (script : List Int) (many : Int) : List Int :=
  let cells1 : List Int := (slcD script none (some (63 : Int)))
  let each1 : Int := ((1 : Int) + (many / (if (cells1.length : Int) > (1 : Int) then (cells1.length : Int) else (1 : Int))))
  (slcD (iterW (m_law_numbers_c2 many) (m_law_numbers_w2 many) ((many).toNat) (cells1.foldl (m_law_numbers_l0 each1) ([] : List Int))) none (some many))
theorem cut63_len (xs : List Int) : (slcD xs none (some (63 : Int))).length ≤ 63 := by
  unfold slcD
  rw [List.length_take, HT.sIx_none, show (63 : Int) = ((63 : Nat) : Int) from rfl, HT.sIx_nat]
  omega
theorem fold_app (xs s : List Int) : xs.foldl m_law_numbers_l1 s = s ++ xs := by
  induction xs generalizing s with
  | nil => simp
  | cons x r ih => rw [List.foldl_cons, ih]; unfold m_law_numbers_l1; simp
theorem fill_eq (many : Int) : ∀ (n : Nat) (s : List Int), (many - (s.length : Int)).toNat ≤ n → iterW (m_law_numbers_c2 many) (m_law_numbers_w2 many) n s = s ++ List.replicate (many - (s.length : Int)).toNat 0
  | 0, s, h => by
    have e : (many - (s.length : Int)).toNat = 0 := by omega
    rw [e]; simp [iterW]
  | n + 1, s, h => by
    unfold iterW
    by_cases hc : (s.length : Int) < many
    · have e : (many - (s.length : Int)).toNat = (many - ((s ++ [(0 : Int)]).length : Int)).toNat + 1 := by
        simp only [List.length_append, List.length_cons, List.length_nil]; omega
      rw [if_pos (by simpa [m_law_numbers_c2] using hc)]
      show iterW _ _ n (s ++ [(0 : Int)]) = _
      rw [fill_eq many n _ (by simp only [List.length_append, List.length_cons, List.length_nil] at e ⊢; omega), e, List.replicate_succ, List.append_assoc]
      rfl
    · have e : (many - (s.length : Int)).toNat = 0 := by omega
      rw [if_neg (by simpa [m_law_numbers_c2] using hc), e]; simp
theorem numbers_facts (script : List Int) (many : Int) (h0 : 0 ≤ many) : (m_law_numbers script many).length = many.toNat ∧ ∀ x ∈ m_law_numbers script many, 0 ≤ x ∧ x ≤ 1008 := by
  have key : ∀ (each : Int) (xs s : List Int), (∀ x ∈ s, 0 ≤ x ∧ x ≤ 1008) → ∀ x ∈ xs.foldl (m_law_numbers_l0 each) s, 0 ≤ x ∧ x ≤ 1008 := by
    intro each xs
    induction xs with
    | nil => intro s h; exact h
    | cons y r ih =>
      intro s h
      rw [List.foldl_cons]
      refine ih _ fun x hx => ?_
      unfold m_law_numbers_l0 at hx
      rw [fold_app] at hx
      rcases List.mem_append.mp hx with hx | hx
      · exact h x hx
      · exact mem_row _ _ x hx
  unfold m_law_numbers
  dsimp only
  generalize hS : (slcD script none (some (63 : Int))).foldl _ _ = S
  have hm : ∀ x ∈ S, 0 ≤ x ∧ x ≤ 1008 := by rw [← hS]; exact key _ _ _ (fun x hx => absurd hx (by simp))
  rw [fill_eq many _ S (by omega)]
  unfold slcD
  rw [HT.sIx_none, List.drop_zero]
  have hl : (S ++ List.replicate (many - (S.length : Int)).toNat (0 : Int)).length = S.length + (many - (S.length : Int)).toNat := by simp
  have e1 : HT.sIx (S ++ List.replicate (many - (S.length : Int)).toNat (0 : Int)).length (S ++ List.replicate (many - (S.length : Int)).toNat (0 : Int)).length (some many) = many.toNat := by
    obtain ⟨n, rfl⟩ := Int.eq_ofNat_of_zero_le h0
    rw [HT.sIx_nat, hl]
    omega
  rw [e1]
  refine ⟨by rw [List.length_take, hl]; omega, fun x hx => ?_⟩
  have hx := List.mem_of_mem_take hx
  rcases List.mem_append.mp hx with hx | hx
  · exact hm x hx
  · rw [(List.mem_replicate.mp hx).2]; omega
theorem getD_bound {xs : List Int} (h : ∀ x ∈ xs, 0 ≤ x ∧ x ≤ 1008) (i : Nat) : 0 ≤ xs.getD i default ∧ xs.getD i default ≤ 1008 := by
  rw [List.getD_eq_getElem?_getD]
  cases e : xs[i]? with
  | none => exact ⟨Int.le_refl _, by decide⟩
  | some v => exact h v (List.mem_of_getElem? e)
theorem sc_law_numbers : FnScope ["script", "many", "cells", "each", "numbers", "cell", "number"] ["script", "many"] (defScope s_law_numbers) := ⟨rfl, rfl, rfl, by decide +kernel, rfl, by decide +kernel, by decide +kernel⟩
def sp_law_numbers : SpN := fun zcs zL zKc => ∃ script : List Int, ∃ many : Int, zcs = [.fr ((eL D.int) script), .fr (D.int many)] ∧ zL = [] ∧ (script.length ≤ 63 ∧ 0 ≤ many ∧ many ≤ 1000) ∧ ∀ zL', zKc (.fr ((eL D.int) (m_law_numbers script many))) zL'
theorem ok_law_numbers (T : TX K mg) : FnOk P w K mg base CX0 2 T.a_law_numbers T.d_law_numbers ["script", "many"] (SpOf K mg sp_law_numbers) := by
  have O_law_row := ok_law_row (P := P) (w := w) (base := base) T
  refine T.F_law_numbers.okN sc_law_numbers (fun zcs zL zKc zh => by obtain ⟨script, many, rfl, _⟩ := zh; rfl) fun zcdv zA zout zst zH zE zB zcs zL zKc zhr zh => ?_
  obtain ⟨script, many, rfl, rfl, hpre, zk⟩ := zh
  have nd := sc_law_numbers.nd
  have hSL := sizeLine_eq
  show Exs _ _ _ ⟨[some (.fr ((eL D.int) script)), some (.fr (D.int many)), none, none, none, none, none], []⟩ _
  refine exs_cons (ex_set 2 (ev_sliceT (enc := D.int) (xs := script) (by exact rfl) (ev_var 0 rfl (.inl rfl) rfl) eo_none (eo_some ev_int)) ?_ nd rfl (.inl rfl))
  show Exs _ _ _ ⟨[some (.fr ((eL D.int) script)), some (.fr (D.int many)), some (.fr ((eL D.int) (slcD script none (some (63 : Int))))), none, none, none, none], []⟩ _
  generalize zg_cells : (slcD script none (some (63 : Int))) = cells
  show Exs _ _ _ ⟨[some (.fr ((eL D.int) script)), some (.fr (D.int many)), some (.fr ((eL D.int) cells)), none, none, none, none], []⟩ _
  have hcl : cells.length ≤ 63 := by rw [← zg_cells]; exact cut63_len script
  refine exs_cons (ex_set 3 (ev_bin o_add ev_int (ev_bin (o_div (by walk_at "sd") (by walk_at "sd")) (ev_var 1 rfl (.inl rfl) rfl) (ev_callB (ds := [D.int (1 : Int), D.int (cells.length : Int)]) (c_max2 rfl) (ea_cons ev_int (ea_cons (ev_len (ln_L (xs := cells) (enc := D.int) (by exact rfl)) (ev_var 2 rfl (.inl rfl) rfl) (by exact rfl) T.n_len) ea_nil)) (by exact rfl) T.n_max (by decide +kernel)))) ?_ nd rfl (.inl rfl))
  show Exs _ _ _ ⟨[some (.fr ((eL D.int) script)), some (.fr (D.int many)), some (.fr ((eL D.int) cells)), some (.fr (D.int ((1 : Int) + (many / (if (cells.length : Int) > (1 : Int) then (cells.length : Int) else (1 : Int)))))), none, none, none], []⟩ _
  generalize zg_each : ((1 : Int) + (many / (if (cells.length : Int) > (1 : Int) then (cells.length : Int) else (1 : Int)))) = each
  show Exs _ _ _ ⟨[some (.fr ((eL D.int) script)), some (.fr (D.int many)), some (.fr ((eL D.int) cells)), some (.fr (D.int each)), none, none, none], []⟩ _
  have heach : 1 ≤ each ∧ each ≤ 1001 := by rw [← zg_each]; split <;> (constructor <;> first | omega | (have := Int.ediv_le_self (cells.length : Int) hpre.2.1; have := Int.ediv_nonneg hpre.2.1 (show (0:Int) ≤ (cells.length : Int) by omega); omega))
  refine exs_cons (ex_set 4 (ev_lstN 100 (enc := D.int) ([] : List Int) ea_nil rfl (by simp only [List.length_cons, List.length_nil]; decide) (by simp [names]) (by decide)) ?_ nd rfl (.inl rfl))
  show Exs _ _ _ ⟨[some (.fr ((eL D.int) script)), some (.fr (D.int many)), some (.fr ((eL D.int) cells)), some (.fr (D.int each)), some (.ad 100), none, none], [(100, .fl ((([] : List Int)).map D.int))]⟩ _
  refine exs_cons (ex_forF (enc := D.int) (fun (zs0 : (List Int)) => (⟨[some (.fr ((eL D.int) script)), some (.fr (D.int many)), some (.fr ((eL D.int) cells)), some (.fr (D.int each)), some (.ad 100), none, none], [(100, .fl ((zs0).map D.int))]⟩ : Nz.S)) (m_law_numbers_l0 each) ([] : List Int) (fun (zi0 : Nat) (zs0 : (List Int)) => zs0.length ≤ 1001 * zi0) (src_listT (ev_var 2 rfl (.inl rfl) rfl)) ⟨⟨.inr rfl, .inr rfl, .inr rfl, .inr rfl, .inr rfl, .inl rfl, .inl rfl, trivial⟩, rfl⟩ (by simp) ?_ ?_ PassesOwn.never rfl)
  · intro zi0 zy0 zs0 zhy0 zq0
    skip
    have hi := (List.getElem?_eq_some_iff.mp zhy0).1
    have hrl := len_row zy0 each
    refine ⟨⟨[some (.fr ((eL D.int) script)), some (.fr (D.int many)), some (.fr ((eL D.int) cells)), some (.fr (D.int each)), some (.ad 100), some (.fr (D.int zy0)), none], [(100, .fl ((zs0).map D.int))]⟩, (eg_name 5 nd rfl (.inl rfl)), ?_⟩
    refine exs_one (ex_forF (enc := D.int) (fun (zs1 : (List Int)) => (⟨[some (.fr ((eL D.int) script)), some (.fr (D.int many)), some (.fr ((eL D.int) cells)), some (.fr (D.int each)), some (.ad 100), some (.fr (D.int zy0)), none], [(100, .fl ((zs1).map D.int))]⟩ : Nz.S)) (m_law_numbers_l1) zs0 (fun (zi1 : Nat) (zs1 : (List Int)) => zs1.length ≤ 1001 * zi0 + zi1) (src_listT (ev_call (ds := [D.int zy0, D.int each]) (ds' := []) (dvs := []) (dfs := []) O_law_row (zhr.mono (by decide)) T.m_law_row T.k_law_row T.b_law_row .nil (fun _ => .nil) (ea_cons (ev_var 5 rfl (.inl rfl) rfl) (ea_cons (ev_var 3 rfl (.inl rfl) rfl) ea_nil)) (fun _ zkk => ⟨zy0, each, rfl, rfl, (by walk_at "pre"), zkk⟩) (by exact rfl))) ⟨⟨.inr rfl, .inr rfl, .inr rfl, .inr rfl, .inr rfl, .inr rfl, .inl rfl, trivial⟩, rfl⟩ (by omega) ?_ ?_ PassesOwn.never rfl)
    · intro zi1 zy1 zs1 zhy1 zq1
      skip
      have hi1 := (List.getElem?_eq_some_iff.mp zhy1).1
      refine ⟨⟨[some (.fr ((eL D.int) script)), some (.fr (D.int many)), some (.fr ((eL D.int) cells)), some (.fr (D.int each)), some (.ad 100), some (.fr (D.int zy0)), some (.fr (D.int zy1))], [(100, .fl ((zs1).map D.int))]⟩, (eg_name 6 nd rfl (.inl rfl)), ?_⟩
      refine exs_one (ex_expr (ev_appendT (n := 100) (enc := D.int) (xs := zs1) (xs0 := zs1) zy1 rfl rfl rfl (by walk_at "sd") (ev_var 4 rfl (.inl rfl) rfl) (ev_var 6 rfl (.inl rfl) rfl)) ?_)
      have est : (m_law_numbers_l1) zs1 zy1 = (zs1 ++ [zy1]) := by simp only [m_law_numbers_l1, not_true_eq_false, not_false_eq_true, ↓reduceIte]
      show Le _ _ ∧ _
      try rw [est]
      exact ⟨⟨⟨.inr rfl, .inr rfl, .inr rfl, .inr rfl, .inr rfl, .inr rfl, .inl rfl, trivial⟩, rfl⟩, (by simp; omega)⟩
    · intro zq1
      have est : (m_law_numbers_l0 each) zs0 zy0 = ((m_law_row zy0 each).foldl (m_law_numbers_l1) zs0) := by simp only [m_law_numbers_l0, not_true_eq_false, not_false_eq_true, ↓reduceIte]
      show Le _ _ ∧ _
      try rw [est]
      exact ⟨⟨⟨.inr rfl, .inr rfl, .inr rfl, .inr rfl, .inr rfl, .inl rfl, .inl rfl, trivial⟩, rfl⟩, (by omega)⟩
  · intro zq0
    show Exs _ _ _ ⟨[some (.fr ((eL D.int) script)), some (.fr (D.int many)), some (.fr ((eL D.int) cells)), some (.fr (D.int each)), some (.ad 100), none, none], [(100, .fl (((cells.foldl (m_law_numbers_l0 each) ([] : List Int))).map D.int))]⟩ _
    refine exs_cons (ex_whileF (fun (zs0 : (List Int)) => (⟨[some (.fr ((eL D.int) script)), some (.fr (D.int many)), some (.fr ((eL D.int) cells)), some (.fr (D.int each)), some (.ad 100), none, none], [(100, .fl ((zs0).map D.int))]⟩ : Nz.S)) (m_law_numbers_c2 many) (m_law_numbers_w2 many) (cells.foldl (m_law_numbers_l0 each) ([] : List Int)) ((many).toNat) (fun (zs0 : (List Int)) => zs0.length ≤ 100000) (fun (zs0 : (List Int)) => (many - (zs0.length : Int)).toNat) ⟨⟨.inr rfl, .inr rfl, .inr rfl, .inr rfl, .inr rfl, .inl rfl, .inl rfl, trivial⟩, rfl⟩ (by omega) (by walk_at "sd") ?_ ?_ ?_ ?_ PassesOwn.never)
    · intro zs0 zq0 zhc0
      simp only [m_law_numbers_c2, decide_eq_true_eq] at zhc0
      simp only [m_law_numbers_w2, List.length_append, List.length_cons, List.length_nil]
      exact ⟨by omega, by omega⟩
    · intro zs0 zq0
      exact (et_cmp o_lt (ev_len (ln_L (xs := zs0) (enc := D.int) (by exact rfl)) (ev_var 4 rfl (.inl rfl) rfl) (by exact rfl) T.n_len) (ev_var 1 rfl (.inl rfl) rfl) (nomark _))
    · intro zs0 zq0 zhc0
      simp only [m_law_numbers_c2, decide_eq_true_eq] at zhc0
      show Exs _ _ _ ⟨[some (.fr ((eL D.int) script)), some (.fr (D.int many)), some (.fr ((eL D.int) cells)), some (.fr (D.int each)), some (.ad 100), none, none], [(100, .fl ((zs0).map D.int))]⟩ _
      refine exs_one (ex_expr (ev_appendT (n := 100) (enc := D.int) (xs := zs0) (xs0 := zs0) (0 : Int) rfl rfl rfl (by walk_at "sd") (ev_var 4 rfl (.inl rfl) rfl) ev_int) ?_)
      have est : (m_law_numbers_w2 many) zs0 = (zs0 ++ [(0 : Int)]) := by simp only [m_law_numbers_w2, ↓reduceIte]
      show Le _ _ ∧ _
      rw [est]
      exact ⟨⟨⟨.inr rfl, .inr rfl, .inr rfl, .inr rfl, .inr rfl, .inl rfl, .inl rfl, trivial⟩, rfl⟩, trivial⟩
    · intro zq0 zhc0
      show Exs _ _ _ ⟨[some (.fr ((eL D.int) script)), some (.fr (D.int many)), some (.fr ((eL D.int) cells)), some (.fr (D.int each)), some (.ad 100), none, none], [(100, .fl (((iterW (m_law_numbers_c2 many) (m_law_numbers_w2 many) ((many).toNat) (cells.foldl (m_law_numbers_l0 each) ([] : List Int)))).map D.int))]⟩ _
      refine exs_one (ex_ret (ev_sliceT (enc := D.int) (xs := (iterW (m_law_numbers_c2 many) (m_law_numbers_w2 many) ((many).toNat) (cells.foldl (m_law_numbers_l0 each) ([] : List Int)))) (by exact rfl) (ev_var 4 rfl (.inl rfl) rfl) eo_none (eo_some (ev_var 1 rfl (.inl rfl) rfl))) ?_)
      have efin : m_law_numbers script many = (slcD (iterW (m_law_numbers_c2 many) (m_law_numbers_w2 many) ((many).toNat) (cells.foldl (m_law_numbers_l0 each) ([] : List Int))) none (some many)) := by subst zg_each; subst zg_cells; simp only [m_law_numbers, not_true_eq_false, not_false_eq_true, ↓reduceIte]
      rw [efin] at zk
      exact zk _
def m_is_integer (value : Int) (low : Int) (high : Int) : Bool :=
  (true && ((!false) && ((decide (low ≤ value)) && (decide (value ≤ high)))))
theorem sc_is_integer : FnScope ["value", "low", "high"] ["value", "low", "high"] (defScope s_is_integer) := ⟨rfl, rfl, rfl, by decide +kernel, rfl, by decide +kernel, by decide +kernel⟩
def sp_is_integer : SpN := fun zcs zL zKc => ∃ value : Int, ∃ low : Int, ∃ high : Int, zcs = [.fr (D.int value), .fr (D.int low), .fr (D.int high)] ∧ zL = [] ∧ (True) ∧ ∀ zL', zKc (.fr (D.bl (m_is_integer value low high))) zL'
theorem ok_is_integer (T : TX K mg) : FnOk P w K mg base CX0 1 T.a_is_integer T.d_is_integer ["value", "low", "high"] (SpOf K mg sp_is_integer) := by
  refine T.F_is_integer.okN sc_is_integer (fun zcs zL zKc zh => by obtain ⟨value, low, high, rfl, _⟩ := zh; rfl) fun zcdv zA zout zst zH zE zB zcs zL zKc zhr zh => ?_
  obtain ⟨value, low, high, rfl, rfl, hpre, zk⟩ := zh
  have nd := sc_is_integer.nd
  have hSL := sizeLine_eq
  show Exs _ _ _ ⟨[some (.fr (D.int value)), some (.fr (D.int low)), some (.fr (D.int high))], []⟩ _
  refine exs_one (ex_ret (ev_andP Iff.rfl (ev_isi (T := "int") (b := true) (ev_var 0 rfl (.inl rfl) rfl) rfl (by decide) (by exact rfl) T.n_isinstance (by exact rfl) T.n_int (by decide +kernel)) (fun zhp => (ev_andP (bd_not Iff.rfl) (ev_not (ev_isi (T := "bool") (b := false) (ev_var 0 rfl (.inl rfl) rfl) rfl (by decide) (by exact rfl) T.n_isinstance (by exact rfl) T.n_bool (by decide +kernel))) (fun zhp => (ev_one (ev_chain bd_d o_le o_le (ev_var 1 rfl (.inl rfl) rfl) (ev_var 0 rfl (.inl rfl) rfl) (fun zhp => (ev_var 2 rfl (.inl rfl) rfl)))))))) ?_)
  have efin : m_is_integer value low high = (true && ((!false) && ((decide (low ≤ value)) && (decide (value ≤ high))))) := by simp only [m_is_integer, not_true_eq_false, not_false_eq_true, ↓reduceIte]
  rw [efin] at zk
  exact zk _
def m_is_name (value : Str) : Bool :=
  if ((¬ (true = true)) ∨ (¬ (((1 : Int) ≤ (value.length : Int)) ∧ ((value.length : Int) ≤ (12 : Int))))) then false else (((chs value).map (fun zc2 : Str => (inS zc2 (Str.ofString "abcdefghijklmnopqrstuvwxyz0123456789")))).all fun b => b)
theorem chs_len (z : Str) : (chs z).length = z.length := by unfold chs; rw [List.length_map, Array.length_toList]; rfl
theorem sc_is_name : FnScope ["value", "character"] ["value"] (defScope s_is_name) := ⟨rfl, rfl, rfl, by decide +kernel, rfl, by decide +kernel, by decide +kernel⟩
def sp_is_name : SpN := fun zcs zL zKc => ∃ value : Str, zcs = [.fr (D.str value)] ∧ zL = [] ∧ (value.length ≤ 1000) ∧ ∀ zL', zKc (.fr (D.bl (m_is_name value))) zL'
theorem ok_is_name (T : TX K mg) : FnOk P w K mg base CX0 1 T.a_is_name T.d_is_name ["value"] (SpOf K mg sp_is_name) := by
  refine T.F_is_name.okN sc_is_name (fun zcs zL zKc zh => by obtain ⟨value, rfl, _⟩ := zh; rfl) fun zcdv zA zout zst zH zE zB zcs zL zKc zhr zh => ?_
  obtain ⟨value, rfl, rfl, hpre, zk⟩ := zh
  have nd := sc_is_name.nd
  have hSL := sizeLine_eq
  have hch := chs_len value
  show Exs _ _ _ ⟨[some (.fr (D.str value)), none], []⟩ _
  refine exs_cons (ex_ifP (bd_or (bd_not Iff.rfl) (bd_not (bd_and bd_d bd_d))) (Ew.et (ew_orP (bd_not Iff.rfl) (et_not (et_val (ev_isi (T := "str") (b := true) (ev_var 0 rfl (.inl rfl) rfl) rfl (by decide) (by exact rfl) T.n_isinstance (by exact rfl) T.n_str (by decide +kernel)))) (fun zhp => (ew_or1 (et_not (et_chain bd_d o_le o_le ev_int (ev_len (.s (by walk_at "sd")) (ev_var 0 rfl (.inl rfl) rfl) (by exact rfl) T.n_len) (fun zhp => (ev_gi rfl T.c_LONGEST_NAME)))))))) (fun (zh1 : ((¬ (true = true)) ∨ (¬ (((1 : Int) ≤ (value.length : Int)) ∧ ((value.length : Int) ≤ (12 : Int)))))) => ?_) (fun (zh1 : ¬ ((¬ (true = true)) ∨ (¬ (((1 : Int) ≤ (value.length : Int)) ∧ ((value.length : Int) ≤ (12 : Int)))))) => ?_))
  · skip
    refine exs_one (ex_ret ev_bl ?_)
    have efin : m_is_name value = false := by simp only [m_is_name, not_true_eq_false, not_false_eq_true, ↓reduceIte, ↓if_pos zh1]
    rw [efin] at zk
    exact zk _
  · skip
    refine exs_nil ?_
    show Exs _ _ _ ⟨[some (.fr (D.str value)), none], []⟩ _
    refine exs_one (ex_ret (ev_callB (ds := [(eL D.bl) ((chs value).map (fun zc1 : Str => (inS zc1 (Str.ofString "abcdefghijklmnopqrstuvwxyz0123456789"))))]) (c_all (bs := ((chs value).map (fun zc1 : Str => (inS zc1 (Str.ofString "abcdefghijklmnopqrstuvwxyz0123456789"))))) rfl) (ea_cons (ev_lcM (enc2 := D.bl) 199 (fun zc1 : Str => (inS zc1 (Str.ofString "abcdefghijklmnopqrstuvwxyz0123456789"))) _ rfl nd (blkOk_by (N := ["value", "character"]) (sc := defScope s_is_name) (own := [(("character" : Str), 1)]) (by decide +kernel)) (src_str (ev_var 0 rfl (.inl rfl) rfl)) (by simp [names]) (by decide) (by walk_at "sd") (fun _ zc1 _ zhyzc1 _ _ _ _ _ => (eg_nameC 1 nd rfl (.inl rfl) (by decide) (.inr rfl))) (fun _ zc1 _ zhyzc1 _ _ _ _ _ => (ev_cmp o_inS (ev_var 1 rfl (.inl rfl) rfl) (ev_gs rfl T.c_NAME_CHARACTERS) (by rfl)))) ea_nil) (by exact rfl) T.n_all (by decide +kernel)) ?_)
    have efin : m_is_name value = (((chs value).map (fun zc1 : Str => (inS zc1 (Str.ofString "abcdefghijklmnopqrstuvwxyz0123456789")))).all fun b => b) := by simp only [m_is_name, not_true_eq_false, not_false_eq_true, ↓reduceIte, ↓if_neg zh1]
    rw [efin] at zk
    exact zk _
def m_is_kind (value : Str × Int × Int) : Bool :=
  if ((¬ (true = true)) ∨ (¬ ((3 : Int) = (3 : Int)))) then false else ((m_is_name value.1) && ((m_is_integer value.2.1 (1 : Int) (1000 : Int)) && (m_is_integer value.2.2 (1 : Int) (1000 : Int))))
theorem sc_is_kind : FnScope ["value", "name", "cost", "deadline"] ["value"] (defScope s_is_kind) := ⟨rfl, rfl, rfl, by decide +kernel, rfl, by decide +kernel, by decide +kernel⟩
def sp_is_kind : SpN := fun zcs zL zKc => ∃ value : Str × Int × Int, zcs = [.fr ((eT3 D.str D.int D.int) value)] ∧ zL = [] ∧ (value.1.length ≤ 1000) ∧ ∀ zL', zKc (.fr (D.bl (m_is_kind value))) zL'
theorem ok_is_kind (T : TX K mg) : FnOk P w K mg base CX0 2 T.a_is_kind T.d_is_kind ["value"] (SpOf K mg sp_is_kind) := by
  have O_is_integer := ok_is_integer (P := P) (w := w) (base := base) T
  have O_is_name := ok_is_name (P := P) (w := w) (base := base) T
  refine T.F_is_kind.okN sc_is_kind (fun zcs zL zKc zh => by obtain ⟨value, rfl, _⟩ := zh; rfl) fun zcdv zA zout zst zH zE zB zcs zL zKc zhr zh => ?_
  obtain ⟨value, rfl, rfl, hpre, zk⟩ := zh
  have nd := sc_is_kind.nd
  have hSL := sizeLine_eq
  show Exs _ _ _ ⟨[some (.fr ((eT3 D.str D.int D.int) value)), none, none, none], []⟩ _
  refine exs_cons (ex_ifP (bd_or (bd_not Iff.rfl) bd_n) (Ew.et (ew_orP (bd_not Iff.rfl) (et_not (et_val (ev_isi (T := "tuple") (b := true) (ev_var 0 rfl (.inl rfl) rfl) rfl (by decide) (by exact rfl) T.n_isinstance (by exact rfl) T.n_tuple (by decide +kernel)))) (fun zhp => (ew_or1 (et_cmp o_nei (ev_len .t (ev_var 0 rfl (.inl rfl) rfl) (by exact rfl) T.n_len) ev_int (nomark _)))))) (fun (zh1 : ((¬ (true = true)) ∨ (¬ ((3 : Int) = (3 : Int))))) => ?_) (fun (zh1 : ¬ ((¬ (true = true)) ∨ (¬ ((3 : Int) = (3 : Int))))) => ?_))
  · skip
    refine exs_one (ex_ret ev_bl ?_)
    have efin : m_is_kind value = false := by simp only [m_is_kind, not_true_eq_false, not_false_eq_true, ↓reduceIte, ↓if_pos zh1]
    rw [efin] at zk
    exact zk _
  · skip
    refine exs_nil ?_
    show Exs _ _ _ ⟨[some (.fr ((eT3 D.str D.int D.int) value)), none, none, none], []⟩ _
    refine exs_cons (ex_asg (ev_var 0 rfl (.inl rfl) rfl) (eg_tup rfl (egs_cons (eg_name 1 nd rfl (.inl rfl)) (egs_cons (eg_name 2 nd rfl (.inl rfl)) (egs_cons (eg_name 3 nd rfl (.inl rfl)) egs_nil)))) ?_)
    show Exs _ _ _ ⟨[some (.fr ((eT3 D.str D.int D.int) value)), some (.fr (D.str value.1)), some (.fr (D.int value.2.1)), some (.fr (D.int value.2.2))], []⟩ _
    refine exs_one (ex_ret (ev_andP Iff.rfl (ev_call (ds := [D.str value.1]) (ds' := []) (dvs := []) (dfs := []) O_is_name (zhr.mono (by decide)) T.m_is_name T.k_is_name T.b_is_name .nil (fun _ => .nil) (ea_cons (ev_var 1 rfl (.inl rfl) rfl) ea_nil) (fun _ zkk => ⟨value.1, rfl, rfl, (by walk_at "pre"), zkk⟩) (by exact rfl)) (fun zhp => (ev_andP Iff.rfl (ev_call (ds := [D.int value.2.1, D.int (1 : Int), D.int (1000 : Int)]) (ds' := []) (dvs := []) (dfs := []) O_is_integer (zhr.mono (by decide)) T.m_is_integer T.k_is_integer T.b_is_integer .nil (fun _ => .nil) (ea_cons (ev_var 2 rfl (.inl rfl) rfl) (ea_cons ev_int (ea_cons (ev_gi rfl T.c_MOST_UNITS) ea_nil))) (fun _ zkk => ⟨value.2.1, (1 : Int), (1000 : Int), rfl, rfl, trivial, zkk⟩) (by exact rfl)) (fun zhp => (ev_one (ev_call (ds := [D.int value.2.2, D.int (1 : Int), D.int (1000 : Int)]) (ds' := []) (dvs := []) (dfs := []) O_is_integer (zhr.mono (by decide)) T.m_is_integer T.k_is_integer T.b_is_integer .nil (fun _ => .nil) (ea_cons (ev_var 3 rfl (.inl rfl) rfl) (ea_cons ev_int (ea_cons (ev_gi rfl T.c_MOST_UNITS) ea_nil))) (fun _ zkk => ⟨value.2.2, (1 : Int), (1000 : Int), rfl, rfl, trivial, zkk⟩) (by exact rfl))))))) ?_)
    have efin : m_is_kind value = ((m_is_name value.1) && ((m_is_integer value.2.1 (1 : Int) (1000 : Int)) && (m_is_integer value.2.2 (1 : Int) (1000 : Int)))) := by simp only [m_is_kind, not_true_eq_false, not_false_eq_true, ↓reduceIte, ↓if_neg zh1]
    rw [efin] at zk
    exact zk _
def m_is_way (value : Str × Str × Int) (kind_names : List Str) : Bool :=
  if ((¬ (true = true)) ∨ (¬ ((3 : Int) = (3 : Int)))) then false else ((decide (value.1 ∈ kind_names)) && ((decide (value.2.1 ∈ kind_names)) && (m_is_integer value.2.2 (1 : Int) (1000 : Int))))
theorem sc_is_way : FnScope ["value", "kind_names", "source", "target", "distance"] ["value", "kind_names"] (defScope s_is_way) := ⟨rfl, rfl, rfl, by decide +kernel, rfl, by decide +kernel, by decide +kernel⟩
def sp_is_way : SpN := fun zcs zL zKc => ∃ value : Str × Str × Int, ∃ kind_names : List Str, zcs = [.fr ((eT3 D.str D.str D.int) value), .fr ((eL D.str) kind_names)] ∧ zL = [] ∧ (True) ∧ ∀ zL', zKc (.fr (D.bl (m_is_way value kind_names))) zL'
theorem ok_is_way (T : TX K mg) : FnOk P w K mg base CX0 2 T.a_is_way T.d_is_way ["value", "kind_names"] (SpOf K mg sp_is_way) := by
  have O_is_integer := ok_is_integer (P := P) (w := w) (base := base) T
  refine T.F_is_way.okN sc_is_way (fun zcs zL zKc zh => by obtain ⟨value, kind_names, rfl, _⟩ := zh; rfl) fun zcdv zA zout zst zH zE zB zcs zL zKc zhr zh => ?_
  obtain ⟨value, kind_names, rfl, rfl, hpre, zk⟩ := zh
  have nd := sc_is_way.nd
  have hSL := sizeLine_eq
  show Exs _ _ _ ⟨[some (.fr ((eT3 D.str D.str D.int) value)), some (.fr ((eL D.str) kind_names)), none, none, none], []⟩ _
  refine exs_cons (ex_ifP (bd_or (bd_not Iff.rfl) bd_n) (Ew.et (ew_orP (bd_not Iff.rfl) (et_not (et_val (ev_isi (T := "tuple") (b := true) (ev_var 0 rfl (.inl rfl) rfl) rfl (by decide) (by exact rfl) T.n_isinstance (by exact rfl) T.n_tuple (by decide +kernel)))) (fun zhp => (ew_or1 (et_cmp o_nei (ev_len .t (ev_var 0 rfl (.inl rfl) rfl) (by exact rfl) T.n_len) ev_int (nomark _)))))) (fun (zh1 : ((¬ (true = true)) ∨ (¬ ((3 : Int) = (3 : Int))))) => ?_) (fun (zh1 : ¬ ((¬ (true = true)) ∨ (¬ ((3 : Int) = (3 : Int))))) => ?_))
  · skip
    refine exs_one (ex_ret ev_bl ?_)
    have efin : m_is_way value kind_names = false := by simp only [m_is_way, not_true_eq_false, not_false_eq_true, ↓reduceIte, ↓if_pos zh1]
    rw [efin] at zk
    exact zk _
  · skip
    refine exs_nil ?_
    show Exs _ _ _ ⟨[some (.fr ((eT3 D.str D.str D.int) value)), some (.fr ((eL D.str) kind_names)), none, none, none], []⟩ _
    refine exs_cons (ex_asg (ev_var 0 rfl (.inl rfl) rfl) (eg_tup rfl (egs_cons (eg_name 2 nd rfl (.inl rfl)) (egs_cons (eg_name 3 nd rfl (.inl rfl)) (egs_cons (eg_name 4 nd rfl (.inl rfl)) egs_nil)))) ?_)
    show Exs _ _ _ ⟨[some (.fr ((eT3 D.str D.str D.int) value)), some (.fr ((eL D.str) kind_names)), some (.fr (D.str value.1)), some (.fr (D.str value.2.1)), some (.fr (D.int value.2.2))], []⟩ _
    refine exs_one (ex_ret (ev_andP bd_d (ev_cmp (o_inL (e := D.str) (x := value.1) (ys := kind_names) zhr.units ee_str) (ev_var 2 rfl (.inl rfl) rfl) (ev_var 1 rfl (.inl rfl) rfl) (by rfl)) (fun zhp => (ev_andP bd_d (ev_cmp (o_inL (e := D.str) (x := value.2.1) (ys := kind_names) zhr.units ee_str) (ev_var 3 rfl (.inl rfl) rfl) (ev_var 1 rfl (.inl rfl) rfl) (by rfl)) (fun zhp => (ev_one (ev_call (ds := [D.int value.2.2, D.int (1 : Int), D.int (1000 : Int)]) (ds' := []) (dvs := []) (dfs := []) O_is_integer (zhr.mono (by decide)) T.m_is_integer T.k_is_integer T.b_is_integer .nil (fun _ => .nil) (ea_cons (ev_var 4 rfl (.inl rfl) rfl) (ea_cons ev_int (ea_cons (ev_gi rfl T.c_MOST_UNITS) ea_nil))) (fun _ zkk => ⟨value.2.2, (1 : Int), (1000 : Int), rfl, rfl, trivial, zkk⟩) (by exact rfl))))))) ?_)
    have efin : m_is_way value kind_names = ((decide (value.1 ∈ kind_names)) && ((decide (value.2.1 ∈ kind_names)) && (m_is_integer value.2.2 (1 : Int) (1000 : Int)))) := by simp only [m_is_way, not_true_eq_false, not_false_eq_true, ↓reduceIte, ↓if_neg zh1]
    rw [efin] at zk
    exact zk _
def m_are_different (names_ : List Str) : Bool :=
  (decide (((cntS names_ names_.length : Nat) : Int) = (names_.length : Int)))
theorem sc_are_different : FnScope ["names"] ["names"] (defScope s_are_different) := ⟨rfl, rfl, rfl, by decide +kernel, rfl, by decide +kernel, by decide +kernel⟩
def sp_are_different : SpN := fun zcs zL zKc => ∃ names_ : List Str, zcs = [.fr ((eL D.str) names_)] ∧ zL = [] ∧ (names_.length ≤ 1000) ∧ ∀ zL', zKc (.fr (D.bl (m_are_different names_))) zL'
theorem ok_are_different (T : TX K mg) : FnOk P w K mg base CX0 1 T.a_are_different T.d_are_different ["names"] (SpOf K mg sp_are_different) := by
  refine T.F_are_different.okN sc_are_different (fun zcs zL zKc zh => by obtain ⟨names_, rfl, _⟩ := zh; rfl) fun zcdv zA zout zst zH zE zB zcs zL zKc zhr zh => ?_
  obtain ⟨names_, rfl, rfl, hpre, zk⟩ := zh
  have nd := sc_are_different.nd
  have hSL := sizeLine_eq
  show Exs _ _ _ ⟨[some (.fr ((eL D.str) names_))], []⟩ _
  refine exs_one (ex_ret (ev_cmp o_eqi (ev_lenSet (xs := names_) rfl (by exact rfl) T.n_len (by exact rfl) T.n_set (by walk_at "scan") (ev_var 0 rfl (.inl rfl) rfl)) (ev_len (ln_L (xs := names_) (enc := D.str) (by exact rfl)) (ev_var 0 rfl (.inl rfl) rfl) (by exact rfl) T.n_len) (nomark _)) ?_)
  have efin : m_are_different names_ = (decide (((cntS names_ names_.length : Nat) : Int) = (names_.length : Int))) := by simp only [m_are_different, not_true_eq_false, not_false_eq_true, ↓reduceIte]
  rw [efin] at zk
  exact zk _
def m_are_kinds (kinds : List (Str × Int × Int)) : Bool :=
  if (¬ (((1 : Int) ≤ (kinds.length : Int)) ∧ ((kinds.length : Int) ≤ (8 : Int)))) then false else (((kinds.map (fun zc4 : Str × Int × Int => (m_is_kind zc4))).all fun b => b) && (m_are_different (kinds.map (fun zc6 : Str × Int × Int => zc6.1))))
set_option hygiene false in
local macro_rules | `(tactic| walk_at "pre") => `(tactic| first | exact hpre.1 _ (List.mem_of_getElem? (by assumption)) | fail)
theorem sc_are_kinds : FnScope ["kinds", "kind"] ["kinds"] (defScope s_are_kinds) := ⟨rfl, rfl, rfl, by decide +kernel, rfl, by decide +kernel, by decide +kernel⟩
def sp_are_kinds : SpN := fun zcs zL zKc => ∃ kinds : List (Str × Int × Int), zcs = [.fr ((eL (eT3 D.str D.int D.int)) kinds)] ∧ zL = [] ∧ ((∀ k ∈ kinds, k.1.length ≤ 1000) ∧ kinds.length ≤ 1000) ∧ ∀ zL', zKc (.fr (D.bl (m_are_kinds kinds))) zL'
theorem ok_are_kinds (T : TX K mg) : FnOk P w K mg base CX0 3 T.a_are_kinds T.d_are_kinds ["kinds"] (SpOf K mg sp_are_kinds) := by
  have O_are_different := ok_are_different (P := P) (w := w) (base := base) T
  have O_is_kind := ok_is_kind (P := P) (w := w) (base := base) T
  refine T.F_are_kinds.okN sc_are_kinds (fun zcs zL zKc zh => by obtain ⟨kinds, rfl, _⟩ := zh; rfl) fun zcdv zA zout zst zH zE zB zcs zL zKc zhr zh => ?_
  obtain ⟨kinds, rfl, rfl, hpre, zk⟩ := zh
  have nd := sc_are_kinds.nd
  have hSL := sizeLine_eq
  show Exs _ _ _ ⟨[some (.fr ((eL (eT3 D.str D.int D.int)) kinds)), none], []⟩ _
  refine exs_cons (ex_ifP (bd_not (bd_and bd_d bd_d)) (et_not (et_chain bd_d o_le o_le ev_int (ev_len (ln_L (xs := kinds) (enc := (eT3 D.str D.int D.int)) (by exact rfl)) (ev_var 0 rfl (.inl rfl) rfl) (by exact rfl) T.n_len) (fun zhp => (ev_gi rfl T.c_MOST_KINDS)))) (fun (zh1 : (¬ (((1 : Int) ≤ (kinds.length : Int)) ∧ ((kinds.length : Int) ≤ (8 : Int))))) => ?_) (fun (zh1 : ¬ (¬ (((1 : Int) ≤ (kinds.length : Int)) ∧ ((kinds.length : Int) ≤ (8 : Int))))) => ?_))
  · skip
    refine exs_one (ex_ret ev_bl ?_)
    have efin : m_are_kinds kinds = false := by first | (simp only [m_are_kinds, not_true_eq_false, not_false_eq_true, ↓reduceIte, ↓if_pos zh1]; done) | (first | exact absurd rfl zh1)
    rw [efin] at zk
    exact zk _
  · skip
    refine exs_nil ?_
    show Exs _ _ _ ⟨[some (.fr ((eL (eT3 D.str D.int D.int)) kinds)), none], []⟩ _
    refine exs_one (ex_ret (ev_andP Iff.rfl (ev_callB (ds := [(eL D.bl) (kinds.map (fun zc1 : Str × Int × Int => (m_is_kind zc1)))]) (c_all (bs := (kinds.map (fun zc1 : Str × Int × Int => (m_is_kind zc1)))) rfl) (ea_cons (ev_lcM (enc2 := D.bl) 199 (fun zc1 : Str × Int × Int => (m_is_kind zc1)) _ rfl nd (blkOk_by (N := ["kinds", "kind"]) (sc := defScope s_are_kinds) (own := [(("kind" : Str), 1)]) (by decide +kernel)) (src_listT (ev_var 0 rfl (.inl rfl) rfl)) (by simp [names]) (by decide) (by walk_at "sd") (fun _ zc1 _ zhyzc1 _ _ _ _ _ => (eg_nameC 1 nd rfl (.inl rfl) (by decide) (.inr rfl))) (fun _ zc1 _ zhyzc1 _ _ _ _ _ => (ev_call (ds := [(eT3 D.str D.int D.int) zc1]) (ds' := []) (dvs := []) (dfs := []) O_is_kind (zhr.mono (by decide)) T.m_is_kind T.k_is_kind T.b_is_kind .nil (fun _ => .nil) (ea_cons (ev_var 1 rfl (.inl rfl) rfl) ea_nil) (fun _ zkk => ⟨zc1, rfl, rfl, (by walk_at "pre"), zkk⟩) (by exact rfl)))) ea_nil) (by exact rfl) T.n_all (by decide +kernel)) (fun zhp => (ev_one (ev_call (ds := [(eL D.str) (kinds.map (fun zc3 : Str × Int × Int => zc3.1))]) (ds' := []) (dvs := []) (dfs := []) O_are_different (zhr.mono (by decide)) T.m_are_different T.k_are_different T.b_are_different .nil (fun _ => .nil) (ea_cons (ev_lcM (enc2 := D.str) 199 (fun zc3 : Str × Int × Int => zc3.1) _ rfl nd (blkOk_by (N := ["kinds", "kind"]) (sc := defScope s_are_kinds) (own := [(("kind" : Str), 1)]) (by decide +kernel)) (src_listT (ev_var 0 rfl (.inl rfl) rfl)) (by simp [names]) (by decide) (by walk_at "sd") (fun _ zc3 _ zhyzc3 _ _ _ _ _ => (eg_nameC 1 nd rfl (.inl rfl) (by decide) (.inr rfl))) (fun _ zc3 _ zhyzc3 _ _ _ _ _ => (ev_ix (.t (d := D.str zc3.1) rfl) (ev_var 1 rfl (.inl rfl) rfl) ev_int))) ea_nil) (fun _ zkk => ⟨(kinds.map (fun zc3 : Str × Int × Int => zc3.1)), rfl, rfl, (by walk_at "pre"), zkk⟩) (by exact rfl))))) ?_)
    have efin : m_are_kinds kinds = (((kinds.map (fun zc1 : Str × Int × Int => (m_is_kind zc1))).all fun b => b) && (m_are_different (kinds.map (fun zc3 : Str × Int × Int => zc3.1)))) := by simp only [m_are_kinds, not_true_eq_false, not_false_eq_true, ↓reduceIte, ↓if_neg zh1]
    rw [efin] at zk
    exact zk _
def m_are_ways (ways : List (Str × Str × Int)) (kinds : List (Str × Int × Int)) : Bool :=
  if ((16 : Int) < (ways.length : Int)) then false else let kind_names1 : List Str := (kinds.map (fun zc3 : Str × Int × Int => zc3.1))
  ((ways.map (fun zc4 : Str × Str × Int => (m_is_way zc4 kind_names1))).all fun b => b)
theorem sc_are_ways : FnScope ["ways", "kinds", "kind_names", "kind", "way"] ["ways", "kinds"] (defScope s_are_ways) := ⟨rfl, rfl, rfl, by decide +kernel, rfl, by decide +kernel, by decide +kernel⟩
def sp_are_ways : SpN := fun zcs zL zKc => ∃ ways : List (Str × Str × Int), ∃ kinds : List (Str × Int × Int), zcs = [.fr ((eL (eT3 D.str D.str D.int)) ways), .fr ((eL (eT3 D.str D.int D.int)) kinds)] ∧ zL = [] ∧ (ways.length ≤ 1000 ∧ kinds.length ≤ 1000) ∧ ∀ zL', zKc (.fr (D.bl (m_are_ways ways kinds))) zL'
theorem ok_are_ways (T : TX K mg) : FnOk P w K mg base CX0 3 T.a_are_ways T.d_are_ways ["ways", "kinds"] (SpOf K mg sp_are_ways) := by
  have O_is_way := ok_is_way (P := P) (w := w) (base := base) T
  refine T.F_are_ways.okN sc_are_ways (fun zcs zL zKc zh => by obtain ⟨ways, kinds, rfl, _⟩ := zh; rfl) fun zcdv zA zout zst zH zE zB zcs zL zKc zhr zh => ?_
  obtain ⟨ways, kinds, rfl, rfl, hpre, zk⟩ := zh
  have nd := sc_are_ways.nd
  have hSL := sizeLine_eq
  show Exs _ _ _ ⟨[some (.fr ((eL (eT3 D.str D.str D.int)) ways)), some (.fr ((eL (eT3 D.str D.int D.int)) kinds)), none, none, none], []⟩ _
  refine exs_cons (ex_ifP bd_d (et_cmp o_gt (ev_len (ln_L (xs := ways) (enc := (eT3 D.str D.str D.int)) (by exact rfl)) (ev_var 0 rfl (.inl rfl) rfl) (by exact rfl) T.n_len) (ev_gi rfl T.c_MOST_WAYS) (nomark _)) (fun (zh1 : ((16 : Int) < (ways.length : Int))) => ?_) (fun (zh1 : ¬ ((16 : Int) < (ways.length : Int))) => ?_))
  · skip
    refine exs_one (ex_ret ev_bl ?_)
    have efin : m_are_ways ways kinds = false := by simp only [m_are_ways, not_true_eq_false, not_false_eq_true, ↓reduceIte, ↓if_pos zh1]
    rw [efin] at zk
    exact zk _
  · skip
    refine exs_nil ?_
    show Exs _ _ _ ⟨[some (.fr ((eL (eT3 D.str D.str D.int)) ways)), some (.fr ((eL (eT3 D.str D.int D.int)) kinds)), none, none, none], []⟩ _
    refine exs_cons (ex_set 2 (ev_lcM (enc2 := D.str) 199 (fun zc1 : Str × Int × Int => zc1.1) _ rfl nd (blkOk_by (N := ["ways", "kinds", "kind_names", "kind", "way"]) (sc := defScope s_are_ways) (own := [(("kind" : Str), 3)]) (by decide +kernel)) (src_listT (ev_var 1 rfl (.inl rfl) rfl)) (by simp [names]) (by decide) (by walk_at "sd") (fun _ zc1 _ zhyzc1 _ _ _ _ _ => (eg_nameC 3 nd rfl (.inl rfl) (by decide) (.inr rfl))) (fun _ zc1 _ zhyzc1 _ _ _ _ _ => (ev_ix (.t (d := D.str zc1.1) rfl) (ev_var 3 rfl (.inl rfl) rfl) ev_int))) ?_ nd rfl (.inr rfl))
    show Exs _ _ _ ⟨[some (.fr ((eL (eT3 D.str D.str D.int)) ways)), some (.fr ((eL (eT3 D.str D.int D.int)) kinds)), some (.fr ((eL D.str) (kinds.map (fun zc1 : Str × Int × Int => zc1.1)))), none, none], []⟩ _
    generalize zg_kind_names : (kinds.map (fun zc1 : Str × Int × Int => zc1.1)) = kind_names
    show Exs _ _ _ ⟨[some (.fr ((eL (eT3 D.str D.str D.int)) ways)), some (.fr ((eL (eT3 D.str D.int D.int)) kinds)), some (.fr ((eL D.str) kind_names)), none, none], []⟩ _
    refine exs_one (ex_ret (ev_callB (ds := [(eL D.bl) (ways.map (fun zc2 : Str × Str × Int => (m_is_way zc2 kind_names)))]) (c_all (bs := (ways.map (fun zc2 : Str × Str × Int => (m_is_way zc2 kind_names)))) rfl) (ea_cons (ev_lcM (enc2 := D.bl) 199 (fun zc2 : Str × Str × Int => (m_is_way zc2 kind_names)) _ rfl nd (blkOk_by (N := ["ways", "kinds", "kind_names", "kind", "way"]) (sc := defScope s_are_ways) (own := [(("way" : Str), 4)]) (by decide +kernel)) (src_listT (ev_var 0 rfl (.inl rfl) rfl)) (by simp [names]) (by decide) (by walk_at "sd") (fun _ zc2 _ zhyzc2 _ _ _ _ _ => (eg_nameC 4 nd rfl (.inl rfl) (by decide) (.inr rfl))) (fun _ zc2 _ zhyzc2 _ _ _ _ _ => (ev_call (ds := [(eT3 D.str D.str D.int) zc2, (eL D.str) kind_names]) (ds' := []) (dvs := []) (dfs := []) O_is_way (zhr.mono (by decide)) T.m_is_way T.k_is_way T.b_is_way .nil (fun _ => .nil) (ea_cons (ev_var 4 rfl (.inl rfl) rfl) (ea_cons (ev_var 2 rfl (.inr (.inl rfl)) rfl) ea_nil)) (fun _ zkk => ⟨zc2, kind_names, rfl, rfl, trivial, zkk⟩) (by exact rfl)))) ea_nil) (by exact rfl) T.n_all (by decide +kernel)) ?_)
    have efin : m_are_ways ways kinds = ((ways.map (fun zc2 : Str × Str × Int => (m_is_way zc2 kind_names))).all fun b => b) := by subst zg_kind_names; simp only [m_are_ways, not_true_eq_false, not_false_eq_true, ↓reduceIte, ↓if_neg zh1]
    rw [efin] at zk
    exact zk _
def m_Task_init__ (name : Str) (kinds : List (Str × Int × Int)) (ways : List (Str × Str × Int)) : Task :=
  if (¬ ((m_is_name name) = true)) then default else if (¬ ((m_are_kinds kinds) = true)) then default else if (¬ ((m_are_ways ways kinds) = true)) then default else ({ name := name, kinds := kinds, ways := ways } : Task)
set_option hygiene false in
local macro_rules | `(tactic| walk_at "pre") => `(tactic| first | exact hpre.1 | exact ⟨hpre.2.2.1, hpre.2.2.2.1⟩ | exact ⟨hpre.2.2.2.2.2.1, hpre.2.2.2.1⟩ | fail)
def Task.ok (t : Task) : Prop := m_are_kinds t.kinds = true ∧ m_are_ways t.ways t.kinds = true
theorem Task.ok.k1 {t : Task} (h : t.ok) : 1 ≤ t.kinds.length ∧ t.kinds.length ≤ 8 := by
  have q := h.1
  unfold m_are_kinds at q
  split at q
  · cases q
  · rename_i z; exact ⟨by have := Classical.not_not.mp z; omega, by have := Classical.not_not.mp z; omega⟩
theorem Task.ok.w1 {t : Task} (h : t.ok) : t.ways.length ≤ 16 := by
  have q := h.2
  unfold m_are_ways at q
  split at q
  · cases q
  · rename_i z; omega
theorem Task.ok.wn {t : Task} (h : t.ok) : ∀ w ∈ t.ways, w.1 ∈ t.kinds.map (·.1) ∧ w.2.1 ∈ t.kinds.map (·.1) := by
  have q := h.2
  unfold m_are_ways at q
  split at q
  · cases q
  · intro w hw
    have q1 := List.all_eq_true.mp q _ (List.mem_map.mpr ⟨w, hw, rfl⟩)
    unfold m_is_way at q1
    split at q1
    · cases q1
    · rw [Bool.and_eq_true, Bool.and_eq_true] at q1
      exact ⟨of_decide_eq_true q1.1, of_decide_eq_true q1.2.1⟩
theorem sc_Task_init__ : FnScope ["self", "name", "kinds", "ways"] ["self", "name", "kinds", "ways"] (defScope s_Task_init__) := ⟨rfl, rfl, rfl, by decide +kernel, rfl, by decide +kernel, by decide +kernel⟩
def sp_Task_init__ : SpN := fun zcs zL zKc => ∃ name : Str, ∃ kinds : List (Str × Int × Int), ∃ ways : List (Str × Str × Int), zcs = [.ad 0, .fr (D.str name), .fr ((eL (eT3 D.str D.int D.int)) kinds), .fr ((eL (eT3 D.str D.str D.int)) ways)] ∧ zL = [(0, .ins "Task" [])] ∧ (name.length ≤ 1000 ∧ m_is_name name = true ∧ (∀ k ∈ kinds, k.1.length ≤ 1000) ∧ kinds.length ≤ 1000 ∧ m_are_kinds kinds = true ∧ ways.length ≤ 1000 ∧ m_are_ways ways kinds = true) ∧ zKc (.fr .non) [(0, .ins "Task" ((fTask (m_Task_init__ name kinds ways)).map fun p => (p.1, Ce.fr p.2)))]
theorem ok_Task_init__ (T : TX K mg) : FnOk P w K mg base CX0 4 T.a_Task_init__ T.d_Task_init__ ["self", "name", "kinds", "ways"] (SpOf K mg sp_Task_init__) := by
  have O_are_kinds := ok_are_kinds (P := P) (w := w) (base := base) T
  have O_are_ways := ok_are_ways (P := P) (w := w) (base := base) T
  have O_is_name := ok_is_name (P := P) (w := w) (base := base) T
  refine T.F_Task_init__.okN sc_Task_init__ (fun zcs zL zKc zh => by obtain ⟨name, kinds, ways, rfl, _⟩ := zh; rfl) fun zcdv zA zout zst zH zE zB zcs zL zKc zhr zh => ?_
  obtain ⟨name, kinds, ways, rfl, rfl, hpre, zk⟩ := zh
  have nd := sc_Task_init__.nd
  have hSL := sizeLine_eq
  show Exs _ _ _ ⟨[some (.ad 0), some (.fr (D.str name)), some (.fr ((eL (eT3 D.str D.int D.int)) kinds)), some (.fr ((eL (eT3 D.str D.str D.int)) ways))], [(0, .ins "Task" [])]⟩ _
  refine exs_cons (ex_ifP (bd_not Iff.rfl) (et_not (et_val (ev_call (ds := [D.str name]) (ds' := []) (dvs := []) (dfs := []) O_is_name (zhr.mono (by decide)) T.m_is_name T.k_is_name T.b_is_name .nil (fun _ => .nil) (ea_cons (ev_var 1 rfl (.inl rfl) rfl) ea_nil) (fun _ zkk => ⟨name, rfl, rfl, (by walk_at "pre"), zkk⟩) (by exact rfl)))) (fun (zh1 : (¬ ((m_is_name name) = true))) => ?_) (fun (zh1 : ¬ (¬ ((m_is_name name) = true))) => ?_))
  · skip
    first | exact absurd hpre.2.1 zh1 | exact absurd hpre.2.2.2.2.1 zh2 | exact absurd hpre.2.2.2.2.2.2 zh3
  · skip
    refine exs_nil ?_
    show Exs _ _ _ ⟨[some (.ad 0), some (.fr (D.str name)), some (.fr ((eL (eT3 D.str D.int D.int)) kinds)), some (.fr ((eL (eT3 D.str D.str D.int)) ways))], [(0, .ins "Task" [])]⟩ _
    refine exs_cons (ex_ifP (bd_not Iff.rfl) (et_not (et_val (ev_call (ds := [(eL (eT3 D.str D.int D.int)) kinds]) (ds' := []) (dvs := []) (dfs := []) O_are_kinds (zhr.mono (by decide)) T.m_are_kinds T.k_are_kinds T.b_are_kinds .nil (fun _ => .nil) (ea_cons (ev_var 2 rfl (.inl rfl) rfl) ea_nil) (fun _ zkk => ⟨kinds, rfl, rfl, (by walk_at "pre"), zkk⟩) (by exact rfl)))) (fun (zh2 : (¬ ((m_are_kinds kinds) = true))) => ?_) (fun (zh2 : ¬ (¬ ((m_are_kinds kinds) = true))) => ?_))
    · skip
      first | exact absurd hpre.2.1 zh1 | exact absurd hpre.2.2.2.2.1 zh2 | exact absurd hpre.2.2.2.2.2.2 zh3
    · skip
      refine exs_nil ?_
      show Exs _ _ _ ⟨[some (.ad 0), some (.fr (D.str name)), some (.fr ((eL (eT3 D.str D.int D.int)) kinds)), some (.fr ((eL (eT3 D.str D.str D.int)) ways))], [(0, .ins "Task" [])]⟩ _
      refine exs_cons (ex_ifP (bd_not Iff.rfl) (et_not (et_val (ev_call (ds := [(eL (eT3 D.str D.str D.int)) ways, (eL (eT3 D.str D.int D.int)) kinds]) (ds' := []) (dvs := []) (dfs := []) O_are_ways (zhr.mono (by decide)) T.m_are_ways T.k_are_ways T.b_are_ways .nil (fun _ => .nil) (ea_cons (ev_var 3 rfl (.inl rfl) rfl) (ea_cons (ev_var 2 rfl (.inl rfl) rfl) ea_nil)) (fun _ zkk => ⟨ways, kinds, rfl, rfl, (by walk_at "pre"), zkk⟩) (by exact rfl)))) (fun (zh3 : (¬ ((m_are_ways ways kinds) = true))) => ?_) (fun (zh3 : ¬ (¬ ((m_are_ways ways kinds) = true))) => ?_))
      · skip
        first | exact absurd hpre.2.1 zh1 | exact absurd hpre.2.2.2.2.1 zh2 | exact absurd hpre.2.2.2.2.2.2 zh3
      · skip
        refine exs_nil ?_
        show Exs _ _ _ ⟨[some (.ad 0), some (.fr (D.str name)), some (.fr ((eL (eT3 D.str D.int D.int)) kinds)), some (.fr ((eL (eT3 D.str D.str D.int)) ways))], [(0, .ins "Task" [])]⟩ _
        refine exs_cons (ex_fld (c := "Task") (n := 0) (d := D.str name) T.q_Task T.cl_Task T.na_Task_name (ev_var 1 rfl (.inl rfl) rfl) (ev_var 0 rfl (.inl rfl) rfl) rfl (by first | decide | (simp only [List.length_cons, List.length_nil]; decide)) ?_)
        show Exs _ _ _ ⟨[some (.ad 0), some (.fr (D.str name)), some (.fr ((eL (eT3 D.str D.int D.int)) kinds)), some (.fr ((eL (eT3 D.str D.str D.int)) ways))], [(0, .ins "Task" [("name", (.fr (D.str name)))])]⟩ _
        refine exs_cons (ex_fld (c := "Task") (n := 0) (d := (eU (eT3 D.str D.int D.int)) kinds) T.q_Task T.cl_Task T.na_Task_kinds (ev_callTy (ds := [(eL (eT3 D.str D.int D.int)) kinds]) c_tuple (ea_cons (ev_var 2 rfl (.inl rfl) rfl) ea_nil) (by exact rfl) T.n_tuple (by decide +kernel)) (ev_var 0 rfl (.inl rfl) rfl) rfl (by first | decide | (simp only [List.length_cons, List.length_nil]; decide)) ?_)
        show Exs _ _ _ ⟨[some (.ad 0), some (.fr (D.str name)), some (.fr ((eL (eT3 D.str D.int D.int)) kinds)), some (.fr ((eL (eT3 D.str D.str D.int)) ways))], [(0, .ins "Task" [("name", (.fr (D.str name))), ("kinds", (.fr ((eU (eT3 D.str D.int D.int)) kinds)))])]⟩ _
        refine exs_one (ex_fld (c := "Task") (n := 0) (d := (eU (eT3 D.str D.str D.int)) ways) T.q_Task T.cl_Task T.na_Task_ways (ev_callTy (ds := [(eL (eT3 D.str D.str D.int)) ways]) c_tuple (ea_cons (ev_var 3 rfl (.inl rfl) rfl) ea_nil) (by exact rfl) T.n_tuple (by decide +kernel)) (ev_var 0 rfl (.inl rfl) rfl) rfl (by first | decide | (simp only [List.length_cons, List.length_nil]; decide)) ?_)
        have efin : m_Task_init__ name kinds ways = ({ name := name, kinds := kinds, ways := ways } : Task) := by simp only [m_Task_init__, not_true_eq_false, not_false_eq_true, ↓reduceIte, ↓if_neg zh1, ↓if_neg zh2, ↓if_neg zh3]
        rw [efin] at zk
        exact zk
def m_Task_kind_number_l0 (kind_name : Str) (zs0 : Unit) (zy0 : Int × (Str × Int × Int)) : Except Int (Unit) :=
  if (zy0.2.1 = kind_name) then .error zy0.1 else .ok ()
def m_Task_kind_number (self : Task) (kind_name : Str) : Int :=
  match (runE (m_Task_kind_number_l0 kind_name) (enL 0 self.kinds) ()) with | .error r => r | .ok zs0 => default
theorem enum_at {kn : Str} : ∀ {ks : List (Str × Int × Int)} {i : Nat}, kn ∈ ks.map (·.1) → ∃ j : Nat, runE (m_Task_kind_number_l0 kn) (enL i ks) () = .error ((i + j : Nat) : Int) ∧ j < ks.length ∧ (∃ c, ks[j]? = some c ∧ c.1 = kn) ∧ ∀ m, m < j → ∀ c, ks[m]? = some c → c.1 ≠ kn
  | [], i, h => absurd h (by simp)
  | k :: ks, i, h => by
    by_cases e : k.1 = kn
    · refine ⟨0, ?_, by simp, ⟨k, rfl, e⟩, fun m hm => absurd hm (by omega)⟩
      rw [show enL i (k :: ks) = ((i : Int), k) :: enL (i + 1) ks from rfl, runE_cons, show m_Task_kind_number_l0 kn () ((i : Int), k) = .error (i : Int) from by unfold m_Task_kind_number_l0; rw [if_pos e]]
      rfl
    · obtain ⟨j, h1, h2, h3, h4⟩ := enum_at (ks := ks) (i := i + 1) (by
        rcases List.mem_cons.mp (show kn ∈ k.1 :: ks.map (·.1) from h) with q | q
        · exact absurd q.symm e
        · exact q)
      refine ⟨j + 1, ?_, by simp; omega, h3, fun m hm c hc => ?_⟩
      · rw [show enL i (k :: ks) = ((i : Int), k) :: enL (i + 1) ks from rfl, runE_cons, show m_Task_kind_number_l0 kn () ((i : Int), k) = .ok () from by unfold m_Task_kind_number_l0; rw [if_neg e]]
        dsimp only
        rw [h1, show i + 1 + j = i + (j + 1) by omega]
      · cases m with
        | zero => cases hc; exact e
        | succ m => exact h4 m (by omega) c hc
theorem enum_found {kn : Str} {ks : List (Str × Int × Int)} {u : Unit} (h : kn ∈ ks.map (·.1)) (q : runE (m_Task_kind_number_l0 kn) (enL 0 ks) () = .ok u) : False := by
  obtain ⟨j, e, _⟩ := enum_at (i := 0) h
  rw [e] at q; cases q
theorem kind_number_spec {t : Task} {kn : Str} (h : kn ∈ t.kinds.map (·.1)) : ∃ j : Nat, m_Task_kind_number t kn = (j : Int) ∧ j < t.kinds.length ∧ (∃ c, t.kinds[j]? = some c ∧ c.1 = kn) ∧ ∀ m, m < j → ∀ c, t.kinds[m]? = some c → c.1 ≠ kn := by
  obtain ⟨j, e, r⟩ := enum_at (i := 0) h
  refine ⟨j, ?_, r⟩
  unfold m_Task_kind_number
  rw [e, Nat.zero_add]
theorem sc_Task_kind_number : FnScope ["self", "kind_name", "number", "kind"] ["self", "kind_name"] (defScope s_Task_kind_number) := ⟨rfl, rfl, rfl, by decide +kernel, rfl, by decide +kernel, by decide +kernel⟩
def sp_Task_kind_number : SpN := fun zcs zL zKc => ∃ self : Task, ∃ kind_name : Str, zcs = [.fr (eTask self), .fr (D.str kind_name)] ∧ zL = [] ∧ (self.ok ∧ kind_name ∈ self.kinds.map (·.1)) ∧ ∀ zL', zKc (.fr (D.int (m_Task_kind_number self kind_name))) zL'
theorem ok_Task_kind_number (T : TX K mg) : FnOk P w K mg base CX0 1 T.a_Task_kind_number T.d_Task_kind_number ["self", "kind_name"] (SpOf K mg sp_Task_kind_number) := by
  refine T.F_Task_kind_number.okN sc_Task_kind_number (fun zcs zL zKc zh => by obtain ⟨self, kind_name, rfl, _⟩ := zh; rfl) fun zcdv zA zout zst zH zE zB zcs zL zKc zhr zh => ?_
  obtain ⟨self, kind_name, rfl, rfl, hpre, zk⟩ := zh
  have nd := sc_Task_kind_number.nd
  have hSL := sizeLine_eq
  have hk1 := hpre.1.k1
  have hw1 := hpre.1.w1
  skip
  show Exs _ _ _ ⟨[some (.fr (eTask self)), some (.fr (D.str kind_name)), none, none], []⟩ _
  refine exs_cons (ex_forE (enc := (eT2 D.int (eT3 D.str D.int D.int))) (fun (zs0 : Unit) => (⟨[some (.fr (eTask self)), some (.fr (D.str kind_name)), none, none], []⟩ : Nz.S)) (m_Task_kind_number_l0 kind_name) () (fun (zi0 : Nat) (zs0 : Unit) => True) (fun r c S' => c = .fr (D.int r) ∧ True) (src_enumU (enc := (eT3 D.str D.int D.int)) (xs := self.kinds) (ea_cons (ev_fld (c := "Task") (fs := fTask self) T.q_Task T.cl_Task T.na_Task_kinds rfl (ev_var 0 rfl (.inl rfl) rfl)) ea_nil) (by exact rfl) T.n_enumerate) ⟨⟨.inr rfl, .inr rfl, .inl rfl, .inl rfl, trivial⟩, rfl⟩ trivial ?_ ?_ ?_ PassesOwn.never rfl)
  · intro zi0 zy0 zs0 zhy0 zrun0 zq0
    skip
    refine ⟨⟨[some (.fr (eTask self)), some (.fr (D.str kind_name)), some (.fr (D.int zy0.1)), some (.fr ((eT3 D.str D.int D.int) zy0.2))], []⟩, (eg_tup rfl (egs_cons (eg_name 2 nd rfl (.inl rfl)) (egs_cons (eg_name 3 nd rfl (.inl rfl)) egs_nil))), ?_⟩
    refine exs_one (ex_ifP bd_d (et_cmp o_eqs (ev_ix (.t (d := D.str zy0.2.1) rfl) (ev_var 3 rfl (.inl rfl) rfl) ev_int) (ev_var 1 rfl (.inl rfl) rfl) (nomark _)) (fun (zh1 : (zy0.2.1 = kind_name)) => ?_) (fun (zh1 : ¬ (zy0.2.1 = kind_name)) => ?_))
    · skip
      refine exs_one (ex_ret (ev_var 2 rfl (.inl rfl) rfl) ?_)
      have est : (m_Task_kind_number_l0 kind_name) zs0 zy0 = .error zy0.1 := by simp only [m_Task_kind_number_l0, not_true_eq_false, not_false_eq_true, ↓reduceIte, ↓if_pos zh1]
      exact ⟨_, est, rfl, trivial⟩
    · skip
      refine exs_nil ?_
      have est : (m_Task_kind_number_l0 kind_name) zs0 zy0 = .ok () := by simp only [m_Task_kind_number_l0, not_true_eq_false, not_false_eq_true, ↓reduceIte, ↓if_neg zh1]
      exact ⟨_, est, ⟨⟨.inr rfl, .inr rfl, .inl rfl, .inl rfl, trivial⟩, rfl⟩, trivial⟩
  · rintro zr zc zS zrun0 ⟨rfl, zhL⟩
    skip
    have zh2 := zrun0
    have efin : m_Task_kind_number self kind_name = zr := by simp only [m_Task_kind_number, not_true_eq_false, not_false_eq_true, ↓reduceIte, ↓zh2]
    rw [efin] at zk
    exact zk _
  · intro zs0 zrun0 zq0
    have zh3 := zrun0
    show Exs _ _ _ ⟨[some (.fr (eTask self)), some (.fr (D.str kind_name)), none, none], []⟩ _
    exfalso
    exact enum_found hpre.2 zrun0
def m_Task_kind (self : Task) (kind_name : Str) : Str × Int × Int :=
  (self.kinds.getD ((m_Task_kind_number self kind_name)).toNat default)
theorem sc_Task_kind : FnScope ["self", "kind_name"] ["self", "kind_name"] (defScope s_Task_kind) := ⟨rfl, rfl, rfl, by decide +kernel, rfl, by decide +kernel, by decide +kernel⟩
def sp_Task_kind : SpN := fun zcs zL zKc => ∃ self : Task, ∃ kind_name : Str, zcs = [.fr (eTask self), .fr (D.str kind_name)] ∧ zL = [] ∧ (self.ok ∧ kind_name ∈ self.kinds.map (·.1)) ∧ ∀ zL', zKc (.fr ((eT3 D.str D.int D.int) (m_Task_kind self kind_name))) zL'
theorem ok_Task_kind (T : TX K mg) : FnOk P w K mg base CX0 2 T.a_Task_kind T.d_Task_kind ["self", "kind_name"] (SpOf K mg sp_Task_kind) := by
  have O_Task_kind_number := ok_Task_kind_number (P := P) (w := w) (base := base) T
  refine T.F_Task_kind.okN sc_Task_kind (fun zcs zL zKc zh => by obtain ⟨self, kind_name, rfl, _⟩ := zh; rfl) fun zcdv zA zout zst zH zE zB zcs zL zKc zhr zh => ?_
  obtain ⟨self, kind_name, rfl, rfl, hpre, zk⟩ := zh
  have nd := sc_Task_kind.nd
  have hSL := sizeLine_eq
  obtain ⟨zj, zj1, zj2, zj3, zj4⟩ := kind_number_spec hpre.2
  show Exs _ _ _ ⟨[some (.fr (eTask self)), some (.fr (D.str kind_name))], []⟩ _
  refine exs_one (ex_ret (ev_ix (ix_U (enc := (eT3 D.str D.int D.int)) (by walk_at "sd") (by walk_at "sd")) (ev_fld (c := "Task") (fs := fTask self) T.q_Task T.cl_Task T.na_Task_kinds rfl (ev_var 0 rfl (.inl rfl) rfl)) (ev_meth (c := "Task") (fs := fTask self) (ds := [D.str kind_name]) T.q_Task T.cl_Task T.me_Task_kind_number rfl O_Task_kind_number (zhr.mono (by decide)) T.b_Task_kind_number (ev_var 0 rfl (.inl rfl) rfl) (ea_cons (ev_var 1 rfl (.inl rfl) rfl) ea_nil) (fun _ zkk => ⟨self, kind_name, rfl, rfl, (by walk_at "pre"), zkk⟩))) ?_)
  have efin : m_Task_kind self kind_name = (self.kinds.getD ((m_Task_kind_number self kind_name)).toNat default) := by simp only [m_Task_kind, not_true_eq_false, not_false_eq_true, ↓reduceIte]
  rw [efin] at zk
  exact zk _
def m_Task_ways_from (self : Task) (kind_name : Str) : List (Str × Int) :=
  let source1 : Str := (m_Task_kind self kind_name).1
  ((self.ways.filter (fun zc2 : Str × Str × Int => (decide (zc2.1 = source1)))).map (fun zc2 : Str × Str × Int => (zc2.2.1, zc2.2.2)))
theorem sc_Task_ways_from : FnScope ["self", "kind_name", "source", "way"] ["self", "kind_name"] (defScope s_Task_ways_from) := ⟨rfl, rfl, rfl, by decide +kernel, rfl, by decide +kernel, by decide +kernel⟩
def sp_Task_ways_from : SpN := fun zcs zL zKc => ∃ self : Task, ∃ kind_name : Str, zcs = [.fr (eTask self), .fr (D.str kind_name)] ∧ zL = [] ∧ (self.ok ∧ kind_name ∈ self.kinds.map (·.1)) ∧ ∀ zL', zKc (.fr ((eL (eT2 D.str D.int)) (m_Task_ways_from self kind_name))) zL'
theorem ok_Task_ways_from (T : TX K mg) : FnOk P w K mg base CX0 3 T.a_Task_ways_from T.d_Task_ways_from ["self", "kind_name"] (SpOf K mg sp_Task_ways_from) := by
  have O_Task_kind := ok_Task_kind (P := P) (w := w) (base := base) T
  refine T.F_Task_ways_from.okN sc_Task_ways_from (fun zcs zL zKc zh => by obtain ⟨self, kind_name, rfl, _⟩ := zh; rfl) fun zcdv zA zout zst zH zE zB zcs zL zKc zhr zh => ?_
  obtain ⟨self, kind_name, rfl, rfl, hpre, zk⟩ := zh
  have nd := sc_Task_ways_from.nd
  have hSL := sizeLine_eq
  have hk1 := hpre.1.k1
  have hw1 := hpre.1.w1
  show Exs _ _ _ ⟨[some (.fr (eTask self)), some (.fr (D.str kind_name)), none, none], []⟩ _
  refine exs_cons (ex_set 2 (ev_ix (.t (d := D.str ((m_Task_kind self kind_name).1)) rfl) (ev_meth (c := "Task") (fs := fTask self) (ds := [D.str kind_name]) T.q_Task T.cl_Task T.me_Task_kind rfl O_Task_kind (zhr.mono (by decide)) T.b_Task_kind (ev_var 0 rfl (.inl rfl) rfl) (ea_cons (ev_var 1 rfl (.inl rfl) rfl) ea_nil) (fun _ zkk => ⟨self, kind_name, rfl, rfl, (by walk_at "pre"), zkk⟩)) ev_int) ?_ nd rfl (.inr rfl))
  show Exs _ _ _ ⟨[some (.fr (eTask self)), some (.fr (D.str kind_name)), some (.fr (D.str ((m_Task_kind self kind_name).1))), none], []⟩ _
  generalize zg_source : (m_Task_kind self kind_name).1 = source
  show Exs _ _ _ ⟨[some (.fr (eTask self)), some (.fr (D.str kind_name)), some (.fr (D.str source)), none], []⟩ _
  refine exs_one (ex_ret (ev_lcF (enc2 := (eT2 D.str D.int)) 199 (fun zc1 : Str × Str × Int => (zc1.2.1, zc1.2.2)) (fun zc1 : Str × Str × Int => (decide (zc1.1 = source))) _ rfl nd (blkOk_by (N := ["self", "kind_name", "source", "way"]) (sc := defScope s_Task_ways_from) (own := [(("way" : Str), 3)]) (by decide +kernel)) (src_tupT (ev_fld (c := "Task") (fs := fTask self) T.q_Task T.cl_Task T.na_Task_ways rfl (ev_var 0 rfl (.inl rfl) rfl))) (by simp [names]) (by decide) (by walk_at "sd") (fun _ zc1 _ zhyzc1 _ _ _ _ _ => (eg_nameC 3 nd rfl (.inl rfl) (by decide) (.inr rfl))) (fun _ zc1 _ zhyzc1 _ _ _ _ _ => (et_cmp o_eqs (ev_ix (.t (d := D.str zc1.1) rfl) (ev_var 3 rfl (.inl rfl) rfl) ev_int) (ev_var 2 rfl (.inr (.inl rfl)) rfl) (nomark _))) (fun _ zc1 _ zhyzc1 zhpzc1 _ _ _ _ _ => (ev_tup (ds := [D.str zc1.2.1, D.int zc1.2.2]) (ea_cons (ev_ix (.t (d := D.str zc1.2.1) rfl) (ev_var 3 rfl (.inl rfl) rfl) ev_int) (ea_cons (ev_ix (.t (d := D.int zc1.2.2) rfl) (ev_var 3 rfl (.inl rfl) rfl) ev_int) ea_nil)) (by simp only [List.length_cons, List.length_nil]; decide)))) ?_)
  have efin : m_Task_ways_from self kind_name = ((self.ways.filter (fun zc1 : Str × Str × Int => (decide (zc1.1 = source)))).map (fun zc1 : Str × Str × Int => (zc1.2.1, zc1.2.2))) := by subst zg_source; simp only [m_Task_ways_from, not_true_eq_false, not_false_eq_true, ↓reduceIte]
  rw [efin] at zk
  exact zk _
def m_Task_cost (self : Task) (kind_name : Str) : Int :=
  (m_Task_kind self kind_name).2.1
theorem sc_Task_cost : FnScope ["self", "kind_name"] ["self", "kind_name"] (defScope s_Task_cost) := ⟨rfl, rfl, rfl, by decide +kernel, rfl, by decide +kernel, by decide +kernel⟩
def sp_Task_cost : SpN := fun zcs zL zKc => ∃ self : Task, ∃ kind_name : Str, zcs = [.fr (eTask self), .fr (D.str kind_name)] ∧ zL = [] ∧ (self.ok ∧ kind_name ∈ self.kinds.map (·.1)) ∧ ∀ zL', zKc (.fr (D.int (m_Task_cost self kind_name))) zL'
theorem ok_Task_cost (T : TX K mg) : FnOk P w K mg base CX0 3 T.a_Task_cost T.d_Task_cost ["self", "kind_name"] (SpOf K mg sp_Task_cost) := by
  have O_Task_kind := ok_Task_kind (P := P) (w := w) (base := base) T
  refine T.F_Task_cost.okN sc_Task_cost (fun zcs zL zKc zh => by obtain ⟨self, kind_name, rfl, _⟩ := zh; rfl) fun zcdv zA zout zst zH zE zB zcs zL zKc zhr zh => ?_
  obtain ⟨self, kind_name, rfl, rfl, hpre, zk⟩ := zh
  have nd := sc_Task_cost.nd
  have hSL := sizeLine_eq
  show Exs _ _ _ ⟨[some (.fr (eTask self)), some (.fr (D.str kind_name))], []⟩ _
  refine exs_one (ex_ret (ev_ix (.t (d := D.int ((m_Task_kind self kind_name).2.1)) rfl) (ev_meth (c := "Task") (fs := fTask self) (ds := [D.str kind_name]) T.q_Task T.cl_Task T.me_Task_kind rfl O_Task_kind (zhr.mono (by decide)) T.b_Task_kind (ev_var 0 rfl (.inl rfl) rfl) (ea_cons (ev_var 1 rfl (.inl rfl) rfl) ea_nil) (fun _ zkk => ⟨self, kind_name, rfl, rfl, (by walk_at "pre"), zkk⟩)) ev_int) ?_)
  have efin : m_Task_cost self kind_name = (m_Task_kind self kind_name).2.1 := by simp only [m_Task_cost, not_true_eq_false, not_false_eq_true, ↓reduceIte]
  rw [efin] at zk
  exact zk _
def m_Task_deadline (self : Task) (kind_name : Str) : Int :=
  (m_Task_kind self kind_name).2.2
theorem sc_Task_deadline : FnScope ["self", "kind_name"] ["self", "kind_name"] (defScope s_Task_deadline) := ⟨rfl, rfl, rfl, by decide +kernel, rfl, by decide +kernel, by decide +kernel⟩
def sp_Task_deadline : SpN := fun zcs zL zKc => ∃ self : Task, ∃ kind_name : Str, zcs = [.fr (eTask self), .fr (D.str kind_name)] ∧ zL = [] ∧ (self.ok ∧ kind_name ∈ self.kinds.map (·.1)) ∧ ∀ zL', zKc (.fr (D.int (m_Task_deadline self kind_name))) zL'
theorem ok_Task_deadline (T : TX K mg) : FnOk P w K mg base CX0 3 T.a_Task_deadline T.d_Task_deadline ["self", "kind_name"] (SpOf K mg sp_Task_deadline) := by
  have O_Task_kind := ok_Task_kind (P := P) (w := w) (base := base) T
  refine T.F_Task_deadline.okN sc_Task_deadline (fun zcs zL zKc zh => by obtain ⟨self, kind_name, rfl, _⟩ := zh; rfl) fun zcdv zA zout zst zH zE zB zcs zL zKc zhr zh => ?_
  obtain ⟨self, kind_name, rfl, rfl, hpre, zk⟩ := zh
  have nd := sc_Task_deadline.nd
  have hSL := sizeLine_eq
  show Exs _ _ _ ⟨[some (.fr (eTask self)), some (.fr (D.str kind_name))], []⟩ _
  refine exs_one (ex_ret (ev_ix (.t (d := D.int ((m_Task_kind self kind_name).2.2)) rfl) (ev_meth (c := "Task") (fs := fTask self) (ds := [D.str kind_name]) T.q_Task T.cl_Task T.me_Task_kind rfl O_Task_kind (zhr.mono (by decide)) T.b_Task_kind (ev_var 0 rfl (.inl rfl) rfl) (ea_cons (ev_var 1 rfl (.inl rfl) rfl) ea_nil) (fun _ zkk => ⟨self, kind_name, rfl, rfl, (by walk_at "pre"), zkk⟩)) ev_int) ?_)
  have efin : m_Task_deadline self kind_name = (m_Task_kind self kind_name).2.2 := by simp only [m_Task_deadline, not_true_eq_false, not_false_eq_true, ↓reduceIte]
  rw [efin] at zk
  exact zk _
def m_law_is_integer (actual : Int) : Bool :=
  (true && (!false))
theorem sc_law_is_integer : FnScope ["actual"] ["actual"] (defScope s_law_is_integer) := ⟨rfl, rfl, rfl, by decide +kernel, rfl, by decide +kernel, by decide +kernel⟩
def sp_law_is_integer : SpN := fun zcs zL zKc => ∃ actual : Int, zcs = [.fr (D.int actual)] ∧ zL = [] ∧ (True) ∧ ∀ zL', zKc (.fr (D.bl (m_law_is_integer actual))) zL'
theorem ok_law_is_integer (T : TX K mg) : FnOk P w K mg base CX0 1 T.a_law_is_integer T.d_law_is_integer ["actual"] (SpOf K mg sp_law_is_integer) := by
  refine T.F_law_is_integer.okN sc_law_is_integer (fun zcs zL zKc zh => by obtain ⟨actual, rfl, _⟩ := zh; rfl) fun zcdv zA zout zst zH zE zB zcs zL zKc zhr zh => ?_
  obtain ⟨actual, rfl, rfl, hpre, zk⟩ := zh
  have nd := sc_law_is_integer.nd
  have hSL := sizeLine_eq
  show Exs _ _ _ ⟨[some (.fr (D.int actual))], []⟩ _
  refine exs_one (ex_ret (ev_andP Iff.rfl (ev_isi (T := "int") (b := true) (ev_var 0 rfl (.inl rfl) rfl) rfl (by decide) (by exact rfl) T.n_isinstance (by exact rfl) T.n_int (by decide +kernel)) (fun zhp => (ev_one (ev_not (ev_isi (T := "bool") (b := false) (ev_var 0 rfl (.inl rfl) rfl) rfl (by decide) (by exact rfl) T.n_isinstance (by exact rfl) T.n_bool (by decide +kernel)))))) ?_)
  have efin : m_law_is_integer actual = (true && (!false)) := by simp only [m_law_is_integer, not_true_eq_false, not_false_eq_true, ↓reduceIte]
  rw [efin] at zk
  exact zk _
def m_law_pick (numbers : List Int) (at_ : Int) (count : Int) : Int :=
  ((numbers.getD (at_).toNat default) % count)
theorem pick_eq (numbers : List Int) (at_ count : Int) : m_law_pick numbers at_ count = numbers.getD at_.toNat default % count := rfl
theorem pick_bound (numbers : List Int) (at_ : Int) {count : Int} (h : 0 < count) : 0 ≤ m_law_pick numbers at_ count ∧ m_law_pick numbers at_ count < count := by
  rw [pick_eq]; exact ⟨Int.emod_nonneg _ (by omega), Int.emod_lt_of_pos _ h⟩

theorem sc_law_pick : FnScope ["numbers", "at", "count"] ["numbers", "at", "count"] (defScope s_law_pick) := ⟨rfl, rfl, rfl, by decide +kernel, rfl, by decide +kernel, by decide +kernel⟩
def sp_law_pick : SpN := fun zcs zL zKc => ∃ numbers : List Int, ∃ at_ : Int, ∃ count : Int, zcs = [.fr ((eL D.int) numbers), .fr (D.int at_), .fr (D.int count)] ∧ zL = [] ∧ (0 ≤ at_ ∧ at_ < numbers.length ∧ 0 < count ∧ count < 2 ^ 29) ∧ ∀ zL', zKc (.fr (D.int (m_law_pick numbers at_ count))) zL'
theorem ok_law_pick (T : TX K mg) : FnOk P w K mg base CX0 1 T.a_law_pick T.d_law_pick ["numbers", "at", "count"] (SpOf K mg sp_law_pick) := by
  refine T.F_law_pick.okN sc_law_pick (fun zcs zL zKc zh => by obtain ⟨numbers, at_, count, rfl, _⟩ := zh; rfl) fun zcdv zA zout zst zH zE zB zcs zL zKc zhr zh => ?_
  obtain ⟨numbers, at_, count, rfl, rfl, hpre, zk⟩ := zh
  have nd := sc_law_pick.nd
  have hSL := sizeLine_eq
  show Exs _ _ _ ⟨[some (.fr ((eL D.int) numbers)), some (.fr (D.int at_)), some (.fr (D.int count))], []⟩ _
  refine exs_one (ex_ret (ev_bin (o_mod (by walk_at "sd")) (ev_callTy (ds := [D.int (numbers.getD (at_).toNat default)]) c_int (ea_cons (ev_ix (ix_L (xs := numbers) (enc := D.int) (by exact rfl) (by walk_at "sd") (by walk_at "sd")) (ev_var 0 rfl (.inl rfl) rfl) (ev_var 1 rfl (.inl rfl) rfl)) ea_nil) (by exact rfl) T.n_int (by decide +kernel)) (ev_var 2 rfl (.inl rfl) rfl)) ?_)
  have efin : m_law_pick numbers at_ count = ((numbers.getD (at_).toNat default) % count) := by simp only [m_law_pick, not_true_eq_false, not_false_eq_true, ↓reduceIte]
  rw [efin] at zk
  exact zk _
def m_law_scale (numbers : List Int) : Int :=
  let last1 : Int := (numbers.getD (((numbers.length : Int) - (1 : Int))).toNat default)
  ([(1 : Int), (1 : Int), ((1 : Int) + ((last1 / (3 : Int)) % (249 : Int)))].getD ((last1 % (3 : Int))).toNat default)
theorem scale_bound {numbers : List Int} : 1 ≤ m_law_scale numbers ∧ m_law_scale numbers ≤ 249 := by
  unfold m_law_scale
  dsimp only
  generalize numbers.getD ((numbers.length : Int) - 1).toNat default = last
  have h : (last % 3).toNat = 0 ∨ (last % 3).toNat = 1 ∨ (last % 3).toNat = 2 := by omega
  rcases h with h | h | h <;> rw [h] <;> simp only [List.getD_cons_zero, List.getD_cons_succ] <;> omega

theorem sc_law_scale : FnScope ["numbers", "last"] ["numbers"] (defScope s_law_scale) := ⟨rfl, rfl, rfl, by decide +kernel, rfl, by decide +kernel, by decide +kernel⟩
def sp_law_scale : SpN := fun zcs zL zKc => ∃ numbers : List Int, zcs = [.fr ((eL D.int) numbers)] ∧ zL = [] ∧ (0 < numbers.length) ∧ ∀ zL', zKc (.fr (D.int (m_law_scale numbers))) zL'
theorem ok_law_scale (T : TX K mg) : FnOk P w K mg base CX0 1 T.a_law_scale T.d_law_scale ["numbers"] (SpOf K mg sp_law_scale) := by
  refine T.F_law_scale.okN sc_law_scale (fun zcs zL zKc zh => by obtain ⟨numbers, rfl, _⟩ := zh; rfl) fun zcdv zA zout zst zH zE zB zcs zL zKc zhr zh => ?_
  obtain ⟨numbers, rfl, rfl, hpre, zk⟩ := zh
  have nd := sc_law_scale.nd
  have hSL := sizeLine_eq
  show Exs _ _ _ ⟨[some (.fr ((eL D.int) numbers)), none], []⟩ _
  refine exs_cons (ex_set 1 (ev_callTy (ds := [D.int (numbers.getD (((numbers.length : Int) - (1 : Int))).toNat default)]) c_int (ea_cons (ev_ix (ix_L (xs := numbers) (enc := D.int) (by exact rfl) (by walk_at "sd") (by walk_at "sd")) (ev_var 0 rfl (.inl rfl) rfl) (ev_bin o_sub (ev_len (ln_L (xs := numbers) (enc := D.int) (by exact rfl)) (ev_var 0 rfl (.inl rfl) rfl) (by exact rfl) T.n_len) ev_int)) ea_nil) (by exact rfl) T.n_int (by decide +kernel)) ?_ nd rfl (.inl rfl))
  show Exs _ _ _ ⟨[some (.fr ((eL D.int) numbers)), some (.fr (D.int (numbers.getD (((numbers.length : Int) - (1 : Int))).toNat default)))], []⟩ _
  generalize zg_last : (numbers.getD (((numbers.length : Int) - (1 : Int))).toNat default) = last
  show Exs _ _ _ ⟨[some (.fr ((eL D.int) numbers)), some (.fr (D.int last))], []⟩ _
  refine exs_one (ex_ret (ev_ix (ix_L (xs := [(1 : Int), (1 : Int), ((1 : Int) + ((last / (3 : Int)) % (249 : Int)))]) (enc := D.int) (by exact rfl) (by walk_at "sd") (by walk_at "sd")) (ev_lstF (enc := D.int) [(1 : Int), (1 : Int), ((1 : Int) + ((last / (3 : Int)) % (249 : Int)))] (ea_cons ev_int (ea_cons ev_int (ea_cons (ev_bin o_add ev_int (ev_bin (o_mod (by walk_at "sd")) (ev_callTy (ds := [D.int (last / (3 : Int))]) c_int (ea_cons (ev_bin (o_div (by walk_at "sd") (by walk_at "sd")) (ev_var 1 rfl (.inl rfl) rfl) ev_int) ea_nil) (by exact rfl) T.n_int (by decide +kernel)) ev_int)) ea_nil))) rfl (by simp only [List.length_cons, List.length_nil]; decide)) (ev_bin (o_mod (by walk_at "sd")) (ev_callTy (ds := [D.int last]) c_int (ea_cons (ev_var 1 rfl (.inl rfl) rfl) ea_nil) (by exact rfl) T.n_int (by decide +kernel)) ev_int)) ?_)
  have efin : m_law_scale numbers = ([(1 : Int), (1 : Int), ((1 : Int) + ((last / (3 : Int)) % (249 : Int)))].getD ((last % (3 : Int))).toNat default) := by subst zg_last; simp only [m_law_scale, not_true_eq_false, not_false_eq_true, ↓reduceIte]
  rw [efin] at zk
  exact zk _
def m_law_name (numbers : List Int) (k_ : Int) : Str :=
  let chars1 : Str := (Str.ofString "abcdefghijklmnopqrstuvwxyz0123456789")
  let seed1 : Int := (numbers.getD (((numbers.length : Int) - (2 : Int))).toNat default)
  let word1 : Str := (Txt.join (Str.ofString "") ((List.range ((seed1 % (5 : Int))).toNat).map (fun zc2 : Nat => (chA chars1 ((((seed1 / (5 : Int)) + ((7 : Int) * ((0 : Int) + (zc2 : Int)))) + (seed1 * ((0 : Int) + (zc2 : Int)))) % (36 : Int))))))
  let cut1 : Int := ((numbers.getD (((numbers.length : Int) - (3 : Int))).toNat default) % ((word1.length : Int) + (1 : Int)))
  (((cutS word1 none (some cut1)) ++ (chA (Str.ofString "kq3zx9") k_)) ++ (cutS word1 (some cut1) none))
theorem str_len_append (a b : Str) : (a ++ b).length = a.length + b.length := by
  show (a.cps ++ b.cps).size = _
  rw [Array.size_append]; rfl
theorem fold_snoc {τ μ : Type} (g : μ → τ) (f : List τ → μ → List τ) (hf : ∀ s y, f s y = s ++ [g y]) : ∀ (ys : List μ) (s : List τ), ys.foldl f s = s ++ ys.map g
  | [], s => by simp
  | y :: ys, s => by rw [List.foldl_cons, fold_snoc g f hf ys, hf]; simp
theorem cs_append (a b : Str) : (a ++ b).cps.toList = a.cps.toList ++ b.cps.toList := by
  show (a.cps ++ b.cps).toList = _
  rw [Array.toList_append]
theorem joinL_nil : ∀ ps : List (List Nat), TL.joinL [] ps = ps.flatten
  | [] => rfl
  | [p] => by simp [TL.joinL]
  | p :: q :: r => by
    show p ++ ([] ++ TL.joinL [] (q :: r)) = _
    rw [joinL_nil (q :: r)]; simp
theorem cs_join0 (ys : List Str) : (Txt.join (Str.ofString "") ys).cps.toList = (ys.map fun y => y.cps.toList).flatten := by
  rw [TL.join_eq]
  have h := TL.tl_join (Str.ofString "") ys
  rw [show TL.tl (Str.ofString "") = [] by decide +kernel, joinL_nil] at h
  exact h
theorem join0_len (ys : List Str) (h : ∀ y ∈ ys, y.length = 1) : (Txt.join (Str.ofString "") ys).length = ys.length := by
  show (Txt.join (Str.ofString "") ys).cps.size = _
  rw [← Array.length_toList, cs_join0]
  induction ys with
  | nil => rfl
  | cons y r ih =>
    rw [List.map_cons, List.flatten_cons, List.length_append, ih fun z hz => h z (List.mem_cons_of_mem _ hz), List.length_cons]
    have : y.cps.toList.length = 1 := by rw [Array.length_toList]; exact h y List.mem_cons_self
    omega

theorem cut_len (z : Str) (a b : Option Int) : (cutS z a b).length ≤ z.length := by
  unfold cutS
  show (List.toArray _).size ≤ z.cps.size
  rw [List.size_toArray, List.length_take, List.length_drop, Array.length_toList]
  omega
theorem chA_len (z : Str) (i : Int) : (chA z i).length = 1 := rfl
theorem join_room (ys : List Str) (h1 : ys.length ≤ 100) (h : ∀ y ∈ ys, y.length = 1) : (ys.map (·.length)).sum + ys.length * (Str.ofString "").length ≤ 16777216 := by
  have : ∀ ys : List Str, (∀ y ∈ ys, y.length = 1) → (ys.map (·.length)).sum = ys.length := by
    intro ys
    induction ys with
    | nil => intro _; rfl
    | cons y r ih => intro h; rw [List.map_cons, List.sum_cons, ih fun z hz => h z (List.mem_cons_of_mem _ hz), h y List.mem_cons_self, List.length_cons]; omega
  rw [this ys h, show (Str.ofString "").length = 0 by decide +kernel]; omega
set_option hygiene false in
local macro_rules | `(tactic| walk_at "join") => `(tactic| first | (exact join_room _ (by rw [List.length_map, List.length_range]; omega) (fun y hy => by obtain ⟨i, _, rfl⟩ := List.mem_map.mp hy; rfl)) | fail)
set_option hygiene false in
local macro_rules | `(tactic| walk_at "sd") => `(tactic| first | (simp only [str_len_append, chA_len]; have h1 := cut_len word none (some cut); have h2 := cut_len word (some cut) none; omega) | fail)
theorem getD_mem {τ : Type} [Inhabited τ] {xs : List τ} {i : Nat} (h : i < xs.length) : xs.getD i default ∈ xs := by
  rw [List.getD_eq_getElem?_getD, List.getElem?_eq_getElem h]; exact List.getElem_mem h
theorem modi {τ : Type} {xs : List τ} (h : 0 < xs.length) (x : Int) : (x % (xs.length : Int)).toNat < xs.length := by
  have := Int.emod_lt_of_pos x (show (0 : Int) < (xs.length : Int) by omega)
  have := Int.emod_nonneg x (show (xs.length : Int) ≠ 0 by omega)
  omega
theorem init_eq {name : Str} {kinds : List (Str × Int × Int)} {ways : List (Str × Str × Int)} (h1 : m_is_name name = true) (h2 : m_are_kinds kinds = true) (h3 : m_are_ways ways kinds = true) : m_Task_init__ name kinds ways = { name := name, kinds := kinds, ways := ways } := by
  unfold m_Task_init__
  rw [if_neg (fun q => q h1), if_neg (fun q => q h2), if_neg (fun q => q h3)]
/-! names -/
def ALPH : Str := Str.ofString "abcdefghijklmnopqrstuvwxyz0123456789"
def Good (z : Str) : Prop := ∀ c ∈ z.cps.toList, ∃ i : Nat, i < 36 ∧ (⟨#[c]⟩ : Str) = chA ALPH (i : Int)
theorem good_app {a b : Str} (h1 : Good a) (h2 : Good b) : Good (a ++ b) := fun c hc => by
  rw [cs_append] at hc
  rcases List.mem_append.mp hc with q | q
  · exact h1 c q
  · exact h2 c q
theorem good_cut {z : Str} (h : Good z) (a b : Option Int) : Good (cutS z a b) := fun c hc => by
  unfold cutS at hc
  exact h c (List.mem_of_mem_drop (List.mem_of_mem_take (by simpa using hc)))
theorem good_ch (i : Int) (h0 : 0 ≤ i) (h1 : i < 36) : Good (chA ALPH i) := fun c hc => by
  have e : c = ALPH.cps.toList.getD i.toNat 0 := by unfold chA at hc; simpa using hc
  exact ⟨i.toNat, by omega, by rw [e, Int.toNat_of_nonneg h0]; rfl⟩
theorem good_join {ys : List Str} (h : ∀ y ∈ ys, Good y) : Good (Txt.join (Str.ofString "") ys) := fun c hc => by
  rw [cs_join0] at hc
  obtain ⟨l, hl, hcl⟩ := List.mem_flatten.mp hc
  obtain ⟨y, hy, rfl⟩ := List.mem_map.mp hl
  exact h y hy c hcl
theorem alph_in : ∀ i : Fin 36, inS (chA ALPH (i.val : Int)) ALPH = true := by decide +kernel
theorem alph_inj : ∀ i j : Fin 36, ALPH.cps.toList.getD i.val 0 = ALPH.cps.toList.getD j.val 0 → i = j := by decide +kernel
theorem good_name {z : Str} (h : Good z) (h1 : 1 ≤ z.length) (h2 : z.length ≤ 12) : m_is_name z = true := by
  unfold m_is_name
  rw [if_neg (by rintro (q | q); exact q rfl; exact q ⟨by omega, by omega⟩), List.all_eq_true]
  intro b hb
  obtain ⟨c, hc, rfl⟩ := List.mem_map.mp hb
  obtain ⟨n, hn, rfl⟩ := List.mem_map.mp hc
  obtain ⟨i, hi, e⟩ := h n hn
  rw [e]
  exact alph_in ⟨i, hi⟩
theorem cut_two (z : Str) (p : Int) (hp : 0 ≤ p) : (cutS z none (some p)).length + (cutS z (some p) none).length = z.length := by
  obtain ⟨n, rfl⟩ := Int.eq_ofNat_of_zero_le hp
  unfold cutS
  show (List.toArray _).size + (List.toArray _).size = z.cps.size
  rw [List.size_toArray, List.size_toArray, List.length_take, List.length_take, List.length_drop, List.length_drop, Array.length_toList, HT.sIx_none, HT.sIx_none, HT.sIx_nat, HT.sIx_nat]
  have : z.length = z.cps.size := rfl
  omega

theorem sc_law_name : FnScope ["numbers", "k", "chars", "seed", "word", "cut", "j"] ["numbers", "k"] (defScope s_law_name) := ⟨rfl, rfl, rfl, by decide +kernel, rfl, by decide +kernel, by decide +kernel⟩
def sp_law_name : SpN := fun zcs zL zKc => ∃ numbers : List Int, ∃ k_ : Int, zcs = [.fr ((eL D.int) numbers), .fr (D.int k_)] ∧ zL = [] ∧ (3 ≤ numbers.length ∧ (∀ x ∈ numbers, 0 ≤ x ∧ x ≤ 1008) ∧ 0 ≤ k_ ∧ k_ < 6) ∧ ∀ zL', zKc (.fr (D.str (m_law_name numbers k_))) zL'
theorem ok_law_name (T : TX K mg) : FnOk P w K mg base CX0 1 T.a_law_name T.d_law_name ["numbers", "k"] (SpOf K mg sp_law_name) := by
  refine T.F_law_name.okN sc_law_name (fun zcs zL zKc zh => by obtain ⟨numbers, k_, rfl, _⟩ := zh; rfl) fun zcdv zA zout zst zH zE zB zcs zL zKc zhr zh => ?_
  obtain ⟨numbers, k_, rfl, rfl, hpre, zk⟩ := zh
  have nd := sc_law_name.nd
  have hSL := sizeLine_eq
  have hkq : (Str.ofString "kq3zx9").length = 6 := by decide +kernel
  show Exs _ _ _ ⟨[some (.fr ((eL D.int) numbers)), some (.fr (D.int k_)), none, none, none, none, none], []⟩ _
  refine exs_cons (ex_set 2 ev_str ?_ nd rfl (.inr rfl))
  show Exs _ _ _ ⟨[some (.fr ((eL D.int) numbers)), some (.fr (D.int k_)), some (.fr (D.str (Str.ofString "abcdefghijklmnopqrstuvwxyz0123456789"))), none, none, none, none], []⟩ _
  generalize zg_chars : (Str.ofString "abcdefghijklmnopqrstuvwxyz0123456789") = chars
  show Exs _ _ _ ⟨[some (.fr ((eL D.int) numbers)), some (.fr (D.int k_)), some (.fr (D.str chars)), none, none, none, none], []⟩ _
  have hll : chars.length = 36 := by rw [← zg_chars]; decide +kernel
  refine exs_cons (ex_set 3 (ev_callTy (ds := [D.int (numbers.getD (((numbers.length : Int) - (2 : Int))).toNat default)]) c_int (ea_cons (ev_ix (ix_L (xs := numbers) (enc := D.int) (by exact rfl) (by walk_at "sd") (by walk_at "sd")) (ev_var 0 rfl (.inl rfl) rfl) (ev_bin o_sub (ev_len (ln_L (xs := numbers) (enc := D.int) (by exact rfl)) (ev_var 0 rfl (.inl rfl) rfl) (by exact rfl) T.n_len) ev_int)) ea_nil) (by exact rfl) T.n_int (by decide +kernel)) ?_ nd rfl (.inr rfl))
  show Exs _ _ _ ⟨[some (.fr ((eL D.int) numbers)), some (.fr (D.int k_)), some (.fr (D.str chars)), some (.fr (D.int (numbers.getD (((numbers.length : Int) - (2 : Int))).toNat default))), none, none, none], []⟩ _
  generalize zg_seed : (numbers.getD (((numbers.length : Int) - (2 : Int))).toNat default) = seed
  show Exs _ _ _ ⟨[some (.fr ((eL D.int) numbers)), some (.fr (D.int k_)), some (.fr (D.str chars)), some (.fr (D.int seed)), none, none, none], []⟩ _
  have hsb := getD_bound hpre.2.1 ((numbers.length : Int) - 2).toNat
  rw [zg_seed] at hsb
  refine exs_cons (ex_set 4 (ev_join (z := (Str.ofString "")) (ys := ((List.range ((seed % (5 : Int))).toNat).map (fun zc1 : Nat => (chA chars ((((seed / (5 : Int)) + ((7 : Int) * ((0 : Int) + (zc1 : Int)))) + (seed * ((0 : Int) + (zc1 : Int)))) % (36 : Int)))))) ev_str (ev_lcM (enc2 := D.str) 199 (fun zc1 : Nat => (chA chars ((((seed / (5 : Int)) + ((7 : Int) * ((0 : Int) + (zc1 : Int)))) + (seed * ((0 : Int) + (zc1 : Int)))) % (36 : Int)))) _ rfl nd (blkOk_by (N := ["numbers", "k", "chars", "seed", "word", "cut", "j"]) (sc := defScope s_law_name) (own := [(("j" : Str), 6)]) (by decide +kernel)) (src_range1 (ea_cons (ev_bin (o_mod (by walk_at "sd")) (ev_callTy (ds := [D.int seed]) c_int (ea_cons (ev_var 3 rfl (.inr (.inl rfl)) rfl) ea_nil) (by exact rfl) T.n_int (by decide +kernel)) ev_int) ea_nil) (by exact rfl) T.n_range (by walk_at "sd") (by walk_at "sd")) (by simp [names]) (by decide) (by walk_at "sd") (fun _ zc1 _ zhyzc1 _ _ _ _ _ => (eg_nameC 6 nd rfl (.inl rfl) (by decide) (.inr rfl))) (fun _ zc1 _ zhyzc1 _ _ _ _ _ => (ev_ixS (ev_var 2 rfl (.inr (.inl rfl)) rfl) (ev_bin (o_mod (by walk_at "sd")) (ev_callTy (ds := [D.int (((seed / (5 : Int)) + ((7 : Int) * ((0 : Int) + (zc1 : Int)))) + (seed * ((0 : Int) + (zc1 : Int))))]) c_int (ea_cons (ev_bin o_add (ev_bin o_add (ev_bin (o_div (by walk_at "sd") (by walk_at "sd")) (ev_var 3 rfl (.inr (.inl rfl)) rfl) ev_int) (ev_bin (o_mul (by walk_at "mul")) ev_int (ev_var 6 rfl (.inl rfl) rfl))) (ev_bin (o_mul (by walk_at "mul")) (ev_var 3 rfl (.inr (.inl rfl)) rfl) (ev_var 6 rfl (.inl rfl) rfl))) ea_nil) (by exact rfl) T.n_int (by decide +kernel)) ev_int) (by walk_at "sd") (by walk_at "sd") (by walk_at "sd")))) (by walk_at "join")) ?_ nd rfl (.inl rfl))
  show Exs _ _ _ ⟨[some (.fr ((eL D.int) numbers)), some (.fr (D.int k_)), some (.fr (D.str chars)), some (.fr (D.int seed)), some (.fr (D.str (Txt.join (Str.ofString "") ((List.range ((seed % (5 : Int))).toNat).map (fun zc1 : Nat => (chA chars ((((seed / (5 : Int)) + ((7 : Int) * ((0 : Int) + (zc1 : Int)))) + (seed * ((0 : Int) + (zc1 : Int)))) % (36 : Int)))))))), none, none], []⟩ _
  generalize zg_word : (Txt.join (Str.ofString "") ((List.range ((seed % (5 : Int))).toNat).map (fun zc1 : Nat => (chA chars ((((seed / (5 : Int)) + ((7 : Int) * ((0 : Int) + (zc1 : Int)))) + (seed * ((0 : Int) + (zc1 : Int)))) % (36 : Int)))))) = word
  show Exs _ _ _ ⟨[some (.fr ((eL D.int) numbers)), some (.fr (D.int k_)), some (.fr (D.str chars)), some (.fr (D.int seed)), some (.fr (D.str word)), none, none], []⟩ _
  have hrl : word.length ≤ 4 := by rw [← zg_word, join0_len, List.length_map, List.length_range]; omega; intro y hy; obtain ⟨i, _, rfl⟩ := List.mem_map.mp hy; rfl
  refine exs_cons (ex_set 5 (ev_bin (o_mod (by walk_at "sd")) (ev_callTy (ds := [D.int (numbers.getD (((numbers.length : Int) - (3 : Int))).toNat default)]) c_int (ea_cons (ev_ix (ix_L (xs := numbers) (enc := D.int) (by exact rfl) (by walk_at "sd") (by walk_at "sd")) (ev_var 0 rfl (.inl rfl) rfl) (ev_bin o_sub (ev_len (ln_L (xs := numbers) (enc := D.int) (by exact rfl)) (ev_var 0 rfl (.inl rfl) rfl) (by exact rfl) T.n_len) ev_int)) ea_nil) (by exact rfl) T.n_int (by decide +kernel)) (ev_bin o_add (ev_len (.s (by walk_at "sd")) (ev_var 4 rfl (.inl rfl) rfl) (by exact rfl) T.n_len) ev_int)) ?_ nd rfl (.inl rfl))
  show Exs _ _ _ ⟨[some (.fr ((eL D.int) numbers)), some (.fr (D.int k_)), some (.fr (D.str chars)), some (.fr (D.int seed)), some (.fr (D.str word)), some (.fr (D.int ((numbers.getD (((numbers.length : Int) - (3 : Int))).toNat default) % ((word.length : Int) + (1 : Int))))), none], []⟩ _
  generalize zg_cut : ((numbers.getD (((numbers.length : Int) - (3 : Int))).toNat default) % ((word.length : Int) + (1 : Int))) = cut
  show Exs _ _ _ ⟨[some (.fr ((eL D.int) numbers)), some (.fr (D.int k_)), some (.fr (D.str chars)), some (.fr (D.int seed)), some (.fr (D.str word)), some (.fr (D.int cut)), none], []⟩ _
  refine exs_one (ex_ret (ev_bin (o_adds (by walk_at "sd")) (ev_bin (o_adds (by walk_at "sd")) (ev_sliceS (ev_var 4 rfl (.inl rfl) rfl) eo_none (eo_some (ev_var 5 rfl (.inl rfl) rfl)) (by walk_at "sd")) (ev_ixS ev_str (ev_var 1 rfl (.inl rfl) rfl) (by walk_at "sd") (by walk_at "sd") (by walk_at "sd"))) (ev_sliceS (ev_var 4 rfl (.inl rfl) rfl) (eo_some (ev_var 5 rfl (.inl rfl) rfl)) eo_none (by walk_at "sd"))) ?_)
  have efin : m_law_name numbers k_ = (((cutS word none (some cut)) ++ (chA (Str.ofString "kq3zx9") k_)) ++ (cutS word (some cut) none)) := by subst zg_cut; subst zg_word; subst zg_seed; subst zg_chars; simp only [m_law_name, not_true_eq_false, not_false_eq_true, ↓reduceIte]
  rw [efin] at zk
  exact zk _
def m_law_kinds_l0 (numbers : List Int) (at_ : Int) (zs0 : (List (Str × Int × Int))) (zy0 : Nat) : (List (Str × Int × Int)) :=
  let cost : Int := ((m_law_scale numbers) * ((1 : Int) + (m_law_pick numbers ((at_ + (1 : Int)) + ((2 : Int) * ((0 : Int) + (zy0 : Int)))) (4 : Int))))
  (zs0 ++ [((m_law_name numbers ((0 : Int) + (zy0 : Int))), cost, ((1 : Int) + (m_law_pick numbers ((at_ + (2 : Int)) + ((2 : Int) * ((0 : Int) + (zy0 : Int)))) (9 : Int))))])
def m_law_kinds (numbers : List Int) (at_ : Int) (most : Int) : List (Str × Int × Int) :=
  ((List.range (((1 : Int) + (m_law_pick numbers at_ most))).toNat).foldl (m_law_kinds_l0 numbers at_) ([] : List (Str × Int × Int)))
set_option hygiene false in
local macro_rules | `(tactic| walk_at "pre") => `(tactic| first | exact ⟨by omega, hpre.2.2.1, by omega, by omega⟩ | fail)
theorem sc_law_kinds : FnScope ["numbers", "at", "most", "kinds", "k", "cost"] ["numbers", "at", "most"] (defScope s_law_kinds) := ⟨rfl, rfl, rfl, by decide +kernel, rfl, by decide +kernel, by decide +kernel⟩
def sp_law_kinds : SpN := fun zcs zL zKc => ∃ numbers : List Int, ∃ at_ : Int, ∃ most : Int, zcs = [.fr ((eL D.int) numbers), .fr (D.int at_), .fr (D.int most)] ∧ zL = [] ∧ (0 ≤ at_ ∧ at_ + 1 + 2 * most ≤ numbers.length ∧ (∀ x ∈ numbers, 0 ≤ x ∧ x ≤ 1008) ∧ 1 ≤ most ∧ most ≤ 6 ∧ 3 ≤ numbers.length) ∧ ∀ zL', zKc (.fr ((eL (eT3 D.str D.int D.int)) (m_law_kinds numbers at_ most))) zL'
theorem ok_law_kinds (T : TX K mg) : FnOk P w K mg base CX0 2 T.a_law_kinds T.d_law_kinds ["numbers", "at", "most"] (SpOf K mg sp_law_kinds) := by
  have O_law_name := ok_law_name (P := P) (w := w) (base := base) T
  have O_law_pick := ok_law_pick (P := P) (w := w) (base := base) T
  have O_law_scale := ok_law_scale (P := P) (w := w) (base := base) T
  refine T.F_law_kinds.okN sc_law_kinds (fun zcs zL zKc zh => by obtain ⟨numbers, at_, most, rfl, _⟩ := zh; rfl) fun zcdv zA zout zst zH zE zB zcs zL zKc zhr zh => ?_
  obtain ⟨numbers, at_, most, rfl, rfl, hpre, zk⟩ := zh
  have nd := sc_law_kinds.nd
  have hSL := sizeLine_eq
  have hpb := pick_bound numbers at_ (count := most) (by omega)
  have hsb := scale_bound (numbers := numbers)
  show Exs _ _ _ ⟨[some (.fr ((eL D.int) numbers)), some (.fr (D.int at_)), some (.fr (D.int most)), none, none, none], []⟩ _
  refine exs_cons (ex_set 3 (ev_lstN 100 (enc := (eT3 D.str D.int D.int)) ([] : List (Str × Int × Int)) ea_nil rfl (by simp only [List.length_cons, List.length_nil]; decide) (by simp [names]) (by decide)) ?_ nd rfl (.inl rfl))
  show Exs _ _ _ ⟨[some (.fr ((eL D.int) numbers)), some (.fr (D.int at_)), some (.fr (D.int most)), some (.ad 100), none, none], [(100, .fl ((([] : List (Str × Int × Int))).map (eT3 D.str D.int D.int)))]⟩ _
  refine exs_cons (ex_forF (enc := (fun i : Nat => D.int ((0 : Int) + (i : Int)))) (fun (zs0 : (List (Str × Int × Int))) => (⟨[some (.fr ((eL D.int) numbers)), some (.fr (D.int at_)), some (.fr (D.int most)), some (.ad 100), none, none], [(100, .fl ((zs0).map (eT3 D.str D.int D.int)))]⟩ : Nz.S)) (m_law_kinds_l0 numbers at_) ([] : List (Str × Int × Int)) (fun (zi0 : Nat) (zs0 : (List (Str × Int × Int))) => zs0.length = zi0) (src_range1 (ea_cons (ev_bin o_add ev_int (ev_call (ds := [(eL D.int) numbers, D.int at_, D.int most]) (ds' := []) (dvs := []) (dfs := []) O_law_pick (zhr.mono (by decide)) T.m_law_pick T.k_law_pick T.b_law_pick .nil (fun _ => .nil) (ea_cons (ev_var 0 rfl (.inl rfl) rfl) (ea_cons (ev_var 1 rfl (.inl rfl) rfl) (ea_cons (ev_var 2 rfl (.inl rfl) rfl) ea_nil))) (fun _ zkk => ⟨numbers, at_, most, rfl, rfl, (by walk_at "pre"), zkk⟩) (by exact rfl))) ea_nil) (by exact rfl) T.n_range (by walk_at "sd") (by walk_at "sd")) ⟨⟨.inr rfl, .inr rfl, .inr rfl, .inr rfl, .inl rfl, .inl rfl, trivial⟩, rfl⟩ (by simp) ?_ ?_ PassesOwn.never rfl)
  · intro zi0 zy0 zs0 zhy0 zq0
    skip
    have hy0 := seq_range zhy0
    have hi := (List.getElem?_eq_some_iff.mp zhy0).1
    simp only [List.length_range] at hi
    refine ⟨⟨[some (.fr ((eL D.int) numbers)), some (.fr (D.int at_)), some (.fr (D.int most)), some (.ad 100), some (.fr (D.int ((0 : Int) + (zy0 : Int)))), none], [(100, .fl ((zs0).map (eT3 D.str D.int D.int)))]⟩, (eg_name 4 nd rfl (.inl rfl)), ?_⟩
    refine exs_cons (ex_set 5 (ev_bin (o_mul (by walk_at "mul")) (ev_call (ds := [(eL D.int) numbers]) (ds' := []) (dvs := []) (dfs := []) O_law_scale (zhr.mono (by decide)) T.m_law_scale T.k_law_scale T.b_law_scale .nil (fun _ => .nil) (ea_cons (ev_var 0 rfl (.inl rfl) rfl) ea_nil) (fun _ zkk => ⟨numbers, rfl, rfl, (by walk_at "pre"), zkk⟩) (by exact rfl)) (ev_bin o_add ev_int (ev_call (ds := [(eL D.int) numbers, D.int ((at_ + (1 : Int)) + ((2 : Int) * ((0 : Int) + (zy0 : Int)))), D.int (4 : Int)]) (ds' := []) (dvs := []) (dfs := []) O_law_pick (zhr.mono (by decide)) T.m_law_pick T.k_law_pick T.b_law_pick .nil (fun _ => .nil) (ea_cons (ev_var 0 rfl (.inl rfl) rfl) (ea_cons (ev_bin o_add (ev_bin o_add (ev_var 1 rfl (.inl rfl) rfl) ev_int) (ev_bin (o_mul (by walk_at "mul")) ev_int (ev_var 4 rfl (.inl rfl) rfl))) (ea_cons ev_int ea_nil))) (fun _ zkk => ⟨numbers, ((at_ + (1 : Int)) + ((2 : Int) * ((0 : Int) + (zy0 : Int)))), (4 : Int), rfl, rfl, (by walk_at "pre"), zkk⟩) (by exact rfl)))) ?_ nd rfl (.inl rfl))
    show Exs _ _ _ ⟨[some (.fr ((eL D.int) numbers)), some (.fr (D.int at_)), some (.fr (D.int most)), some (.ad 100), some (.fr (D.int ((0 : Int) + (zy0 : Int)))), some (.fr (D.int ((m_law_scale numbers) * ((1 : Int) + (m_law_pick numbers ((at_ + (1 : Int)) + ((2 : Int) * ((0 : Int) + (zy0 : Int)))) (4 : Int))))))], [(100, .fl ((zs0).map (eT3 D.str D.int D.int)))]⟩ _
    generalize zg_cost : ((m_law_scale numbers) * ((1 : Int) + (m_law_pick numbers ((at_ + (1 : Int)) + ((2 : Int) * ((0 : Int) + (zy0 : Int)))) (4 : Int)))) = cost
    show Exs _ _ _ ⟨[some (.fr ((eL D.int) numbers)), some (.fr (D.int at_)), some (.fr (D.int most)), some (.ad 100), some (.fr (D.int ((0 : Int) + (zy0 : Int)))), some (.fr (D.int cost))], [(100, .fl ((zs0).map (eT3 D.str D.int D.int)))]⟩ _
    refine exs_one (ex_expr (ev_appendT (n := 100) (enc := (eT3 D.str D.int D.int)) (xs := zs0) (xs0 := zs0) ((m_law_name numbers ((0 : Int) + (zy0 : Int))), cost, ((1 : Int) + (m_law_pick numbers ((at_ + (2 : Int)) + ((2 : Int) * ((0 : Int) + (zy0 : Int)))) (9 : Int)))) rfl rfl rfl (by walk_at "sd") (ev_var 3 rfl (.inl rfl) rfl) (ev_tup (ds := [D.str (m_law_name numbers ((0 : Int) + (zy0 : Int))), D.int cost, D.int ((1 : Int) + (m_law_pick numbers ((at_ + (2 : Int)) + ((2 : Int) * ((0 : Int) + (zy0 : Int)))) (9 : Int)))]) (ea_cons (ev_call (ds := [(eL D.int) numbers, D.int ((0 : Int) + (zy0 : Int))]) (ds' := []) (dvs := []) (dfs := []) O_law_name (zhr.mono (by decide)) T.m_law_name T.k_law_name T.b_law_name .nil (fun _ => .nil) (ea_cons (ev_var 0 rfl (.inl rfl) rfl) (ea_cons (ev_var 4 rfl (.inl rfl) rfl) ea_nil)) (fun _ zkk => ⟨numbers, ((0 : Int) + (zy0 : Int)), rfl, rfl, (by walk_at "pre"), zkk⟩) (by exact rfl)) (ea_cons (ev_var 5 rfl (.inl rfl) rfl) (ea_cons (ev_bin o_add ev_int (ev_call (ds := [(eL D.int) numbers, D.int ((at_ + (2 : Int)) + ((2 : Int) * ((0 : Int) + (zy0 : Int)))), D.int (9 : Int)]) (ds' := []) (dvs := []) (dfs := []) O_law_pick (zhr.mono (by decide)) T.m_law_pick T.k_law_pick T.b_law_pick .nil (fun _ => .nil) (ea_cons (ev_var 0 rfl (.inl rfl) rfl) (ea_cons (ev_bin o_add (ev_bin o_add (ev_var 1 rfl (.inl rfl) rfl) ev_int) (ev_bin (o_mul (by walk_at "mul")) ev_int (ev_var 4 rfl (.inl rfl) rfl))) (ea_cons ev_int ea_nil))) (fun _ zkk => ⟨numbers, ((at_ + (2 : Int)) + ((2 : Int) * ((0 : Int) + (zy0 : Int)))), (9 : Int), rfl, rfl, (by walk_at "pre"), zkk⟩) (by exact rfl))) ea_nil))) (by simp only [List.length_cons, List.length_nil]; decide))) ?_)
    have est : (m_law_kinds_l0 numbers at_) zs0 zy0 = (zs0 ++ [((m_law_name numbers ((0 : Int) + (zy0 : Int))), cost, ((1 : Int) + (m_law_pick numbers ((at_ + (2 : Int)) + ((2 : Int) * ((0 : Int) + (zy0 : Int)))) (9 : Int))))]) := by subst zg_cost; simp only [m_law_kinds_l0, not_true_eq_false, not_false_eq_true, ↓reduceIte]
    show Le _ _ ∧ _
    try rw [est]
    exact ⟨⟨⟨.inr rfl, .inr rfl, .inr rfl, .inr rfl, .inl rfl, .inl rfl, trivial⟩, rfl⟩, (by simp; omega)⟩
  · intro zq0
    show Exs _ _ _ ⟨[some (.fr ((eL D.int) numbers)), some (.fr (D.int at_)), some (.fr (D.int most)), some (.ad 100), none, none], [(100, .fl ((((List.range (((1 : Int) + (m_law_pick numbers at_ most))).toNat).foldl (m_law_kinds_l0 numbers at_) ([] : List (Str × Int × Int)))).map (eT3 D.str D.int D.int)))]⟩ _
    refine exs_freezeT 100 (xs := ((List.range (((1 : Int) + (m_law_pick numbers at_ most))).toNat).foldl (m_law_kinds_l0 numbers at_) ([] : List (Str × Int × Int)))) (enc := (eT3 D.str D.int D.int)) (by exact rfl) ?_
    show Exs _ _ _ ⟨[some (.fr ((eL D.int) numbers)), some (.fr (D.int at_)), some (.fr (D.int most)), some (.fr ((eL (eT3 D.str D.int D.int)) ((List.range (((1 : Int) + (m_law_pick numbers at_ most))).toNat).foldl (m_law_kinds_l0 numbers at_) ([] : List (Str × Int × Int))))), none, none], []⟩ _
    refine exs_one (ex_ret (ev_var 3 rfl (.inl rfl) rfl) ?_)
    have efin : m_law_kinds numbers at_ most = ((List.range (((1 : Int) + (m_law_pick numbers at_ most))).toNat).foldl (m_law_kinds_l0 numbers at_) ([] : List (Str × Int × Int))) := by simp only [m_law_kinds, not_true_eq_false, not_false_eq_true, ↓reduceIte]
    rw [efin] at zk
    exact zk _
def m_law_ways_l0 (numbers : List Int) (at_ : Int) (kinds : List (Str × Int × Int)) (zs0 : (List (Str × Str × Int))) (zy0 : Nat) : (List (Str × Str × Int)) :=
  let source : Str := (kinds.getD ((m_law_pick numbers ((at_ + (1 : Int)) + ((3 : Int) * ((0 : Int) + (zy0 : Int)))) (kinds.length : Int))).toNat default).1
  let target : Str := (kinds.getD ((m_law_pick numbers ((at_ + (2 : Int)) + ((3 : Int) * ((0 : Int) + (zy0 : Int)))) (kinds.length : Int))).toNat default).1
  (zs0 ++ [(source, target, ((1 : Int) + (m_law_pick numbers ((at_ + (3 : Int)) + ((3 : Int) * ((0 : Int) + (zy0 : Int)))) (6 : Int))))])
def m_law_ways (numbers : List Int) (at_ : Int) (kinds : List (Str × Int × Int)) (most : Int) : List (Str × Str × Int) :=
  ((List.range ((m_law_pick numbers at_ (most + (1 : Int)))).toNat).foldl (m_law_ways_l0 numbers at_ kinds) ([] : List (Str × Str × Int)))
/-! the worlds of the laws on demand: names, kinds, ways -/
theorem kq_good : ∀ i : Fin 6, ∃ j : Fin 36, chA (Str.ofString "kq3zx9") (i.val : Int) = chA ALPH (j.val : Int) := by decide +kernel
theorem kq_inj : ∀ i j : Fin 6, (Str.ofString "kq3zx9").cps.toList.getD i.val 0 = (Str.ofString "kq3zx9").cps.toList.getD j.val 0 → i = j := by decide +kernel
def nameB (A B : Str) (k : Int) : Str := (A ++ chA (Str.ofString "kq3zx9") k) ++ B
theorem nameB_len (A B : Str) (k : Int) : (nameB A B k).length = A.length + B.length + 1 := by
  unfold nameB
  rw [str_len_append, str_len_append, chA_len]; omega
theorem nameB_inj {A B : Str} {a b : Nat} (ha : a < 6) (hb : b < 6) (h : nameB A B (a : Int) = nameB A B (b : Int)) : a = b := by
  have e := congrArg (fun z : Str => z.cps.toList) h
  unfold nameB at e
  rw [cs_append, cs_append, cs_append, cs_append] at e
  have e2 := List.append_cancel_left (List.append_cancel_right e)
  unfold chA at e2
  have e3 : (Str.ofString "kq3zx9").cps.toList.getD a 0 = (Str.ofString "kq3zx9").cps.toList.getD b 0 := by simpa using e2
  exact congrArg Fin.val (kq_inj ⟨a, ha⟩ ⟨b, hb⟩ e3)
theorem name_shape {numbers : List Int} (hn : ∀ x ∈ numbers, 0 ≤ x ∧ x ≤ 1008) : ∃ A B : Str, Good A ∧ Good B ∧ A.length + B.length ≤ 4 ∧ ∀ k, m_law_name numbers k = nameB A B k := by
  unfold m_law_name
  dsimp only
  have hb := getD_bound hn ((numbers.length : Int) - 2).toNat
  generalize hr : Txt.join (Str.ofString "") ((List.range (numbers.getD ((numbers.length : Int) - 2).toNat default % 5).toNat).map _) = rest
  have gr : Good rest := by
    rw [← hr]
    refine good_join fun y hy => ?_
    obtain ⟨i, _, rfl⟩ := List.mem_map.mp hy
    exact good_ch _ (by omega) (by omega)
  have lr : rest.length ≤ 4 := by
    rw [← hr, join0_len, List.length_map, List.length_range]
    · omega
    · intro y hy; obtain ⟨i, _, rfl⟩ := List.mem_map.mp hy; rfl
  have hp : 0 ≤ numbers.getD ((numbers.length : Int) - 3).toNat default % ((rest.length : Int) + 1) := Int.emod_nonneg _ (by omega)
  have h2 := cut_two rest _ hp
  exact ⟨_, _, good_cut gr _ _, good_cut gr _ _, by omega, fun k => rfl⟩
theorem nameB_good {A B : Str} (g1 : Good A) (g2 : Good B) {k : Nat} (hk : k < 6) : Good (nameB A B (k : Int)) := by
  refine good_app (good_app g1 ?_) g2
  obtain ⟨j, hj⟩ := kq_good ⟨k, hk⟩
  rw [show chA (Str.ofString "kq3zx9") (k : Int) = chA ALPH (j.val : Int) from hj]
  exact good_ch _ (by omega) (by have := j.isLt; omega)
def kindB (numbers : List Int) (at_ : Int) (A B : Str) (y : Nat) : Str × Int × Int :=
  (nameB A B (0 + (y : Int)), m_law_scale numbers * (1 + m_law_pick numbers (at_ + 1 + 2 * (0 + (y : Int))) 4), 1 + m_law_pick numbers (at_ + 2 + 2 * (0 + (y : Int))) 9)
theorem kinds_shape {numbers : List Int} (hn : ∀ x ∈ numbers, 0 ≤ x ∧ x ≤ 1008) (at_ most : Int) : ∃ A B : Str, Good A ∧ Good B ∧ A.length + B.length ≤ 4 ∧ m_law_kinds numbers at_ most = (List.range (1 + m_law_pick numbers at_ most).toNat).map (kindB numbers at_ A B) := by
  obtain ⟨A, B, g1, g2, g3, e⟩ := name_shape hn
  refine ⟨A, B, g1, g2, g3, ?_⟩
  unfold m_law_kinds
  have ef : ∀ (ys : List Nat), ys.foldl (m_law_kinds_l0 numbers at_) [] = ys.map (kindB numbers at_ A B) := fun ys => by
    rw [fold_snoc (kindB numbers at_ A B) (m_law_kinds_l0 numbers at_) (fun s y => ?_), List.nil_append]
    unfold m_law_kinds_l0 kindB
    rw [e]
  exact ef _
/-- what a list of kinds of a law keeps -/
structure KindsOk (kinds : List (Str × Int × Int)) : Prop where
  are : m_are_kinds kinds = true
  le : kinds.length ≤ 8
  pos : 1 ≤ kinds.length
  short : ∀ k ∈ kinds, k.1.length ≤ 1000
  cost : ∀ k ∈ kinds, 1 ≤ k.2.1 ∧ k.2.1 ≤ 1000
  due : ∀ k ∈ kinds, 1 ≤ k.2.2 ∧ k.2.2 ≤ 1000
theorem kinds_ok_of {numbers : List Int} {at_ : Int} {A B : Str} (g1 : Good A) (g2 : Good B) (g3 : A.length + B.length ≤ 4) {n : Nat} (n1 : 1 ≤ n) (n6 : n ≤ 6) : KindsOk ((List.range n).map (kindB numbers at_ A B)) := by
  have nm : ∀ y, (kindB numbers at_ A B y).1 = nameB A B (y : Int) := fun y => by unfold kindB; dsimp only; rw [Int.zero_add]
  have en : ((List.range n).map (kindB numbers at_ A B)).map (fun z : Str × Int × Int => z.1) = (List.range n).map (fun y : Nat => nameB A B (y : Int)) := by
    rw [List.map_map]
    exact List.map_congr_left fun y hy => nm y
  have nd : ((List.range n).map (fun y : Nat => nameB A B (y : Int))).Nodup := by
    unfold List.Nodup
    rw [List.pairwise_map]
    exact List.Pairwise.imp_of_mem (fun ha hb hne q => hne (nameB_inj (by have := List.mem_range.mp ha; omega) (by have := List.mem_range.mp hb; omega) q)) (List.nodup_range (n := n))
  have hc : ∀ k ∈ (List.range n).map (kindB numbers at_ A B), 1 ≤ k.2.1 ∧ k.2.1 ≤ 1000 := fun k hk => by
    obtain ⟨y, hy, rfl⟩ := List.mem_map.mp hk
    unfold kindB
    dsimp only
    obtain ⟨s1, s2⟩ := scale_bound (numbers := numbers)
    obtain ⟨p1, p2⟩ := pick_bound numbers (at_ + 1 + 2 * (0 + (y : Int))) (count := 4) (by decide)
    generalize m_law_scale numbers = s at *
    generalize m_law_pick numbers (at_ + 1 + 2 * (0 + (y : Int))) 4 = p at *
    have : p = 0 ∨ p = 1 ∨ p = 2 ∨ p = 3 := by omega
    rcases this with rfl | rfl | rfl | rfl <;> omega
  have hd : ∀ k ∈ (List.range n).map (kindB numbers at_ A B), 1 ≤ k.2.2 ∧ k.2.2 ≤ 1000 := fun k hk => by
    obtain ⟨y, hy, rfl⟩ := List.mem_map.mp hk
    unfold kindB
    dsimp only
    have := pick_bound numbers (at_ + 2 + 2 * (0 + (y : Int))) (count := 9) (by decide)
    omega
  have hl : ∀ k ∈ (List.range n).map (kindB numbers at_ A B), k.1.length ≤ 1000 := fun k hk => by
    obtain ⟨y, hy, rfl⟩ := List.mem_map.mp hk
    rw [nm, nameB_len]; omega
  refine ⟨?_, by rw [List.length_map, List.length_range]; omega, by rw [List.length_map, List.length_range]; omega, hl, hc, hd⟩
  unfold m_are_kinds
  rw [if_neg (fun q => q ⟨by rw [List.length_map, List.length_range]; omega, by rw [List.length_map, List.length_range]; omega⟩), Bool.and_eq_true]
  constructor
  · rw [List.all_eq_true]
    intro b hb
    obtain ⟨k, hk, rfl⟩ := List.mem_map.mp hb
    have h1 := hc k hk
    have h2 := hd k hk
    obtain ⟨y, hy, rfl⟩ := List.mem_map.mp hk
    have hy := List.mem_range.mp hy
    unfold m_is_kind m_is_integer
    rw [if_neg (by rintro (q | q) <;> exact q rfl), nm y, good_name (nameB_good g1 g2 (by omega)) (by rw [nameB_len]; omega) (by rw [nameB_len]; omega)]
    rw [decide_eq_true h1.1, decide_eq_true h1.2, decide_eq_true h2.1, decide_eq_true h2.2]; rfl
  · unfold m_are_different
    rw [en]
    exact decide_eq_true (by rw [(cntS_nodup _).mpr nd])
theorem kinds_ok {numbers : List Int} (hn : ∀ x ∈ numbers, 0 ≤ x ∧ x ≤ 1008) (at_ : Int) {most : Int} (h1 : 1 ≤ most) (h6 : most ≤ 6) : KindsOk (m_law_kinds numbers at_ most) ∧ ((m_law_kinds numbers at_ most).length : Int) = 1 + m_law_pick numbers at_ most := by
  obtain ⟨A, B, g1, g2, g3, e⟩ := kinds_shape hn at_ most
  have hp := pick_bound numbers at_ (count := most) (by omega)
  rw [e]
  exact ⟨kinds_ok_of g1 g2 g3 (by omega) (by omega), by rw [List.length_map, List.length_range]; omega⟩
def wayB (numbers : List Int) (at_ : Int) (kinds : List (Str × Int × Int)) (y : Nat) : Str × Str × Int :=
  ((kinds.getD (m_law_pick numbers (at_ + 1 + 3 * (0 + (y : Int))) (kinds.length : Int)).toNat default).1,
   (kinds.getD (m_law_pick numbers (at_ + 2 + 3 * (0 + (y : Int))) (kinds.length : Int)).toNat default).1,
   1 + m_law_pick numbers (at_ + 3 + 3 * (0 + (y : Int))) 6)
theorem ways_shape (numbers : List Int) (at_ : Int) (kinds : List (Str × Int × Int)) (most : Int) : m_law_ways numbers at_ kinds most = (List.range (m_law_pick numbers at_ (most + 1)).toNat).map (wayB numbers at_ kinds) := by
  unfold m_law_ways
  have ef : ∀ (ys : List Nat), ys.foldl (m_law_ways_l0 numbers at_ kinds) [] = ys.map (wayB numbers at_ kinds) := fun ys => by
    rw [fold_snoc (wayB numbers at_ kinds) (m_law_ways_l0 numbers at_ kinds) (fun s y => rfl), List.nil_append]
  exact ef _
structure WaysOk (ways : List (Str × Str × Int)) (kinds : List (Str × Int × Int)) : Prop where
  are : m_are_ways ways kinds = true
  le : ways.length ≤ 16
  dist : ∀ w ∈ ways, 1 ≤ w.2.2 ∧ w.2.2 ≤ 1000
  ends : ∀ w ∈ ways, w.1 ∈ kinds.map (·.1) ∧ w.2.1 ∈ kinds.map (·.1)
theorem ways_ok_of {ways : List (Str × Str × Int)} {kinds : List (Str × Int × Int)} (h1 : ways.length ≤ 16) (h2 : ∀ w ∈ ways, 1 ≤ w.2.2 ∧ w.2.2 ≤ 1000) (h3 : ∀ w ∈ ways, w.1 ∈ kinds.map (·.1) ∧ w.2.1 ∈ kinds.map (·.1)) : WaysOk ways kinds := by
  refine ⟨?_, h1, h2, h3⟩
  unfold m_are_ways
  rw [if_neg (by omega), List.all_eq_true]
  intro b hb
  obtain ⟨w, hw, rfl⟩ := List.mem_map.mp hb
  unfold m_is_way m_is_integer
  rw [if_neg (by rintro (q | q) <;> exact q rfl), decide_eq_true (h3 w hw).1, decide_eq_true (h3 w hw).2, decide_eq_true (h2 w hw).1, decide_eq_true (h2 w hw).2]
  rfl
theorem ways_ok (numbers : List Int) (at_ : Int) {kinds : List (Str × Int × Int)} (hk : 1 ≤ kinds.length) {most : Int} (h0 : 0 ≤ most) (h16 : most ≤ 16) : WaysOk (m_law_ways numbers at_ kinds most) kinds ∧ ((m_law_ways numbers at_ kinds most).length : Int) ≤ most := by
  rw [ways_shape]
  have hp := pick_bound numbers at_ (count := most + 1) (by omega)
  have hmem : ∀ j : Int, (kinds.getD (m_law_pick numbers j (kinds.length : Int)).toNat default).1 ∈ kinds.map (fun zc3 : Str × Int × Int => zc3.1) := fun j => by
    have := pick_bound numbers j (count := (kinds.length : Int)) (by omega)
    exact List.mem_map.mpr ⟨_, getD_mem (by omega), rfl⟩
  refine ⟨ways_ok_of (by rw [List.length_map, List.length_range]; omega) (fun w hw => ?_) (fun w hw => ?_), by rw [List.length_map, List.length_range]; omega⟩
  · obtain ⟨y, _, rfl⟩ := List.mem_map.mp hw
    unfold wayB
    have := pick_bound numbers (at_ + 3 + 3 * (0 + (y : Int))) (count := 6) (by decide)
    dsimp only
    omega
  · obtain ⟨y, _, rfl⟩ := List.mem_map.mp hw
    exact ⟨hmem _, hmem _⟩
theorem task_ok {kinds : List (Str × Int × Int)} {ways : List (Str × Str × Int)} (hk : KindsOk kinds) (hw : WaysOk ways kinds) (name : Str) : Task.ok { name := name, kinds := kinds, ways := ways } := ⟨hk.are, hw.are⟩

theorem sc_law_ways : FnScope ["numbers", "at", "kinds", "most", "ways", "k", "source", "target"] ["numbers", "at", "kinds", "most"] (defScope s_law_ways) := ⟨rfl, rfl, rfl, by decide +kernel, rfl, by decide +kernel, by decide +kernel⟩
def sp_law_ways : SpN := fun zcs zL zKc => ∃ numbers : List Int, ∃ at_ : Int, ∃ kinds : List (Str × Int × Int), ∃ most : Int, zcs = [.fr ((eL D.int) numbers), .fr (D.int at_), .fr ((eL (eT3 D.str D.int D.int)) kinds), .fr (D.int most)] ∧ zL = [] ∧ (0 ≤ at_ ∧ at_ + 1 + 3 * most ≤ numbers.length ∧ 0 < kinds.length ∧ kinds.length ≤ 8 ∧ 0 ≤ most ∧ most ≤ 16) ∧ ∀ zL', zKc (.fr ((eL (eT3 D.str D.str D.int)) (m_law_ways numbers at_ kinds most))) zL'
theorem ok_law_ways (T : TX K mg) : FnOk P w K mg base CX0 2 T.a_law_ways T.d_law_ways ["numbers", "at", "kinds", "most"] (SpOf K mg sp_law_ways) := by
  have O_law_pick := ok_law_pick (P := P) (w := w) (base := base) T
  refine T.F_law_ways.okN sc_law_ways (fun zcs zL zKc zh => by obtain ⟨numbers, at_, kinds, most, rfl, _⟩ := zh; rfl) fun zcdv zA zout zst zH zE zB zcs zL zKc zhr zh => ?_
  obtain ⟨numbers, at_, kinds, most, rfl, rfl, hpre, zk⟩ := zh
  have nd := sc_law_ways.nd
  have hSL := sizeLine_eq
  have hpb := pick_bound numbers at_ (count := most + 1) (by omega)
  show Exs _ _ _ ⟨[some (.fr ((eL D.int) numbers)), some (.fr (D.int at_)), some (.fr ((eL (eT3 D.str D.int D.int)) kinds)), some (.fr (D.int most)), none, none, none, none], []⟩ _
  refine exs_cons (ex_set 4 (ev_lstN 100 (enc := (eT3 D.str D.str D.int)) ([] : List (Str × Str × Int)) ea_nil rfl (by simp only [List.length_cons, List.length_nil]; decide) (by simp [names]) (by decide)) ?_ nd rfl (.inl rfl))
  show Exs _ _ _ ⟨[some (.fr ((eL D.int) numbers)), some (.fr (D.int at_)), some (.fr ((eL (eT3 D.str D.int D.int)) kinds)), some (.fr (D.int most)), some (.ad 100), none, none, none], [(100, .fl ((([] : List (Str × Str × Int))).map (eT3 D.str D.str D.int)))]⟩ _
  refine exs_cons (ex_forF (enc := (fun i : Nat => D.int ((0 : Int) + (i : Int)))) (fun (zs0 : (List (Str × Str × Int))) => (⟨[some (.fr ((eL D.int) numbers)), some (.fr (D.int at_)), some (.fr ((eL (eT3 D.str D.int D.int)) kinds)), some (.fr (D.int most)), some (.ad 100), none, none, none], [(100, .fl ((zs0).map (eT3 D.str D.str D.int)))]⟩ : Nz.S)) (m_law_ways_l0 numbers at_ kinds) ([] : List (Str × Str × Int)) (fun (zi0 : Nat) (zs0 : (List (Str × Str × Int))) => zs0.length = zi0) (src_range1 (ea_cons (ev_call (ds := [(eL D.int) numbers, D.int at_, D.int (most + (1 : Int))]) (ds' := []) (dvs := []) (dfs := []) O_law_pick (zhr.mono (by decide)) T.m_law_pick T.k_law_pick T.b_law_pick .nil (fun _ => .nil) (ea_cons (ev_var 0 rfl (.inl rfl) rfl) (ea_cons (ev_var 1 rfl (.inl rfl) rfl) (ea_cons (ev_bin o_add (ev_var 3 rfl (.inl rfl) rfl) ev_int) ea_nil))) (fun _ zkk => ⟨numbers, at_, (most + (1 : Int)), rfl, rfl, (by walk_at "pre"), zkk⟩) (by exact rfl)) ea_nil) (by exact rfl) T.n_range (by walk_at "sd") (by walk_at "sd")) ⟨⟨.inr rfl, .inr rfl, .inr rfl, .inr rfl, .inr rfl, .inl rfl, .inl rfl, .inl rfl, trivial⟩, rfl⟩ (by simp) ?_ ?_ PassesOwn.never rfl)
  · intro zi0 zy0 zs0 zhy0 zq0
    skip
    have hy0 := seq_range zhy0
    have hi := (List.getElem?_eq_some_iff.mp zhy0).1
    simp only [List.length_range] at hi
    have hq1 := pick_bound numbers (at_ + 1 + 3 * (0 + (zy0 : Int))) (count := (kinds.length : Int)) (by omega)
    have hq2 := pick_bound numbers (at_ + 2 + 3 * (0 + (zy0 : Int))) (count := (kinds.length : Int)) (by omega)
    refine ⟨⟨[some (.fr ((eL D.int) numbers)), some (.fr (D.int at_)), some (.fr ((eL (eT3 D.str D.int D.int)) kinds)), some (.fr (D.int most)), some (.ad 100), some (.fr (D.int ((0 : Int) + (zy0 : Int)))), none, none], [(100, .fl ((zs0).map (eT3 D.str D.str D.int)))]⟩, (eg_name 5 nd rfl (.inl rfl)), ?_⟩
    refine exs_cons (ex_set 6 (ev_ix (.t (d := D.str ((kinds.getD ((m_law_pick numbers ((at_ + (1 : Int)) + ((3 : Int) * ((0 : Int) + (zy0 : Int)))) (kinds.length : Int))).toNat default).1)) rfl) (ev_ix (ix_L (xs := kinds) (enc := (eT3 D.str D.int D.int)) (by exact rfl) (by walk_at "sd") (by walk_at "sd")) (ev_var 2 rfl (.inl rfl) rfl) (ev_call (ds := [(eL D.int) numbers, D.int ((at_ + (1 : Int)) + ((3 : Int) * ((0 : Int) + (zy0 : Int)))), D.int (kinds.length : Int)]) (ds' := []) (dvs := []) (dfs := []) O_law_pick (zhr.mono (by decide)) T.m_law_pick T.k_law_pick T.b_law_pick .nil (fun _ => .nil) (ea_cons (ev_var 0 rfl (.inl rfl) rfl) (ea_cons (ev_bin o_add (ev_bin o_add (ev_var 1 rfl (.inl rfl) rfl) ev_int) (ev_bin (o_mul (by walk_at "mul")) ev_int (ev_var 5 rfl (.inl rfl) rfl))) (ea_cons (ev_len (ln_L (xs := kinds) (enc := (eT3 D.str D.int D.int)) (by exact rfl)) (ev_var 2 rfl (.inl rfl) rfl) (by exact rfl) T.n_len) ea_nil))) (fun _ zkk => ⟨numbers, ((at_ + (1 : Int)) + ((3 : Int) * ((0 : Int) + (zy0 : Int)))), (kinds.length : Int), rfl, rfl, (by walk_at "pre"), zkk⟩) (by exact rfl))) ev_int) ?_ nd rfl (.inl rfl))
    show Exs _ _ _ ⟨[some (.fr ((eL D.int) numbers)), some (.fr (D.int at_)), some (.fr ((eL (eT3 D.str D.int D.int)) kinds)), some (.fr (D.int most)), some (.ad 100), some (.fr (D.int ((0 : Int) + (zy0 : Int)))), some (.fr (D.str ((kinds.getD ((m_law_pick numbers ((at_ + (1 : Int)) + ((3 : Int) * ((0 : Int) + (zy0 : Int)))) (kinds.length : Int))).toNat default).1))), none], [(100, .fl ((zs0).map (eT3 D.str D.str D.int)))]⟩ _
    generalize zg_source : (kinds.getD ((m_law_pick numbers ((at_ + (1 : Int)) + ((3 : Int) * ((0 : Int) + (zy0 : Int)))) (kinds.length : Int))).toNat default).1 = source
    show Exs _ _ _ ⟨[some (.fr ((eL D.int) numbers)), some (.fr (D.int at_)), some (.fr ((eL (eT3 D.str D.int D.int)) kinds)), some (.fr (D.int most)), some (.ad 100), some (.fr (D.int ((0 : Int) + (zy0 : Int)))), some (.fr (D.str source)), none], [(100, .fl ((zs0).map (eT3 D.str D.str D.int)))]⟩ _
    refine exs_cons (ex_set 7 (ev_ix (.t (d := D.str ((kinds.getD ((m_law_pick numbers ((at_ + (2 : Int)) + ((3 : Int) * ((0 : Int) + (zy0 : Int)))) (kinds.length : Int))).toNat default).1)) rfl) (ev_ix (ix_L (xs := kinds) (enc := (eT3 D.str D.int D.int)) (by exact rfl) (by walk_at "sd") (by walk_at "sd")) (ev_var 2 rfl (.inl rfl) rfl) (ev_call (ds := [(eL D.int) numbers, D.int ((at_ + (2 : Int)) + ((3 : Int) * ((0 : Int) + (zy0 : Int)))), D.int (kinds.length : Int)]) (ds' := []) (dvs := []) (dfs := []) O_law_pick (zhr.mono (by decide)) T.m_law_pick T.k_law_pick T.b_law_pick .nil (fun _ => .nil) (ea_cons (ev_var 0 rfl (.inl rfl) rfl) (ea_cons (ev_bin o_add (ev_bin o_add (ev_var 1 rfl (.inl rfl) rfl) ev_int) (ev_bin (o_mul (by walk_at "mul")) ev_int (ev_var 5 rfl (.inl rfl) rfl))) (ea_cons (ev_len (ln_L (xs := kinds) (enc := (eT3 D.str D.int D.int)) (by exact rfl)) (ev_var 2 rfl (.inl rfl) rfl) (by exact rfl) T.n_len) ea_nil))) (fun _ zkk => ⟨numbers, ((at_ + (2 : Int)) + ((3 : Int) * ((0 : Int) + (zy0 : Int)))), (kinds.length : Int), rfl, rfl, (by walk_at "pre"), zkk⟩) (by exact rfl))) ev_int) ?_ nd rfl (.inl rfl))
    show Exs _ _ _ ⟨[some (.fr ((eL D.int) numbers)), some (.fr (D.int at_)), some (.fr ((eL (eT3 D.str D.int D.int)) kinds)), some (.fr (D.int most)), some (.ad 100), some (.fr (D.int ((0 : Int) + (zy0 : Int)))), some (.fr (D.str source)), some (.fr (D.str ((kinds.getD ((m_law_pick numbers ((at_ + (2 : Int)) + ((3 : Int) * ((0 : Int) + (zy0 : Int)))) (kinds.length : Int))).toNat default).1)))], [(100, .fl ((zs0).map (eT3 D.str D.str D.int)))]⟩ _
    generalize zg_target : (kinds.getD ((m_law_pick numbers ((at_ + (2 : Int)) + ((3 : Int) * ((0 : Int) + (zy0 : Int)))) (kinds.length : Int))).toNat default).1 = target
    show Exs _ _ _ ⟨[some (.fr ((eL D.int) numbers)), some (.fr (D.int at_)), some (.fr ((eL (eT3 D.str D.int D.int)) kinds)), some (.fr (D.int most)), some (.ad 100), some (.fr (D.int ((0 : Int) + (zy0 : Int)))), some (.fr (D.str source)), some (.fr (D.str target))], [(100, .fl ((zs0).map (eT3 D.str D.str D.int)))]⟩ _
    refine exs_one (ex_expr (ev_appendT (n := 100) (enc := (eT3 D.str D.str D.int)) (xs := zs0) (xs0 := zs0) (source, target, ((1 : Int) + (m_law_pick numbers ((at_ + (3 : Int)) + ((3 : Int) * ((0 : Int) + (zy0 : Int)))) (6 : Int)))) rfl rfl rfl (by walk_at "sd") (ev_var 4 rfl (.inl rfl) rfl) (ev_tup (ds := [D.str source, D.str target, D.int ((1 : Int) + (m_law_pick numbers ((at_ + (3 : Int)) + ((3 : Int) * ((0 : Int) + (zy0 : Int)))) (6 : Int)))]) (ea_cons (ev_var 6 rfl (.inl rfl) rfl) (ea_cons (ev_var 7 rfl (.inl rfl) rfl) (ea_cons (ev_bin o_add ev_int (ev_call (ds := [(eL D.int) numbers, D.int ((at_ + (3 : Int)) + ((3 : Int) * ((0 : Int) + (zy0 : Int)))), D.int (6 : Int)]) (ds' := []) (dvs := []) (dfs := []) O_law_pick (zhr.mono (by decide)) T.m_law_pick T.k_law_pick T.b_law_pick .nil (fun _ => .nil) (ea_cons (ev_var 0 rfl (.inl rfl) rfl) (ea_cons (ev_bin o_add (ev_bin o_add (ev_var 1 rfl (.inl rfl) rfl) ev_int) (ev_bin (o_mul (by walk_at "mul")) ev_int (ev_var 5 rfl (.inl rfl) rfl))) (ea_cons ev_int ea_nil))) (fun _ zkk => ⟨numbers, ((at_ + (3 : Int)) + ((3 : Int) * ((0 : Int) + (zy0 : Int)))), (6 : Int), rfl, rfl, (by walk_at "pre"), zkk⟩) (by exact rfl))) ea_nil))) (by simp only [List.length_cons, List.length_nil]; decide))) ?_)
    have est : (m_law_ways_l0 numbers at_ kinds) zs0 zy0 = (zs0 ++ [(source, target, ((1 : Int) + (m_law_pick numbers ((at_ + (3 : Int)) + ((3 : Int) * ((0 : Int) + (zy0 : Int)))) (6 : Int))))]) := by subst zg_target; subst zg_source; simp only [m_law_ways_l0, not_true_eq_false, not_false_eq_true, ↓reduceIte]
    show Le _ _ ∧ _
    try rw [est]
    exact ⟨⟨⟨.inr rfl, .inr rfl, .inr rfl, .inr rfl, .inr rfl, .inl rfl, .inl rfl, .inl rfl, trivial⟩, rfl⟩, (by simp; omega)⟩
  · intro zq0
    show Exs _ _ _ ⟨[some (.fr ((eL D.int) numbers)), some (.fr (D.int at_)), some (.fr ((eL (eT3 D.str D.int D.int)) kinds)), some (.fr (D.int most)), some (.ad 100), none, none, none], [(100, .fl ((((List.range ((m_law_pick numbers at_ (most + (1 : Int)))).toNat).foldl (m_law_ways_l0 numbers at_ kinds) ([] : List (Str × Str × Int)))).map (eT3 D.str D.str D.int)))]⟩ _
    refine exs_freezeT 100 (xs := ((List.range ((m_law_pick numbers at_ (most + (1 : Int)))).toNat).foldl (m_law_ways_l0 numbers at_ kinds) ([] : List (Str × Str × Int)))) (enc := (eT3 D.str D.str D.int)) (by exact rfl) ?_
    show Exs _ _ _ ⟨[some (.fr ((eL D.int) numbers)), some (.fr (D.int at_)), some (.fr ((eL (eT3 D.str D.int D.int)) kinds)), some (.fr (D.int most)), some (.fr ((eL (eT3 D.str D.str D.int)) ((List.range ((m_law_pick numbers at_ (most + (1 : Int)))).toNat).foldl (m_law_ways_l0 numbers at_ kinds) ([] : List (Str × Str × Int))))), none, none, none], []⟩ _
    refine exs_one (ex_ret (ev_var 4 rfl (.inl rfl) rfl) ?_)
    have efin : m_law_ways numbers at_ kinds most = ((List.range ((m_law_pick numbers at_ (most + (1 : Int)))).toNat).foldl (m_law_ways_l0 numbers at_ kinds) ([] : List (Str × Str × Int))) := by simp only [m_law_ways, not_true_eq_false, not_false_eq_true, ↓reduceIte]
    rw [efin] at zk
    exact zk _
def m_law_number_l0 (kinds : List (Str × Int × Int)) (name : Str) (zs0 : Unit) (zy0 : Nat) : Except Int (Unit) :=
  if ((kinds.getD (((0 : Int) + (zy0 : Int))).toNat default).1 = name) then .error ((0 : Int) + (zy0 : Int)) else .ok ()
def m_law_number (kinds : List (Str × Int × Int)) (name : Str) : Int :=
  match (runE (m_law_number_l0 kinds name) (List.range ((kinds.length : Int)).toNat) ()) with | .error r => r | .ok zs0 => (0 : Int)
theorem init_eq' {name : Str} {kinds : List (Str × Int × Int)} {ways : List (Str × Str × Int)} (h1 : m_is_name name = true) (h2 : m_are_kinds kinds = true) (h3 : m_are_ways ways kinds = true) : m_Task_init__ name kinds ways = { name := name, kinds := kinds, ways := ways } := init_eq h1 h2 h3
theorem sc_law_number : FnScope ["kinds", "name", "number"] ["kinds", "name"] (defScope s_law_number) := ⟨rfl, rfl, rfl, by decide +kernel, rfl, by decide +kernel, by decide +kernel⟩
def sp_law_number : SpN := fun zcs zL zKc => ∃ kinds : List (Str × Int × Int), ∃ name : Str, zcs = [.fr ((eL (eT3 D.str D.int D.int)) kinds), .fr (D.str name)] ∧ zL = [] ∧ (kinds.length ≤ 1000) ∧ ∀ zL', zKc (.fr (D.int (m_law_number kinds name))) zL'
theorem ok_law_number (T : TX K mg) : FnOk P w K mg base CX0 1 T.a_law_number T.d_law_number ["kinds", "name"] (SpOf K mg sp_law_number) := by
  refine T.F_law_number.okN sc_law_number (fun zcs zL zKc zh => by obtain ⟨kinds, name, rfl, _⟩ := zh; rfl) fun zcdv zA zout zst zH zE zB zcs zL zKc zhr zh => ?_
  obtain ⟨kinds, name, rfl, rfl, hpre, zk⟩ := zh
  have nd := sc_law_number.nd
  have hSL := sizeLine_eq
  show Exs _ _ _ ⟨[some (.fr ((eL (eT3 D.str D.int D.int)) kinds)), some (.fr (D.str name)), none], []⟩ _
  refine exs_cons (ex_forE (enc := (fun i : Nat => D.int ((0 : Int) + (i : Int)))) (fun (zs0 : Unit) => (⟨[some (.fr ((eL (eT3 D.str D.int D.int)) kinds)), some (.fr (D.str name)), none], []⟩ : Nz.S)) (m_law_number_l0 kinds name) () (fun (zi0 : Nat) (zs0 : Unit) => True) (fun r c S' => c = .fr (D.int r) ∧ True) (src_range1 (ea_cons (ev_len (ln_L (xs := kinds) (enc := (eT3 D.str D.int D.int)) (by exact rfl)) (ev_var 0 rfl (.inl rfl) rfl) (by exact rfl) T.n_len) ea_nil) (by exact rfl) T.n_range (by walk_at "sd") (by walk_at "sd")) ⟨⟨.inr rfl, .inr rfl, .inl rfl, trivial⟩, rfl⟩ trivial ?_ ?_ ?_ PassesOwn.never rfl)
  · intro zi0 zy0 zs0 zhy0 zrun0 zq0
    skip
    have hy0 := seq_range zhy0
    have hi := (List.getElem?_eq_some_iff.mp zhy0).1
    simp only [List.length_range] at hi
    refine ⟨⟨[some (.fr ((eL (eT3 D.str D.int D.int)) kinds)), some (.fr (D.str name)), some (.fr (D.int ((0 : Int) + (zy0 : Int))))], []⟩, (eg_name 2 nd rfl (.inl rfl)), ?_⟩
    refine exs_one (ex_ifP bd_d (et_cmp o_eqs (ev_ix (.t (d := D.str ((kinds.getD (((0 : Int) + (zy0 : Int))).toNat default).1)) rfl) (ev_ix (ix_L (xs := kinds) (enc := (eT3 D.str D.int D.int)) (by exact rfl) (by walk_at "sd") (by walk_at "sd")) (ev_var 0 rfl (.inl rfl) rfl) (ev_var 2 rfl (.inl rfl) rfl)) ev_int) (ev_var 1 rfl (.inl rfl) rfl) (nomark _)) (fun (zh1 : ((kinds.getD (((0 : Int) + (zy0 : Int))).toNat default).1 = name)) => ?_) (fun (zh1 : ¬ ((kinds.getD (((0 : Int) + (zy0 : Int))).toNat default).1 = name)) => ?_))
    · skip
      refine exs_one (ex_ret (ev_var 2 rfl (.inl rfl) rfl) ?_)
      have est : (m_law_number_l0 kinds name) zs0 zy0 = .error ((0 : Int) + (zy0 : Int)) := by simp only [m_law_number_l0, not_true_eq_false, not_false_eq_true, ↓reduceIte, ↓if_pos zh1]
      exact ⟨_, est, rfl, trivial⟩
    · skip
      refine exs_nil ?_
      have est : (m_law_number_l0 kinds name) zs0 zy0 = .ok () := by simp only [m_law_number_l0, not_true_eq_false, not_false_eq_true, ↓reduceIte, ↓if_neg zh1]
      exact ⟨_, est, ⟨⟨.inr rfl, .inr rfl, .inl rfl, trivial⟩, rfl⟩, trivial⟩
  · rintro zr zc zS zrun0 ⟨rfl, zhL⟩
    skip
    have zh2 := zrun0
    have efin : m_law_number kinds name = zr := by simp only [m_law_number, not_true_eq_false, not_false_eq_true, ↓reduceIte, ↓zh2]
    rw [efin] at zk
    exact zk _
  · intro zs0 zrun0 zq0
    have zh3 := zrun0
    show Exs _ _ _ ⟨[some (.fr ((eL (eT3 D.str D.int D.int)) kinds)), some (.fr (D.str name)), none], []⟩ _
    refine exs_one (ex_ret ev_int ?_)
    have efin : m_law_number kinds name = (0 : Int) := by simp only [m_law_number, not_true_eq_false, not_false_eq_true, ↓reduceIte, ↓zh3]
    rw [efin] at zk
    exact zk _
def m_steps (task : Task) (kind_name : Str) : List (Int × Int) :=
  ((m_Task_ways_from task kind_name).map (fun zc2 : Str × Int => ((m_Task_kind_number task zc2.1), zc2.2)))
set_option hygiene false in
local macro_rules | `(tactic| walk_at "pre") => `(tactic| first | exact ⟨hpre.1, hpre.2⟩ | exact ⟨hpre.1, hwf.2 _ (List.mem_of_getElem? (by assumption))⟩ | fail)
theorem ways_from_facts {t : Task} (h : t.ok) (kn : Str) : (m_Task_ways_from t kn).length ≤ 16 ∧ ∀ w ∈ m_Task_ways_from t kn, w.1 ∈ t.kinds.map (·.1) := by
  have h1 := h.w1
  unfold m_Task_ways_from
  refine ⟨?_, fun w hw => ?_⟩
  · rw [List.length_map]; have := List.length_filter_le (fun zc2 : Str × Str × Int => decide (zc2.1 = (m_Task_kind t kn).1)) t.ways; omega
  · obtain ⟨x, hx, rfl⟩ := List.mem_map.mp hw
    exact (h.wn x (List.mem_filter.mp hx).1).2
theorem Task.ok.dist {t : Task} (h : t.ok) : ∀ w ∈ t.ways, 1 ≤ w.2.2 ∧ w.2.2 ≤ 1000 := by
  have q := h.2
  unfold m_are_ways at q
  split at q
  · cases q
  · intro w hw
    have q1 := List.all_eq_true.mp q _ (List.mem_map.mpr ⟨w, hw, rfl⟩)
    unfold m_is_way at q1
    split at q1
    · cases q1
    · rw [Bool.and_eq_true, Bool.and_eq_true] at q1
      have q2 := q1.2.2
      unfold m_is_integer at q2
      simp at q2
      exact q2
theorem steps_facts {t : Task} (h : t.ok) (kn : Str) : ∀ s ∈ m_steps t kn, 0 ≤ s.1 ∧ s.1 < (t.kinds.length : Int) ∧ 1 ≤ s.2 ∧ s.2 ≤ 1000 := by
  intro s hs
  unfold m_steps at hs
  obtain ⟨x, hx, rfl⟩ := List.mem_map.mp hs
  obtain ⟨j, e, hj, _⟩ := kind_number_spec ((ways_from_facts h kn).2 x hx)
  unfold m_Task_ways_from at hx
  obtain ⟨w, hw, rfl⟩ := List.mem_map.mp hx
  have hd := h.dist w (List.mem_filter.mp hw).1
  dsimp only at e ⊢
  rw [e]
  omega
theorem sc_steps : FnScope ["task", "kind_name", "target", "distance"] ["task", "kind_name"] (defScope s_steps) := ⟨rfl, rfl, rfl, by decide +kernel, rfl, by decide +kernel, by decide +kernel⟩
def sp_steps : SpN := fun zcs zL zKc => ∃ task : Task, ∃ kind_name : Str, zcs = [.fr (eTask task), .fr (D.str kind_name)] ∧ zL = [] ∧ (task.ok ∧ kind_name ∈ task.kinds.map (·.1)) ∧ ∀ zL', zKc (.fr ((eL (eT2 D.int D.int)) (m_steps task kind_name))) zL'
theorem ok_steps (T : TX K mg) : FnOk P w K mg base CX0 4 T.a_steps T.d_steps ["task", "kind_name"] (SpOf K mg sp_steps) := by
  have O_Task_kind_number := ok_Task_kind_number (P := P) (w := w) (base := base) T
  have O_Task_ways_from := ok_Task_ways_from (P := P) (w := w) (base := base) T
  refine T.F_steps.okN sc_steps (fun zcs zL zKc zh => by obtain ⟨task, kind_name, rfl, _⟩ := zh; rfl) fun zcdv zA zout zst zH zE zB zcs zL zKc zhr zh => ?_
  obtain ⟨task, kind_name, rfl, rfl, hpre, zk⟩ := zh
  have nd := sc_steps.nd
  have hSL := sizeLine_eq
  have hwf := ways_from_facts hpre.1 kind_name
  show Exs _ _ _ ⟨[some (.fr (eTask task)), some (.fr (D.str kind_name)), none, none], []⟩ _
  refine exs_one (ex_ret (ev_lcM (enc2 := (eT2 D.int D.int)) 199 (fun zc1 : Str × Int => ((m_Task_kind_number task zc1.1), zc1.2)) _ rfl nd (blkOk_by (N := ["task", "kind_name", "target", "distance"]) (sc := defScope s_steps) (own := [(("target" : Str), 2), (("distance" : Str), 3)]) (by decide +kernel)) (src_listT (ev_meth (c := "Task") (fs := fTask task) (ds := [D.str kind_name]) T.q_Task T.cl_Task T.me_Task_ways_from rfl O_Task_ways_from (zhr.mono (by decide)) T.b_Task_ways_from (ev_var 0 rfl (.inr (.inl rfl)) rfl) (ea_cons (ev_var 1 rfl (.inl rfl) rfl) ea_nil) (fun _ zkk => ⟨task, kind_name, rfl, rfl, (by walk_at "pre"), zkk⟩))) (by simp [names]) (by decide) (by walk_at "sd") (fun _ zc1 _ zhyzc1 _ _ _ _ _ => (eg_tupC rfl (egs_consC (eg_nameC 2 nd rfl (.inl rfl) (by decide) (.inr rfl)) (egs_consC (eg_nameC 3 nd rfl (.inl rfl) (by decide) (.inr rfl)) egs_nilC)))) (fun _ zc1 _ zhyzc1 _ _ _ _ _ => (ev_tup (ds := [D.int (m_Task_kind_number task zc1.1), D.int zc1.2]) (ea_cons (ev_meth (c := "Task") (fs := fTask task) (ds := [D.str zc1.1]) T.q_Task T.cl_Task T.me_Task_kind_number rfl O_Task_kind_number (zhr.mono (by decide)) T.b_Task_kind_number (ev_var 0 rfl (.inr (.inl rfl)) rfl) (ea_cons (ev_var 2 rfl (.inl rfl) rfl) ea_nil) (fun _ zkk => ⟨task, zc1.1, rfl, rfl, (by walk_at "pre"), zkk⟩)) (ea_cons (ev_var 3 rfl (.inl rfl) rfl) ea_nil)) (by simp only [List.length_cons, List.length_nil]; decide)))) ?_)
  have efin : m_steps task kind_name = ((m_Task_ways_from task kind_name).map (fun zc1 : Str × Int => ((m_Task_kind_number task zc1.1), zc1.2))) := by simp only [m_steps, not_true_eq_false, not_false_eq_true, ↓reduceIte]
  rw [efin] at zk
  exact zk _
def m_best_step_l0 (found : List (List Int)) (length : Int) (zs0 : Int × (Option (Int × Int))) (zy0 : Int × Int) : Int × (Option (Int × Int)) :=
  if ((zy0.2 ≤ length) ∧ (zs0.1 < ((found.getD ((length - zy0.2)).toNat default).getD (zy0.1).toNat default))) then let best : Int := ((found.getD ((length - zy0.2)).toNat default).getD (zy0.1).toNat default)
  (best, (some zy0)) else (zs0.1, zs0.2)
def m_best_step (steps : List (Int × Int)) (found : List (List Int)) (length : Int) : Int × (Option (Int × Int)) :=
  let best_step1 : Option (Int × Int) := (none : Option (Int × Int))
  ((steps.foldl (m_best_step_l0 found length) ((0 : Int), best_step1)).1, (steps.foldl (m_best_step_l0 found length) ((0 : Int), best_step1)).2)
set_option hygiene false in
local macro_rules | `(tactic| walk_at "sd") => `(tactic| first | (have hfl := hfl (by omega); omega) | fail)
theorem sc_best_step : FnScope ["steps", "found", "length", "best", "best_step", "step", "target", "distance"] ["steps", "found", "length"] (defScope s_best_step) := ⟨rfl, rfl, rfl, by decide +kernel, rfl, by decide +kernel, by decide +kernel⟩
def sp_best_step : SpN := fun zcs zL zKc => ∃ steps : List (Int × Int), ∃ found : List (List Int), ∃ length : Int, zcs = [.fr ((eL (eT2 D.int D.int)) steps), .fr ((eL (eL D.int)) found), .fr (D.int length)] ∧ zL = [] ∧ (∃ w : Nat, (∀ s ∈ steps, 0 ≤ s.1 ∧ s.1 < (w : Int) ∧ 1 ≤ s.2) ∧ (∀ r ∈ found, r.length = w) ∧ (found.length : Int) = length) ∧ ∀ zL', zKc (.fr ((eT2 D.int (eO (eT2 D.int D.int))) (m_best_step steps found length))) zL'
theorem ok_best_step (T : TX K mg) : FnOk P w K mg base CX0 1 T.a_best_step T.d_best_step ["steps", "found", "length"] (SpOf K mg sp_best_step) := by
  refine T.F_best_step.okN sc_best_step (fun zcs zL zKc zh => by obtain ⟨steps, found, length, rfl, _⟩ := zh; rfl) fun zcdv zA zout zst zH zE zB zcs zL zKc zhr zh => ?_
  obtain ⟨steps, found, length, rfl, rfl, hpre, zk⟩ := zh
  have nd := sc_best_step.nd
  have hSL := sizeLine_eq
  obtain ⟨w0, hps, hpf, hpl⟩ := hpre
  show Exs _ _ _ ⟨[some (.fr ((eL (eT2 D.int D.int)) steps)), some (.fr ((eL (eL D.int)) found)), some (.fr (D.int length)), none, none, none, none, none], []⟩ _
  refine exs_cons (ex_set 3 ev_int ?_ nd rfl (.inl rfl))
  show Exs _ _ _ ⟨[some (.fr ((eL (eT2 D.int D.int)) steps)), some (.fr ((eL (eL D.int)) found)), some (.fr (D.int length)), some (.fr (D.int (0 : Int))), none, none, none, none], []⟩ _
  refine exs_cons (ex_set 4 ev_non ?_ nd rfl (.inl rfl))
  show Exs _ _ _ ⟨[some (.fr ((eL (eT2 D.int D.int)) steps)), some (.fr ((eL (eL D.int)) found)), some (.fr (D.int length)), some (.fr (D.int (0 : Int))), some (.fr ((eO (eT2 D.int D.int)) (none : Option (Int × Int)))), none, none, none], []⟩ _
  generalize zg_best_step : (none : Option (Int × Int)) = best_step
  show Exs _ _ _ ⟨[some (.fr ((eL (eT2 D.int D.int)) steps)), some (.fr ((eL (eL D.int)) found)), some (.fr (D.int length)), some (.fr (D.int (0 : Int))), some (.fr ((eO (eT2 D.int D.int)) best_step)), none, none, none], []⟩ _
  refine exs_cons (ex_forF (enc := (eT2 D.int D.int)) (fun (zs0 : Int × (Option (Int × Int))) => (⟨[some (.fr ((eL (eT2 D.int D.int)) steps)), some (.fr ((eL (eL D.int)) found)), some (.fr (D.int length)), some (.fr (D.int zs0.1)), some (.fr ((eO (eT2 D.int D.int)) zs0.2)), none, none, none], []⟩ : Nz.S)) (m_best_step_l0 found length) ((0 : Int), best_step) (fun (zi0 : Nat) (zs0 : Int × (Option (Int × Int))) => True) (src_listT (ev_var 0 rfl (.inl rfl) rfl)) ⟨⟨.inr rfl, .inr rfl, .inr rfl, .inr rfl, .inr rfl, .inl rfl, .inl rfl, .inl rfl, trivial⟩, rfl⟩ trivial ?_ ?_ PassesOwn.never rfl)
  · intro zi0 zy0 zs0 zhy0 zq0
    skip
    have hst := hps zy0 (List.mem_of_getElem? zhy0)
    have hfl : zy0.2 ≤ length → (found.getD (length - zy0.2).toNat default).length = w0 := fun hq => hpf _ (getD_mem (by omega))
    refine ⟨⟨[some (.fr ((eL (eT2 D.int D.int)) steps)), some (.fr ((eL (eL D.int)) found)), some (.fr (D.int length)), some (.fr (D.int zs0.1)), some (.fr ((eO (eT2 D.int D.int)) zs0.2)), some (.fr ((eT2 D.int D.int) zy0)), none, none], []⟩, (eg_name 5 nd rfl (.inl rfl)), ?_⟩
    refine exs_cons (ex_asg (ev_var 5 rfl (.inl rfl) rfl) (eg_tup rfl (egs_cons (eg_name 6 nd rfl (.inl rfl)) (egs_cons (eg_name 7 nd rfl (.inl rfl)) egs_nil))) ?_)
    show Exs _ _ _ ⟨[some (.fr ((eL (eT2 D.int D.int)) steps)), some (.fr ((eL (eL D.int)) found)), some (.fr (D.int length)), some (.fr (D.int zs0.1)), some (.fr ((eO (eT2 D.int D.int)) zs0.2)), some (.fr ((eT2 D.int D.int) zy0)), some (.fr (D.int zy0.1)), some (.fr (D.int zy0.2))], []⟩ _
    refine exs_one (ex_ifP (bd_and bd_d bd_d) (Ew.et (ew_andP bd_d (et_cmp o_le (ev_var 7 rfl (.inl rfl) rfl) (ev_var 2 rfl (.inl rfl) rfl) (nomark _)) (fun zhp => (ew_and1 (et_cmp o_gt (ev_ix (ix_L (xs := (found.getD ((length - zy0.2)).toNat default)) (enc := D.int) (by exact rfl) (by walk_at "sd") (by walk_at "sd")) (ev_ix (ix_L (xs := found) (enc := (eL D.int)) (by exact rfl) (by walk_at "sd") (by walk_at "sd")) (ev_var 1 rfl (.inl rfl) rfl) (ev_bin o_sub (ev_var 2 rfl (.inl rfl) rfl) (ev_var 7 rfl (.inl rfl) rfl))) (ev_var 6 rfl (.inl rfl) rfl)) (ev_var 3 rfl (.inl rfl) rfl) (nomark _)))))) (fun (zh1 : ((zy0.2 ≤ length) ∧ (zs0.1 < ((found.getD ((length - zy0.2)).toNat default).getD (zy0.1).toNat default)))) => ?_) (fun (zh1 : ¬ ((zy0.2 ≤ length) ∧ (zs0.1 < ((found.getD ((length - zy0.2)).toNat default).getD (zy0.1).toNat default)))) => ?_))
    · skip
      refine exs_cons (ex_set 3 (ev_ix (ix_L (xs := (found.getD ((length - zy0.2)).toNat default)) (enc := D.int) (by exact rfl) (by walk_at "sd") (by walk_at "sd")) (ev_ix (ix_L (xs := found) (enc := (eL D.int)) (by exact rfl) (by walk_at "sd") (by walk_at "sd")) (ev_var 1 rfl (.inl rfl) rfl) (ev_bin o_sub (ev_var 2 rfl (.inl rfl) rfl) (ev_var 7 rfl (.inl rfl) rfl))) (ev_var 6 rfl (.inl rfl) rfl)) ?_ nd rfl (.inl rfl))
      show Exs _ _ _ ⟨[some (.fr ((eL (eT2 D.int D.int)) steps)), some (.fr ((eL (eL D.int)) found)), some (.fr (D.int length)), some (.fr (D.int ((found.getD ((length - zy0.2)).toNat default).getD (zy0.1).toNat default))), some (.fr ((eO (eT2 D.int D.int)) zs0.2)), some (.fr ((eT2 D.int D.int) zy0)), some (.fr (D.int zy0.1)), some (.fr (D.int zy0.2))], []⟩ _
      generalize zg_best : ((found.getD ((length - zy0.2)).toNat default).getD (zy0.1).toNat default) = best
      show Exs _ _ _ ⟨[some (.fr ((eL (eT2 D.int D.int)) steps)), some (.fr ((eL (eL D.int)) found)), some (.fr (D.int length)), some (.fr (D.int best)), some (.fr ((eO (eT2 D.int D.int)) zs0.2)), some (.fr ((eT2 D.int D.int) zy0)), some (.fr (D.int zy0.1)), some (.fr (D.int zy0.2))], []⟩ _
      refine exs_one (ex_set 4 (ev_var 5 rfl (.inl rfl) rfl) ?_ nd rfl (.inl rfl))
      have est : (m_best_step_l0 found length) zs0 zy0 = (best, (some zy0)) := by subst zg_best; simp only [m_best_step_l0, not_true_eq_false, not_false_eq_true, ↓reduceIte, ↓if_pos zh1]
      show Le _ _ ∧ _
      try rw [est]
      exact ⟨⟨⟨.inr rfl, .inr rfl, .inr rfl, .inr rfl, .inr rfl, .inl rfl, .inl rfl, .inl rfl, trivial⟩, rfl⟩, trivial⟩
    · skip
      refine exs_nil ?_
      have est : (m_best_step_l0 found length) zs0 zy0 = (zs0.1, zs0.2) := by simp only [m_best_step_l0, not_true_eq_false, not_false_eq_true, ↓reduceIte, ↓if_neg zh1]
      show Le _ _ ∧ _
      try rw [est]
      exact ⟨⟨⟨.inr rfl, .inr rfl, .inr rfl, .inr rfl, .inr rfl, .inl rfl, .inl rfl, .inl rfl, trivial⟩, rfl⟩, trivial⟩
  · intro zq0
    show Exs _ _ _ ⟨[some (.fr ((eL (eT2 D.int D.int)) steps)), some (.fr ((eL (eL D.int)) found)), some (.fr (D.int length)), some (.fr (D.int ((steps.foldl (m_best_step_l0 found length) ((0 : Int), best_step)).1))), some (.fr ((eO (eT2 D.int D.int)) ((steps.foldl (m_best_step_l0 found length) ((0 : Int), best_step)).2))), none, none, none], []⟩ _
    refine exs_one (ex_ret (ev_tup (ds := [D.int ((steps.foldl (m_best_step_l0 found length) ((0 : Int), best_step)).1), (eO (eT2 D.int D.int)) ((steps.foldl (m_best_step_l0 found length) ((0 : Int), best_step)).2)]) (ea_cons (ev_var 3 rfl (.inl rfl) rfl) (ea_cons (ev_var 4 rfl (.inl rfl) rfl) ea_nil)) (by simp only [List.length_cons, List.length_nil]; decide)) ?_)
    have efin : m_best_step steps found length = ((steps.foldl (m_best_step_l0 found length) ((0 : Int), best_step)).1, (steps.foldl (m_best_step_l0 found length) ((0 : Int), best_step)).2) := by subst zg_best_step; simp only [m_best_step, not_true_eq_false, not_false_eq_true, ↓reduceIte]
    rw [efin] at zk
    exact zk _
def m_rows_l1 (found : List (List Int)) (window : Int) (zs1 : (List Int)) (zy1 : Int × Int × (List (Int × Int))) : (List Int) :=
  (zs1 ++ [(if (zy1.2.1 ≤ window) then ((m_best_step zy1.2.2 found window).1 + zy1.1) else (m_best_step zy1.2.2 found window).1)])
def m_rows_l0 (kinds : List (Int × Int × (List (Int × Int)))) (zs0 : (List (List Int))) (zy0 : Nat) : (List (List Int)) :=
  (zs0 ++ [(kinds.foldl (m_rows_l1 zs0 ((0 : Int) + (zy0 : Int))) ([] : List Int))])
def m_rows (task : Task) (length : Int) : List (List Int) :=
  let kinds1 : List (Int × Int × (List (Int × Int))) := (task.kinds.map (fun zc2 : Str × Int × Int => (zc2.2.1, zc2.2.2, (m_steps task zc2.1))))
  ((List.range ((length + (1 : Int))).toNat).foldl (m_rows_l0 kinds1) ([] : List (List Int)))
set_option hygiene false in
local macro_rules | `(tactic| walk_at "pre") => `(tactic| first | exact ⟨hpre.1, List.mem_map.mpr ⟨_, List.mem_of_getElem? (by assumption), rfl⟩⟩ | exact ⟨task.kinds.length, hks1, zqb, by omega⟩ | fail)
theorem row_len (found : List (List Int)) (w : Int) : ∀ (ks : List (Int × Int × List (Int × Int))) (s : List Int), (ks.foldl (m_rows_l1 found w) s).length = s.length + ks.length
  | [], s => rfl
  | k :: ks, s => by
    rw [List.foldl_cons, row_len found w ks]
    have : (m_rows_l1 found w s k).length = s.length + 1 := by unfold m_rows_l1; simp
    rw [this, List.length_cons]; omega
theorem rows_len_aux (ks : List (Int × Int × List (Int × Int))) : ∀ (ys : List Nat) (s : List (List Int)), (∀ r ∈ s, r.length = ks.length) → (ys.foldl (m_rows_l0 ks) s).length = s.length + ys.length ∧ ∀ r ∈ ys.foldl (m_rows_l0 ks) s, r.length = ks.length
  | [], s, h => ⟨rfl, h⟩
  | y :: ys, s, h => by
    rw [List.foldl_cons]
    have h1 : (m_rows_l0 ks s y).length = s.length + 1 ∧ ∀ r ∈ m_rows_l0 ks s y, r.length = ks.length := by
      unfold m_rows_l0
      refine ⟨by simp, fun r hr => ?_⟩
      rcases List.mem_append.mp hr with q | q
      · exact h r q
      · rw [List.mem_singleton.mp q, row_len]; simp
    obtain ⟨a, b⟩ := rows_len_aux ks ys _ h1.2
    exact ⟨by rw [a, h1.1, List.length_cons]; omega, b⟩
theorem rows_len {t : Task} {n : Int} (h0 : 0 ≤ n) : (m_rows t n).length = n.toNat + 1 ∧ ∀ r ∈ m_rows t n, r.length = t.kinds.length := by
  unfold m_rows
  dsimp only
  have := rows_len_aux (t.kinds.map (fun zc : Str × Int × Int => (zc.2.1, zc.2.2, m_steps t zc.1))) (List.range (n + 1).toNat) [] (fun _ h => absurd h (by simp))
  rw [List.length_map] at this
  exact ⟨by rw [this.1, List.length_range, List.length_nil]; omega, this.2⟩
theorem rows_ne {t : Task} (h : t.ok) {n : Int} (h0 : 0 ≤ n) : (m_rows t n).getD n.toNat default ≠ [] := by
  obtain ⟨h1, h2⟩ := rows_len (t := t) h0
  have h3 := h2 _ (getD_mem (i := n.toNat) (by omega))
  have h4 := h.k1
  intro q
  rw [q, List.length_nil] at h3; omega
theorem sc_rows : FnScope ["task", "length", "kinds", "found", "window", "row", "cost", "deadline", "steps", "number", "_", "name"] ["task", "length"] (defScope s_rows) := ⟨rfl, rfl, rfl, by decide +kernel, rfl, by decide +kernel, by decide +kernel⟩
def sp_rows : SpN := fun zcs zL zKc => ∃ task : Task, ∃ length : Int, zcs = [.fr (eTask task), .fr (D.int length)] ∧ zL = [] ∧ (task.ok ∧ 0 ≤ length ∧ length ≤ 100000) ∧ ∀ zL', zKc (.fr ((eL (eL D.int)) (m_rows task length))) zL'
theorem ok_rows (T : TX K mg) : FnOk P w K mg base CX0 5 T.a_rows T.d_rows ["task", "length"] (SpOf K mg sp_rows) := by
  have O_best_step := ok_best_step (P := P) (w := w) (base := base) T
  have O_steps := ok_steps (P := P) (w := w) (base := base) T
  refine T.F_rows.okN sc_rows (fun zcs zL zKc zh => by obtain ⟨task, length, rfl, _⟩ := zh; rfl) fun zcdv zA zout zst zH zE zB zcs zL zKc zhr zh => ?_
  obtain ⟨task, length, rfl, rfl, hpre, zk⟩ := zh
  have nd := sc_rows.nd
  have hSL := sizeLine_eq
  have hk1 := hpre.1.k1
  show Exs _ _ _ ⟨[some (.fr (eTask task)), some (.fr (D.int length)), none, none, none, none, none, none, none, none, none, none], []⟩ _
  refine exs_cons (ex_setLcM 2 (enc2 := (eT3 D.int D.int (eL (eT2 D.int D.int)))) 199 (fun zc1 : Str × Int × Int => (zc1.2.1, zc1.2.2, (m_steps task zc1.1))) _ rfl nd rfl rfl (sw_true rfl rfl rfl (by decide +kernel)) (blkOk_by (N := ["task", "length", "kinds", "found", "window", "row", "cost", "deadline", "steps", "number", "_", "name"]) (sc := defScope s_rows) (own := [(("name" : Str), 11), (("cost" : Str), 6), (("deadline" : Str), 7)]) (by decide +kernel)) (src_tupT (ev_fld (c := "Task") (fs := fTask task) T.q_Task T.cl_Task T.na_Task_kinds rfl (ev_var 0 rfl (.inr (.inl rfl)) rfl))) (by simp [names]) (by decide) (by walk_at "sd") (fun _ zc1 _ zhyzc1 _ _ _ _ _ => (eg_tupC rfl (egs_consC (eg_nameC 11 nd rfl (.inl rfl) (by decide) (.inr rfl)) (egs_consC (eg_nameC 6 nd rfl (.inl rfl) (by decide) (.inr rfl)) (egs_consC (eg_nameC 7 nd rfl (.inl rfl) (by decide) (.inr rfl)) egs_nilC))))) (fun _ zc1 _ zhyzc1 _ _ _ _ _ => (ev_tup (ds := [D.int zc1.2.1, D.int zc1.2.2, (eL (eT2 D.int D.int)) (m_steps task zc1.1)]) (ea_cons (ev_var 6 rfl (.inl rfl) rfl) (ea_cons (ev_var 7 rfl (.inl rfl) rfl) (ea_cons (ev_call (ds := [eTask task, D.str zc1.1]) (ds' := []) (dvs := []) (dfs := []) O_steps (zhr.mono (by decide)) T.m_steps T.k_steps T.b_steps .nil (fun _ => .nil) (ea_cons (ev_var 0 rfl (.inr (.inl rfl)) rfl) (ea_cons (ev_var 11 rfl (.inl rfl) rfl) ea_nil)) (fun _ zkk => ⟨task, zc1.1, rfl, rfl, (by walk_at "pre"), zkk⟩) (by exact rfl)) ea_nil))) (by simp only [List.length_cons, List.length_nil]; decide))) ?_)
  show Exs _ _ _ ⟨[some (.fr (eTask task)), some (.fr (D.int length)), some (.fr ((eL (eT3 D.int D.int (eL (eT2 D.int D.int)))) (task.kinds.map (fun zc1 : Str × Int × Int => (zc1.2.1, zc1.2.2, (m_steps task zc1.1)))))), none, none, none, none, none, none, none, none, none], []⟩ _
  generalize zg_kinds : (task.kinds.map (fun zc1 : Str × Int × Int => (zc1.2.1, zc1.2.2, (m_steps task zc1.1)))) = kinds
  show Exs _ _ _ ⟨[some (.fr (eTask task)), some (.fr (D.int length)), some (.fr ((eL (eT3 D.int D.int (eL (eT2 D.int D.int)))) kinds)), none, none, none, none, none, none, none, none, none], []⟩ _
  have hkk : kinds.length = task.kinds.length ∧ ∀ k ∈ kinds, ∀ s ∈ k.2.2, 0 ≤ s.1 ∧ s.1 < (task.kinds.length : Int) ∧ 1 ≤ s.2 := by
    rw [← zg_kinds]
    refine ⟨List.length_map _, fun k hk => ?_⟩
    obtain ⟨x, hx, rfl⟩ := List.mem_map.mp hk
    exact fun s hs => by have := steps_facts hpre.1 x.1 s hs; omega
  refine exs_cons (ex_set 3 (ev_lstN 100 (enc := (eL D.int)) ([] : List (List Int)) ea_nil rfl (by simp only [List.length_cons, List.length_nil]; decide) (by simp [names]) (by decide)) ?_ nd rfl (.inl rfl))
  show Exs _ _ _ ⟨[some (.fr (eTask task)), some (.fr (D.int length)), some (.fr ((eL (eT3 D.int D.int (eL (eT2 D.int D.int)))) kinds)), some (.ad 100), none, none, none, none, none, none, none, none], [(100, .fl ((([] : List (List Int))).map (eL D.int)))]⟩ _
  refine exs_cons (ex_forF (enc := (fun i : Nat => D.int ((0 : Int) + (i : Int)))) (fun (zs0 : (List (List Int))) => (⟨[some (.fr (eTask task)), some (.fr (D.int length)), some (.fr ((eL (eT3 D.int D.int (eL (eT2 D.int D.int)))) kinds)), some (.ad 100), none, none, none, none, none, none, none, none], [(100, .fl ((zs0).map (eL D.int)))]⟩ : Nz.S)) (m_rows_l0 kinds) ([] : List (List Int)) (fun (zi0 : Nat) (zs0 : (List (List Int))) => zs0.length = zi0 ∧ ∀ r ∈ zs0, r.length = task.kinds.length) (src_range1 (ea_cons (ev_bin o_add (ev_var 1 rfl (.inl rfl) rfl) ev_int) ea_nil) (by exact rfl) T.n_range (by walk_at "sd") (by walk_at "sd")) ⟨⟨.inr rfl, .inr rfl, .inr rfl, .inr rfl, .inl rfl, .inl rfl, .inl rfl, .inl rfl, .inl rfl, .inl rfl, .inl rfl, .inl rfl, trivial⟩, rfl⟩ ⟨by simp, fun _ h => absurd h (by simp)⟩ ?_ ?_ PassesOwn.never rfl)
  · intro zi0 zy0 zs0 zhy0 zq0
    skip
    have hy0 := seq_range zhy0
    have hi := (List.getElem?_eq_some_iff.mp zhy0).1
    simp only [List.length_range] at hi
    obtain ⟨zqa, zqb⟩ := zq0
    refine ⟨⟨[some (.fr (eTask task)), some (.fr (D.int length)), some (.fr ((eL (eT3 D.int D.int (eL (eT2 D.int D.int)))) kinds)), some (.ad 100), some (.fr (D.int ((0 : Int) + (zy0 : Int)))), none, none, none, none, none, none, none], [(100, .fl ((zs0).map (eL D.int)))]⟩, (eg_name 4 nd rfl (.inl rfl)), ?_⟩
    refine exs_cons (ex_set 5 (ev_lstN 101 (enc := D.int) ([] : List Int) ea_nil rfl (by simp only [List.length_cons, List.length_nil]; decide) (by simp [names]) (by decide)) ?_ nd rfl (.inl rfl))
    show Exs _ _ _ ⟨[some (.fr (eTask task)), some (.fr (D.int length)), some (.fr ((eL (eT3 D.int D.int (eL (eT2 D.int D.int)))) kinds)), some (.ad 100), some (.fr (D.int ((0 : Int) + (zy0 : Int)))), some (.ad 101), none, none, none, none, none, none], [(100, .fl ((zs0).map (eL D.int))), (101, .fl ((([] : List Int)).map D.int))]⟩ _
    refine exs_cons (ex_forF (enc := (eT3 D.int D.int (eL (eT2 D.int D.int)))) (fun (zs1 : (List Int)) => (⟨[some (.fr (eTask task)), some (.fr (D.int length)), some (.fr ((eL (eT3 D.int D.int (eL (eT2 D.int D.int)))) kinds)), some (.ad 100), some (.fr (D.int ((0 : Int) + (zy0 : Int)))), some (.ad 101), none, none, none, none, none, none], [(100, .fl ((zs0).map (eL D.int))), (101, .fl ((zs1).map D.int))]⟩ : Nz.S)) (m_rows_l1 zs0 ((0 : Int) + (zy0 : Int))) ([] : List Int) (fun (zi1 : Nat) (zs1 : (List Int)) => zs1.length = zi1) (src_listT (ev_var 2 rfl (.inl rfl) rfl)) ⟨⟨.inr rfl, .inr rfl, .inr rfl, .inr rfl, .inr rfl, .inr rfl, .inl rfl, .inl rfl, .inl rfl, .inl rfl, .inl rfl, .inl rfl, trivial⟩, rfl⟩ (by simp) ?_ ?_ PassesOwn.never rfl)
    · intro zi1 zy1 zs1 zhy1 zq1
      skip
      have hi1 := (List.getElem?_eq_some_iff.mp zhy1).1
      have hks1 := hkk.2 zy1 (List.mem_of_getElem? zhy1)
      refine ⟨⟨[some (.fr (eTask task)), some (.fr (D.int length)), some (.fr ((eL (eT3 D.int D.int (eL (eT2 D.int D.int)))) kinds)), some (.ad 100), some (.fr (D.int ((0 : Int) + (zy0 : Int)))), some (.ad 101), some (.fr (D.int zy1.1)), some (.fr (D.int zy1.2.1)), some (.fr ((eL (eT2 D.int D.int)) zy1.2.2)), none, none, none], [(100, .fl ((zs0).map (eL D.int))), (101, .fl ((zs1).map D.int))]⟩, (eg_tup rfl (egs_cons (eg_name 6 nd rfl (.inl rfl)) (egs_cons (eg_name 7 nd rfl (.inl rfl)) (egs_cons (eg_name 8 nd rfl (.inl rfl)) egs_nil)))), ?_⟩
      refine exs_cons (ex_asg (ev_callBo (cs := [(.fr ((eL (eT2 D.int D.int)) zy1.2.2)), (.ad 100), (.fr (D.int ((0 : Int) + (zy0 : Int))))]) (ds := [(eL (eT2 D.int D.int)) zy1.2.2, (eL (eL D.int)) zs0, D.int ((0 : Int) + (zy0 : Int))]) O_best_step (zhr.mono (by decide)) T.m_best_step T.k_best_step T.b_best_step (ea_cons (ev_var 8 rfl (.inl rfl) rfl) (ea_cons (ev_var 3 rfl (.inl rfl) rfl) (ea_cons (ev_var 4 rfl (.inl rfl) rfl) ea_nil))) (by exact rfl) ((nl_T2 nl_int (nl_O (nl_T2 nl_int nl_int))).ok _) (fun _ zkk => ⟨zy1.2.2, zs0, ((0 : Int) + (zy0 : Int)), rfl, rfl, (by walk_at "pre"), zkk⟩) (by exact rfl)) (eg_tup rfl (egs_cons (eg_name 9 nd rfl (.inl rfl)) (egs_cons (eg_name 10 nd rfl (.inl rfl)) egs_nil))) ?_)
      show Exs _ _ _ ⟨[some (.fr (eTask task)), some (.fr (D.int length)), some (.fr ((eL (eT3 D.int D.int (eL (eT2 D.int D.int)))) kinds)), some (.ad 100), some (.fr (D.int ((0 : Int) + (zy0 : Int)))), some (.ad 101), some (.fr (D.int zy1.1)), some (.fr (D.int zy1.2.1)), some (.fr ((eL (eT2 D.int D.int)) zy1.2.2)), some (.fr (D.int ((m_best_step zy1.2.2 zs0 ((0 : Int) + (zy0 : Int))).1))), some (.fr ((eO (eT2 D.int D.int)) ((m_best_step zy1.2.2 zs0 ((0 : Int) + (zy0 : Int))).2))), none], [(100, .fl ((zs0).map (eL D.int))), (101, .fl ((zs1).map D.int))]⟩ _
      refine exs_one (ex_expr (ev_appendT (n := 101) (enc := D.int) (xs := zs1) (xs0 := zs1) (if (zy1.2.1 ≤ ((0 : Int) + (zy0 : Int))) then ((m_best_step zy1.2.2 zs0 ((0 : Int) + (zy0 : Int))).1 + zy1.1) else (m_best_step zy1.2.2 zs0 ((0 : Int) + (zy0 : Int))).1) rfl rfl rfl (by walk_at "sd") (ev_var 5 rfl (.inl rfl) rfl) (ev_ifP (enc := D.int) (x := ((m_best_step zy1.2.2 zs0 ((0 : Int) + (zy0 : Int))).1 + zy1.1)) (y := (m_best_step zy1.2.2 zs0 ((0 : Int) + (zy0 : Int))).1) bd_d (et_cmp o_le (ev_var 7 rfl (.inl rfl) rfl) (ev_var 4 rfl (.inl rfl) rfl) (nomark _)) (fun zhp => (ev_bin o_add (ev_var 9 rfl (.inl rfl) rfl) (ev_var 6 rfl (.inl rfl) rfl))) (fun zhp => (ev_var 9 rfl (.inl rfl) rfl)))) ?_)
      have est : (m_rows_l1 zs0 ((0 : Int) + (zy0 : Int))) zs1 zy1 = (zs1 ++ [(if (zy1.2.1 ≤ ((0 : Int) + (zy0 : Int))) then ((m_best_step zy1.2.2 zs0 ((0 : Int) + (zy0 : Int))).1 + zy1.1) else (m_best_step zy1.2.2 zs0 ((0 : Int) + (zy0 : Int))).1)]) := by simp only [m_rows_l1, not_true_eq_false, not_false_eq_true, ↓reduceIte]
      show Le _ _ ∧ _
      try rw [est]
      exact ⟨⟨⟨.inr rfl, .inr rfl, .inr rfl, .inr rfl, .inr rfl, .inr rfl, .inl rfl, .inl rfl, .inl rfl, .inl rfl, .inl rfl, .inl rfl, trivial⟩, rfl⟩, (by simp; omega)⟩
    · intro zq1
      show Exs _ _ _ ⟨[some (.fr (eTask task)), some (.fr (D.int length)), some (.fr ((eL (eT3 D.int D.int (eL (eT2 D.int D.int)))) kinds)), some (.ad 100), some (.fr (D.int ((0 : Int) + (zy0 : Int)))), some (.ad 101), none, none, none, none, none, none], [(100, .fl ((zs0).map (eL D.int))), (101, .fl (((kinds.foldl (m_rows_l1 zs0 ((0 : Int) + (zy0 : Int))) ([] : List Int))).map D.int))]⟩ _
      refine exs_freezeT 101 (xs := (kinds.foldl (m_rows_l1 zs0 ((0 : Int) + (zy0 : Int))) ([] : List Int))) (enc := D.int) (by exact rfl) ?_
      show Exs _ _ _ ⟨[some (.fr (eTask task)), some (.fr (D.int length)), some (.fr ((eL (eT3 D.int D.int (eL (eT2 D.int D.int)))) kinds)), some (.ad 100), some (.fr (D.int ((0 : Int) + (zy0 : Int)))), some (.fr ((eL D.int) (kinds.foldl (m_rows_l1 zs0 ((0 : Int) + (zy0 : Int))) ([] : List Int)))), none, none, none, none, none, none], [(100, .fl ((zs0).map (eL D.int)))]⟩ _
      refine exs_one (ex_expr (ev_appendT (n := 100) (enc := (eL D.int)) (xs := zs0) (xs0 := zs0) (kinds.foldl (m_rows_l1 zs0 ((0 : Int) + (zy0 : Int))) ([] : List Int)) rfl rfl rfl (by walk_at "sd") (ev_var 3 rfl (.inl rfl) rfl) (ev_var 5 rfl (.inl rfl) rfl)) ?_)
      have est : (m_rows_l0 kinds) zs0 zy0 = (zs0 ++ [(kinds.foldl (m_rows_l1 zs0 ((0 : Int) + (zy0 : Int))) ([] : List Int))]) := by simp only [m_rows_l0, not_true_eq_false, not_false_eq_true, ↓reduceIte]
      show Le _ _ ∧ _
      try rw [est]
      exact ⟨⟨⟨.inr rfl, .inr rfl, .inr rfl, .inr rfl, .inl rfl, .inl rfl, .inl rfl, .inl rfl, .inl rfl, .inl rfl, .inl rfl, .inl rfl, trivial⟩, rfl⟩, ⟨by simp; omega, fun r hr => by rcases List.mem_append.mp hr with q | q; exact zqb r q; rw [List.mem_singleton.mp q]; omega⟩⟩
  · intro zq0
    show Exs _ _ _ ⟨[some (.fr (eTask task)), some (.fr (D.int length)), some (.fr ((eL (eT3 D.int D.int (eL (eT2 D.int D.int)))) kinds)), some (.ad 100), none, none, none, none, none, none, none, none], [(100, .fl ((((List.range ((length + (1 : Int))).toNat).foldl (m_rows_l0 kinds) ([] : List (List Int)))).map (eL D.int)))]⟩ _
    refine exs_freezeT 100 (xs := ((List.range ((length + (1 : Int))).toNat).foldl (m_rows_l0 kinds) ([] : List (List Int)))) (enc := (eL D.int)) (by exact rfl) ?_
    show Exs _ _ _ ⟨[some (.fr (eTask task)), some (.fr (D.int length)), some (.fr ((eL (eT3 D.int D.int (eL (eT2 D.int D.int)))) kinds)), some (.fr ((eL (eL D.int)) ((List.range ((length + (1 : Int))).toNat).foldl (m_rows_l0 kinds) ([] : List (List Int))))), none, none, none, none, none, none, none, none], []⟩ _
    refine exs_one (ex_ret (ev_var 3 rfl (.inl rfl) rfl) ?_)
    have efin : m_rows task length = ((List.range ((length + (1 : Int))).toNat).foldl (m_rows_l0 kinds) ([] : List (List Int))) := by subst zg_kinds; simp only [m_rows, not_true_eq_false, not_false_eq_true, ↓reduceIte]
    rw [efin] at zk
    exact zk _
def m_is_table (capacities : List Int) : Bool :=
  if (¬ (((1 : Int) ≤ (capacities.length : Int)) ∧ ((capacities.length : Int) ≤ (1001 : Int)))) then false else ((capacities.map (fun zc2 : Int => (m_is_integer zc2 (0 : Int) (1000000 : Int)))).all fun b => b)
theorem sc_is_table : FnScope ["capacities", "units"] ["capacities"] (defScope s_is_table) := ⟨rfl, rfl, rfl, by decide +kernel, rfl, by decide +kernel, by decide +kernel⟩
def sp_is_table : SpN := fun zcs zL zKc => ∃ capacities : List Int, zcs = [.fr ((eL D.int) capacities)] ∧ zL = [] ∧ (capacities.length ≤ 10000) ∧ ∀ zL', zKc (.fr (D.bl (m_is_table capacities))) zL'
theorem ok_is_table (T : TX K mg) : FnOk P w K mg base CX0 2 T.a_is_table T.d_is_table ["capacities"] (SpOf K mg sp_is_table) := by
  have O_is_integer := ok_is_integer (P := P) (w := w) (base := base) T
  refine T.F_is_table.okN sc_is_table (fun zcs zL zKc zh => by obtain ⟨capacities, rfl, _⟩ := zh; rfl) fun zcdv zA zout zst zH zE zB zcs zL zKc zhr zh => ?_
  obtain ⟨capacities, rfl, rfl, hpre, zk⟩ := zh
  have nd := sc_is_table.nd
  have hSL := sizeLine_eq
  show Exs _ _ _ ⟨[some (.fr ((eL D.int) capacities)), none], []⟩ _
  refine exs_cons (ex_ifP (bd_not (bd_and bd_d bd_d)) (et_not (et_chain bd_d o_le o_le ev_int (ev_len (ln_L (xs := capacities) (enc := D.int) (by exact rfl)) (ev_var 0 rfl (.inl rfl) rfl) (by exact rfl) T.n_len) (fun zhp => (ev_gi rfl T.c_LONGEST_TABLE)))) (fun (zh1 : (¬ (((1 : Int) ≤ (capacities.length : Int)) ∧ ((capacities.length : Int) ≤ (1001 : Int))))) => ?_) (fun (zh1 : ¬ (¬ (((1 : Int) ≤ (capacities.length : Int)) ∧ ((capacities.length : Int) ≤ (1001 : Int))))) => ?_))
  · skip
    refine exs_one (ex_ret ev_bl ?_)
    have efin : m_is_table capacities = false := by first | (simp only [m_is_table, not_true_eq_false, not_false_eq_true, ↓reduceIte, ↓if_pos zh1]; done) | (first | exact absurd rfl zh1)
    rw [efin] at zk
    exact zk _
  · skip
    refine exs_nil ?_
    show Exs _ _ _ ⟨[some (.fr ((eL D.int) capacities)), none], []⟩ _
    refine exs_one (ex_ret (ev_callB (ds := [(eL D.bl) (capacities.map (fun zc1 : Int => (m_is_integer zc1 (0 : Int) (1000000 : Int))))]) (c_all (bs := (capacities.map (fun zc1 : Int => (m_is_integer zc1 (0 : Int) (1000000 : Int))))) rfl) (ea_cons (ev_lcM (enc2 := D.bl) 199 (fun zc1 : Int => (m_is_integer zc1 (0 : Int) (1000000 : Int))) _ rfl nd (blkOk_by (N := ["capacities", "units"]) (sc := defScope s_is_table) (own := [(("units" : Str), 1)]) (by decide +kernel)) (src_listT (ev_var 0 rfl (.inl rfl) rfl)) (by simp [names]) (by decide) (by walk_at "sd") (fun _ zc1 _ zhyzc1 _ _ _ _ _ => (eg_nameC 1 nd rfl (.inl rfl) (by decide) (.inr rfl))) (fun _ zc1 _ zhyzc1 _ _ _ _ _ => (ev_call (ds := [D.int zc1, D.int (0 : Int), D.int (1000000 : Int)]) (ds' := []) (dvs := []) (dfs := []) O_is_integer (zhr.mono (by decide)) T.m_is_integer T.k_is_integer T.b_is_integer .nil (fun _ => .nil) (ea_cons (ev_var 1 rfl (.inl rfl) rfl) (ea_cons ev_int (ea_cons (ev_gi rfl T.c_MOST_CAPACITY) ea_nil))) (fun _ zkk => ⟨zc1, (0 : Int), (1000000 : Int), rfl, rfl, trivial, zkk⟩) (by exact rfl)))) ea_nil) (by exact rfl) T.n_all (by decide +kernel)) ?_)
    have efin : m_is_table capacities = ((capacities.map (fun zc1 : Int => (m_is_integer zc1 (0 : Int) (1000000 : Int)))).all fun b => b) := by simp only [m_is_table, not_true_eq_false, not_false_eq_true, ↓reduceIte, ↓if_neg zh1]
    rw [efin] at zk
    exact zk _
def m_are_task_names (names_ : List Str) : Bool :=
  ((decide ((names_.length : Int) ≤ (6 : Int))) && (m_are_different names_))
theorem sc_are_task_names : FnScope ["names"] ["names"] (defScope s_are_task_names) := ⟨rfl, rfl, rfl, by decide +kernel, rfl, by decide +kernel, by decide +kernel⟩
def sp_are_task_names : SpN := fun zcs zL zKc => ∃ names_ : List Str, zcs = [.fr ((eL D.str) names_)] ∧ zL = [] ∧ (names_.length ≤ 1000) ∧ ∀ zL', zKc (.fr (D.bl (m_are_task_names names_))) zL'
theorem ok_are_task_names (T : TX K mg) : FnOk P w K mg base CX0 2 T.a_are_task_names T.d_are_task_names ["names"] (SpOf K mg sp_are_task_names) := by
  have O_are_different := ok_are_different (P := P) (w := w) (base := base) T
  refine T.F_are_task_names.okN sc_are_task_names (fun zcs zL zKc zh => by obtain ⟨names_, rfl, _⟩ := zh; rfl) fun zcdv zA zout zst zH zE zB zcs zL zKc zhr zh => ?_
  obtain ⟨names_, rfl, rfl, hpre, zk⟩ := zh
  have nd := sc_are_task_names.nd
  have hSL := sizeLine_eq
  show Exs _ _ _ ⟨[some (.fr ((eL D.str) names_))], []⟩ _
  refine exs_one (ex_ret (ev_andP bd_d (ev_cmp o_le (ev_len (ln_L (xs := names_) (enc := D.str) (by exact rfl)) (ev_var 0 rfl (.inl rfl) rfl) (by exact rfl) T.n_len) (ev_gi rfl T.c_MOST_TASKS) (nomark _)) (fun zhp => (ev_one (ev_call (ds := [(eL D.str) names_]) (ds' := []) (dvs := []) (dfs := []) O_are_different (zhr.mono (by decide)) T.m_are_different T.k_are_different T.b_are_different .nil (fun _ => .nil) (ea_cons (ev_var 0 rfl (.inl rfl) rfl) ea_nil) (fun _ zkk => ⟨names_, rfl, rfl, (by walk_at "pre"), zkk⟩) (by exact rfl))))) ?_)
  have efin : m_are_task_names names_ = ((decide ((names_.length : Int) ≤ (6 : Int))) && (m_are_different names_)) := by simp only [m_are_task_names, not_true_eq_false, not_false_eq_true, ↓reduceIte]
  rw [efin] at zk
  exact zk _
def m_System_init__ (tasks : List Task) (table : List Int) : System :=
  if (¬ ((m_is_table table) = true)) then default else if (¬ ((m_are_task_names (tasks.map (fun zc2 : Task => zc2.name))) = true)) then default else ({ tasks := tasks, table := table } : System)
set_option hygiene false in
local macro_rules | `(tactic| walk_at "pre") => `(tactic| first | exact hpre.2.1 | (rw [List.length_map]; exact hpre.1) | fail)
theorem sys_eq {tasks : List Task} {table : List Int} (h1 : m_is_table table = true) (h2 : m_are_task_names (tasks.map fun t => t.name) = true) : m_System_init__ tasks table = { tasks := tasks, table := table } := by
  unfold m_System_init__
  rw [if_neg (fun q => q h1), if_neg (fun q => q h2)]
theorem table_ok_of {xs : List Int} (h1 : 1 ≤ xs.length) (h2 : xs.length ≤ 1001) (h3 : ∀ x ∈ xs, 0 ≤ x ∧ x ≤ 1000000) : m_is_table xs = true := by
  unfold m_is_table
  rw [if_neg (fun q => q ⟨by omega, by omega⟩), List.all_eq_true]
  intro b hb
  obtain ⟨x, hx, rfl⟩ := List.mem_map.mp hb
  unfold m_is_integer
  have := h3 x hx
  rw [decide_eq_true this.1, decide_eq_true this.2]; rfl
theorem sc_System_init__ : FnScope ["self", "tasks", "table", "task"] ["self", "tasks", "table"] (defScope s_System_init__) := ⟨rfl, rfl, rfl, by decide +kernel, rfl, by decide +kernel, by decide +kernel⟩
def sp_System_init__ : SpN := fun zcs zL zKc => ∃ tasks : List Task, ∃ table : List Int, zcs = [.ad 0, .fr ((eL eTask) tasks), .fr ((eL D.int) table)] ∧ zL = [(0, .ins "System" [])] ∧ (tasks.length ≤ 1000 ∧ table.length ≤ 10000 ∧ m_is_table table = true ∧ m_are_task_names (tasks.map fun t => t.name) = true) ∧ zKc (.fr .non) [(0, .ins "System" ((fSystem (m_System_init__ tasks table)).map fun p => (p.1, Ce.fr p.2)))]
theorem ok_System_init__ (T : TX K mg) : FnOk P w K mg base CX0 3 T.a_System_init__ T.d_System_init__ ["self", "tasks", "table"] (SpOf K mg sp_System_init__) := by
  have O_are_task_names := ok_are_task_names (P := P) (w := w) (base := base) T
  have O_is_table := ok_is_table (P := P) (w := w) (base := base) T
  refine T.F_System_init__.okN sc_System_init__ (fun zcs zL zKc zh => by obtain ⟨tasks, table, rfl, _⟩ := zh; rfl) fun zcdv zA zout zst zH zE zB zcs zL zKc zhr zh => ?_
  obtain ⟨tasks, table, rfl, rfl, hpre, zk⟩ := zh
  have nd := sc_System_init__.nd
  have hSL := sizeLine_eq
  show Exs _ _ _ ⟨[some (.ad 0), some (.fr ((eL eTask) tasks)), some (.fr ((eL D.int) table)), none], [(0, .ins "System" [])]⟩ _
  refine exs_cons (ex_ifP (bd_not Iff.rfl) (et_not (et_val (ev_call (ds := [(eL D.int) table]) (ds' := []) (dvs := []) (dfs := []) O_is_table (zhr.mono (by decide)) T.m_is_table T.k_is_table T.b_is_table .nil (fun _ => .nil) (ea_cons (ev_var 2 rfl (.inl rfl) rfl) ea_nil) (fun _ zkk => ⟨table, rfl, rfl, (by walk_at "pre"), zkk⟩) (by exact rfl)))) (fun (zh1 : (¬ ((m_is_table table) = true))) => ?_) (fun (zh1 : ¬ (¬ ((m_is_table table) = true))) => ?_))
  · skip
    first | exact absurd hpre.2.2.1 zh1 | exact absurd hpre.2.2.2 zh2
  · skip
    refine exs_nil ?_
    show Exs _ _ _ ⟨[some (.ad 0), some (.fr ((eL eTask) tasks)), some (.fr ((eL D.int) table)), none], [(0, .ins "System" [])]⟩ _
    refine exs_cons (ex_ifP (bd_not Iff.rfl) (et_not (et_val (ev_call (ds := [(eL D.str) (tasks.map (fun zc1 : Task => zc1.name))]) (ds' := []) (dvs := []) (dfs := []) O_are_task_names (zhr.mono (by decide)) T.m_are_task_names T.k_are_task_names T.b_are_task_names .nil (fun _ => .nil) (ea_cons (ev_lcM (enc2 := D.str) 199 (fun zc1 : Task => zc1.name) _ rfl nd (blkOk_by (N := ["self", "tasks", "table", "task"]) (sc := defScope s_System_init__) (own := [(("task" : Str), 3)]) (by decide +kernel)) (src_listT (ev_var 1 rfl (.inl rfl) rfl)) (by simp [names]) (by decide) (by walk_at "sd") (fun _ zc1 _ zhyzc1 _ _ _ _ _ => (eg_nameC 3 nd rfl (.inl rfl) (by decide) (.inr rfl))) (fun _ zc1 _ zhyzc1 _ _ _ _ _ => (ev_fld (c := "Task") (fs := fTask zc1) T.q_Task T.cl_Task T.na_Task_name rfl (ev_var 3 rfl (.inl rfl) rfl)))) ea_nil) (fun _ zkk => ⟨(tasks.map (fun zc1 : Task => zc1.name)), rfl, rfl, (by walk_at "pre"), zkk⟩) (by exact rfl)))) (fun (zh2 : (¬ ((m_are_task_names (tasks.map (fun zc1 : Task => zc1.name))) = true))) => ?_) (fun (zh2 : ¬ (¬ ((m_are_task_names (tasks.map (fun zc1 : Task => zc1.name))) = true))) => ?_))
    · skip
      first | exact absurd hpre.2.2.1 zh1 | exact absurd hpre.2.2.2 zh2
    · skip
      refine exs_nil ?_
      show Exs _ _ _ ⟨[some (.ad 0), some (.fr ((eL eTask) tasks)), some (.fr ((eL D.int) table)), none], [(0, .ins "System" [])]⟩ _
      refine exs_cons (ex_fld (c := "System") (n := 0) (d := (eU eTask) tasks) T.q_System T.cl_System T.na_System_tasks (ev_callTy (ds := [(eL eTask) tasks]) c_tuple (ea_cons (ev_var 1 rfl (.inl rfl) rfl) ea_nil) (by exact rfl) T.n_tuple (by decide +kernel)) (ev_var 0 rfl (.inl rfl) rfl) rfl (by first | decide | (simp only [List.length_cons, List.length_nil]; decide)) ?_)
      show Exs _ _ _ ⟨[some (.ad 0), some (.fr ((eL eTask) tasks)), some (.fr ((eL D.int) table)), none], [(0, .ins "System" [("tasks", (.fr ((eU eTask) tasks)))])]⟩ _
      refine exs_one (ex_fld (c := "System") (n := 0) (d := (eU D.int) table) T.q_System T.cl_System T.na_System_table (ev_callTy (ds := [(eL D.int) table]) c_tuple (ea_cons (ev_var 2 rfl (.inl rfl) rfl) ea_nil) (by exact rfl) T.n_tuple (by decide +kernel)) (ev_var 0 rfl (.inl rfl) rfl) rfl (by first | decide | (simp only [List.length_cons, List.length_nil]; decide)) ?_)
      have efin : m_System_init__ tasks table = ({ tasks := tasks, table := table } : System) := by simp only [m_System_init__, not_true_eq_false, not_false_eq_true, ↓reduceIte, ↓if_neg zh1, ↓if_neg zh2]
      rw [efin] at zk
      exact zk
def m_demands (task : Task) (length : Int) : List Int :=
  ((m_rows task length).map (fun zc2 : List Int => (maxL zc2)))
set_option hygiene false in
local macro_rules | `(tactic| walk_at "pre") => `(tactic| first | exact hpre | fail)
theorem rows_ne2 {t : Task} (h : t.ok) {n : Int} (h0 : 0 ≤ n) : ∀ r ∈ m_rows t n, r ≠ [] := fun r hr q => by
  have h1 := (rows_len (t := t) h0).2 r hr
  have h2 := h.k1
  rw [q, List.length_nil] at h1; omega
set_option hygiene false in
local macro_rules | `(tactic| walk_at "ne") => `(tactic| first | exact hrn _ (List.mem_of_getElem? (by assumption)) | fail)
theorem sc_demands : FnScope ["task", "length", "row"] ["task", "length"] (defScope s_demands) := ⟨rfl, rfl, rfl, by decide +kernel, rfl, by decide +kernel, by decide +kernel⟩
def sp_demands : SpN := fun zcs zL zKc => ∃ task : Task, ∃ length : Int, zcs = [.fr (eTask task), .fr (D.int length)] ∧ zL = [] ∧ (task.ok ∧ 0 ≤ length ∧ length ≤ 100000) ∧ ∀ zL', zKc (.fr ((eL D.int) (m_demands task length))) zL'
theorem ok_demands (T : TX K mg) : FnOk P w K mg base CX0 6 T.a_demands T.d_demands ["task", "length"] (SpOf K mg sp_demands) := by
  have O_rows := ok_rows (P := P) (w := w) (base := base) T
  refine T.F_demands.okN sc_demands (fun zcs zL zKc zh => by obtain ⟨task, length, rfl, _⟩ := zh; rfl) fun zcdv zA zout zst zH zE zB zcs zL zKc zhr zh => ?_
  obtain ⟨task, length, rfl, rfl, hpre, zk⟩ := zh
  have nd := sc_demands.nd
  have hSL := sizeLine_eq
  have hrl := rows_len (t := task) hpre.2.1
  have hrn := rows_ne2 hpre.1 hpre.2.1
  show Exs _ _ _ ⟨[some (.fr (eTask task)), some (.fr (D.int length)), none], []⟩ _
  refine exs_one (ex_ret (ev_lcM (enc2 := D.int) 199 (fun zc1 : List Int => (maxL zc1)) _ rfl nd (blkOk_by (N := ["task", "length", "row"]) (sc := defScope s_demands) (own := [(("row" : Str), 2)]) (by decide +kernel)) (src_listT (ev_call (ds := [eTask task, D.int length]) (ds' := []) (dvs := []) (dfs := []) O_rows (zhr.mono (by decide)) T.m_rows T.k_rows T.b_rows .nil (fun _ => .nil) (ea_cons (ev_var 0 rfl (.inl rfl) rfl) (ea_cons (ev_var 1 rfl (.inl rfl) rfl) ea_nil)) (fun _ zkk => ⟨task, length, rfl, rfl, (by walk_at "pre"), zkk⟩) (by exact rfl))) (by simp [names]) (by decide) (by walk_at "sd") (fun _ zc1 _ zhyzc1 _ _ _ _ _ => (eg_nameC 2 nd rfl (.inl rfl) (by decide) (.inr rfl))) (fun _ zc1 _ zhyzc1 _ _ _ _ _ => (ev_callB (ds := [(eL D.int) zc1]) (c_maxL (ns := zc1) rfl (by walk_at "ne")) (ea_cons (ev_var 2 rfl (.inl rfl) rfl) ea_nil) (by exact rfl) T.n_max (by decide +kernel)))) ?_)
  have efin : m_demands task length = ((m_rows task length).map (fun zc1 : List Int => (maxL zc1))) := by simp only [m_demands, not_true_eq_false, not_false_eq_true, ↓reduceIte]
  rw [efin] at zk
  exact zk _
def m_joint_demands_l0 (length : Int) (zs0 : (List Int)) (zy0 : Task) : (List Int) :=
  ((zs0.zip (m_demands zy0 length)).map (fun zc1 : Int × Int => (zc1.1 + zc1.2)))
def m_joint_demands (tasks : List Task) (length : Int) : List Int :=
  let totals1 : List Int := (List.replicate ((length + (1 : Int))).toNat (0 : Int))
  (tasks.foldl (m_joint_demands_l0 length) totals1)
set_option hygiene false in
local macro_rules | `(tactic| walk_at "pre") => `(tactic| first | exact ⟨htk, by omega, by omega⟩ | fail)
theorem demands_len {t : Task} (h : t.ok) {n : Int} (h0 : 0 ≤ n) : (m_demands t n).length = n.toNat + 1 := by
  unfold m_demands
  rw [List.length_map, (rows_len (t := t) h0).1]
set_option hygiene false in
local macro_rules | `(tactic| walk_at "sd") => `(tactic| first | (rw [List.length_zip, demands_len htk (by omega)]; omega) | fail)
theorem sc_joint_demands : FnScope ["tasks", "length", "totals", "task", "total", "number"] ["tasks", "length"] (defScope s_joint_demands) := ⟨rfl, rfl, rfl, by decide +kernel, rfl, by decide +kernel, by decide +kernel⟩
def sp_joint_demands : SpN := fun zcs zL zKc => ∃ tasks : List Task, ∃ length : Int, zcs = [.fr ((eU eTask) tasks), .fr (D.int length)] ∧ zL = [] ∧ ((∀ t ∈ tasks, t.ok) ∧ 0 ≤ length ∧ length ≤ 100000) ∧ ∀ zL', zKc (.fr ((eL D.int) (m_joint_demands tasks length))) zL'
theorem ok_joint_demands (T : TX K mg) : FnOk P w K mg base CX0 7 T.a_joint_demands T.d_joint_demands ["tasks", "length"] (SpOf K mg sp_joint_demands) := by
  have O_demands := ok_demands (P := P) (w := w) (base := base) T
  refine T.F_joint_demands.okN sc_joint_demands (fun zcs zL zKc zh => by obtain ⟨tasks, length, rfl, _⟩ := zh; rfl) fun zcdv zA zout zst zH zE zB zcs zL zKc zhr zh => ?_
  obtain ⟨tasks, length, rfl, rfl, hpre, zk⟩ := zh
  have nd := sc_joint_demands.nd
  have hSL := sizeLine_eq
  show Exs _ _ _ ⟨[some (.fr ((eU eTask) tasks)), some (.fr (D.int length)), none, none, none, none], []⟩ _
  refine exs_cons (ex_set 2 (ev_repT (enc := D.int) (0 : Int) (ea_cons ev_int ea_nil) (ev_bin o_add (ev_var 1 rfl (.inl rfl) rfl) ev_int) (by walk_at "sd") (by walk_at "sd")) ?_ nd rfl (.inl rfl))
  show Exs _ _ _ ⟨[some (.fr ((eU eTask) tasks)), some (.fr (D.int length)), some (.fr ((eL D.int) (List.replicate ((length + (1 : Int))).toNat (0 : Int)))), none, none, none], []⟩ _
  generalize zg_totals : (List.replicate ((length + (1 : Int))).toNat (0 : Int)) = totals
  show Exs _ _ _ ⟨[some (.fr ((eU eTask) tasks)), some (.fr (D.int length)), some (.fr ((eL D.int) totals)), none, none, none], []⟩ _
  refine exs_cons (ex_forF (enc := eTask) (fun (zs0 : (List Int)) => (⟨[some (.fr ((eU eTask) tasks)), some (.fr (D.int length)), some (.fr ((eL D.int) zs0)), none, none, none], []⟩ : Nz.S)) (m_joint_demands_l0 length) totals (fun (zi0 : Nat) (zs0 : (List Int)) => (zs0.length : Int) = length + 1) (src_tupT (ev_var 0 rfl (.inl rfl) rfl)) ⟨⟨.inr rfl, .inr rfl, .inr rfl, .inl rfl, .inl rfl, .inl rfl, trivial⟩, rfl⟩ (by rw [← zg_totals, List.length_replicate]; omega) ?_ ?_ PassesOwn.never rfl)
  · intro zi0 zy0 zs0 zhy0 zq0
    skip
    have htk := hpre.1 zy0 (List.mem_of_getElem? zhy0)
    refine ⟨⟨[some (.fr ((eU eTask) tasks)), some (.fr (D.int length)), some (.fr ((eL D.int) zs0)), some (.fr (eTask zy0)), none, none], []⟩, (eg_name 3 nd rfl (.inl rfl)), ?_⟩
    refine exs_one (ex_setLcM 2 (enc2 := D.int) 199 (fun zc2 : Int × Int => (zc2.1 + zc2.2)) _ rfl nd rfl rfl (sw_true rfl rfl rfl (by decide +kernel)) (blkOk_by (N := ["tasks", "length", "totals", "task", "total", "number"]) (sc := defScope s_joint_demands) (own := [(("total" : Str), 4), (("number" : Str), 5)]) (by decide +kernel)) (src_zip (enc := D.int) (encB := D.int) (xs := zs0) (ys := (m_demands zy0 length)) (ea_cons (ev_var 2 rfl (.inl rfl) rfl) (ea_cons (ev_call (ds := [eTask zy0, D.int length]) (ds' := []) (dvs := []) (dfs := []) O_demands (zhr.mono (by decide)) T.m_demands T.k_demands T.b_demands .nil (fun _ => .nil) (ea_cons (ev_var 3 rfl (.inl rfl) rfl) (ea_cons (ev_var 1 rfl (.inl rfl) rfl) ea_nil)) (fun _ zkk => ⟨zy0, length, rfl, rfl, (by walk_at "pre"), zkk⟩) (by exact rfl)) ea_nil)) (by exact rfl) T.n_zip) (by simp [names]) (by decide) (by walk_at "sd") (fun _ zc2 _ zhyzc2 _ _ _ _ _ => (eg_tupC rfl (egs_consC (eg_nameC 4 nd rfl (.inl rfl) (by decide) (.inr rfl)) (egs_consC (eg_nameC 5 nd rfl (.inl rfl) (by decide) (.inr rfl)) egs_nilC)))) (fun _ zc2 _ zhyzc2 _ _ _ _ _ => (ev_bin o_add (ev_var 4 rfl (.inl rfl) rfl) (ev_var 5 rfl (.inl rfl) rfl))) ?_)
    have est : (m_joint_demands_l0 length) zs0 zy0 = ((zs0.zip (m_demands zy0 length)).map (fun zc2 : Int × Int => (zc2.1 + zc2.2))) := by simp only [m_joint_demands_l0, not_true_eq_false, not_false_eq_true, ↓reduceIte]
    show Le _ _ ∧ _
    try rw [est]
    exact ⟨⟨⟨.inr rfl, .inr rfl, .inr rfl, .inl rfl, .inl rfl, .inl rfl, trivial⟩, rfl⟩, (by rw [List.length_map, List.length_zip, demands_len htk (by omega)]; omega)⟩
  · intro zq0
    show Exs _ _ _ ⟨[some (.fr ((eU eTask) tasks)), some (.fr (D.int length)), some (.fr ((eL D.int) (tasks.foldl (m_joint_demands_l0 length) totals))), none, none, none], []⟩ _
    refine exs_one (ex_ret (ev_var 2 rfl (.inl rfl) rfl) ?_)
    have efin : m_joint_demands tasks length = (tasks.foldl (m_joint_demands_l0 length) totals) := by subst zg_totals; simp only [m_joint_demands, not_true_eq_false, not_false_eq_true, ↓reduceIte]
    rw [efin] at zk
    exact zk _
def m_system_demands (system : System) (length : Int) : List Int :=
  (m_joint_demands system.tasks length)
set_option hygiene false in
local macro_rules | `(tactic| walk_at "pre") => `(tactic| first | exact hpre | fail)
theorem sysd_aux {n : Int} (h0 : 0 ≤ n) : ∀ (ts : List Task) (s : List Int), (∀ t ∈ ts, t.ok) → (s.length : Int) = n + 1 → ((ts.foldl (m_joint_demands_l0 n) s).length : Int) = n + 1
  | [], s, _, h => h
  | t :: ts, s, ht, h => by
    rw [List.foldl_cons]
    refine sysd_aux h0 ts _ (fun x hx => ht x (List.mem_cons_of_mem _ hx)) ?_
    unfold m_joint_demands_l0
    rw [List.length_map, List.length_zip, demands_len (ht t List.mem_cons_self) h0]; omega
theorem sysd_len {s : System} (h : ∀ t ∈ s.tasks, t.ok) {n : Int} (h0 : 0 ≤ n) : ((m_system_demands s n).length : Int) = n + 1 := by
  unfold m_system_demands m_joint_demands
  exact sysd_aux h0 s.tasks _ h (by rw [List.length_replicate]; omega)
theorem sc_system_demands : FnScope ["system", "length"] ["system", "length"] (defScope s_system_demands) := ⟨rfl, rfl, rfl, by decide +kernel, rfl, by decide +kernel, by decide +kernel⟩
def sp_system_demands : SpN := fun zcs zL zKc => ∃ system : System, ∃ length : Int, zcs = [.fr (eSystem system), .fr (D.int length)] ∧ zL = [] ∧ ((∀ t ∈ system.tasks, t.ok) ∧ 0 ≤ length ∧ length ≤ 100000) ∧ ∀ zL', zKc (.fr ((eL D.int) (m_system_demands system length))) zL'
theorem ok_system_demands (T : TX K mg) : FnOk P w K mg base CX0 8 T.a_system_demands T.d_system_demands ["system", "length"] (SpOf K mg sp_system_demands) := by
  have O_joint_demands := ok_joint_demands (P := P) (w := w) (base := base) T
  refine T.F_system_demands.okN sc_system_demands (fun zcs zL zKc zh => by obtain ⟨system, length, rfl, _⟩ := zh; rfl) fun zcdv zA zout zst zH zE zB zcs zL zKc zhr zh => ?_
  obtain ⟨system, length, rfl, rfl, hpre, zk⟩ := zh
  have nd := sc_system_demands.nd
  have hSL := sizeLine_eq
  show Exs _ _ _ ⟨[some (.fr (eSystem system)), some (.fr (D.int length))], []⟩ _
  refine exs_one (ex_ret (ev_call (ds := [(eU eTask) system.tasks, D.int length]) (ds' := []) (dvs := []) (dfs := []) O_joint_demands (zhr.mono (by decide)) T.m_joint_demands T.k_joint_demands T.b_joint_demands .nil (fun _ => .nil) (ea_cons (ev_fld (c := "System") (fs := fSystem system) T.q_System T.cl_System T.na_System_tasks rfl (ev_var 0 rfl (.inl rfl) rfl)) (ea_cons (ev_var 1 rfl (.inl rfl) rfl) ea_nil)) (fun _ zkk => ⟨system.tasks, length, rfl, rfl, (by walk_at "pre"), zkk⟩) (by exact rfl)) ?_)
  have efin : m_system_demands system length = (m_joint_demands system.tasks length) := by simp only [m_system_demands, not_true_eq_false, not_false_eq_true, ↓reduceIte]
  rw [efin] at zk
  exact zk _
def m_capacity (table : List Int) (slot : Int) : Int :=
  (table.getD ((slot % (table.length : Int))).toNat default)
theorem sc_capacity : FnScope ["table", "slot"] ["table", "slot"] (defScope s_capacity) := ⟨rfl, rfl, rfl, by decide +kernel, rfl, by decide +kernel, by decide +kernel⟩
def sp_capacity : SpN := fun zcs zL zKc => ∃ table : List Int, ∃ slot : Int, zcs = [.fr ((eU D.int) table), .fr (D.int slot)] ∧ zL = [] ∧ (0 < table.length ∧ table.length ≤ 1001) ∧ ∀ zL', zKc (.fr (D.int (m_capacity table slot))) zL'
theorem ok_capacity (T : TX K mg) : FnOk P w K mg base CX0 1 T.a_capacity T.d_capacity ["table", "slot"] (SpOf K mg sp_capacity) := by
  refine T.F_capacity.okN sc_capacity (fun zcs zL zKc zh => by obtain ⟨table, slot, rfl, _⟩ := zh; rfl) fun zcdv zA zout zst zH zE zB zcs zL zKc zhr zh => ?_
  obtain ⟨table, slot, rfl, rfl, hpre, zk⟩ := zh
  have nd := sc_capacity.nd
  have hSL := sizeLine_eq
  have hd := Int.emod_lt_of_pos slot (show (0 : Int) < (table.length : Int) by omega)
  have he := Int.emod_nonneg slot (show (table.length : Int) ≠ 0 by omega)
  show Exs _ _ _ ⟨[some (.fr ((eU D.int) table)), some (.fr (D.int slot))], []⟩ _
  refine exs_one (ex_ret (ev_ix (ix_U (enc := D.int) (by walk_at "sd") (by walk_at "sd")) (ev_var 0 rfl (.inl rfl) rfl) (ev_bin (o_mod (by walk_at "sd")) (ev_var 1 rfl (.inl rfl) rfl) (ev_len (ln_U (xs := table) (enc := D.int)) (ev_var 0 rfl (.inl rfl) rfl) (by exact rfl) T.n_len))) ?_)
  have efin : m_capacity table slot = (table.getD ((slot % (table.length : Int))).toNat default) := by simp only [m_capacity, not_true_eq_false, not_false_eq_true, ↓reduceIte]
  rw [efin] at zk
  exact zk _
def m_sums_l0 (zs0 : (List Int)) (zy0 : Int) : (List Int) :=
  (zs0 ++ [((zs0.getLastD default) + zy0)])
def m_sums (table : List Int) : List Int :=
  ((table ++ table).foldl (m_sums_l0) [(0 : Int)])
theorem len_fold1 (xs : List Int) (s : List Int) : (xs.foldl m_sums_l0 s).length = s.length + xs.length := by
  induction xs generalizing s with
  | nil => rfl
  | cons x r ih => rw [List.foldl_cons, ih]; simp only [m_sums_l0, List.length_append, List.length_cons, List.length_nil]; omega
theorem len_sums (t : List Int) : (m_sums t).length = 2 * t.length + 1 := by
  unfold m_sums; rw [len_fold1]; simp only [List.length_append, List.length_cons, List.length_nil]; omega
/-! what a table supplies up to an instant -/
def per (t : List Int) (n : Nat) : Int := t.getD (n % t.length) default
def Pf (t : List Int) : Nat → Int
  | 0 => 0
  | n + 1 => Pf t n + per t n
theorem per_add (t : List Int) (n : Nat) : per t (n + t.length) = per t n := by unfold per; rw [Nat.add_mod_right]
theorem per_lt {t : List Int} {n : Nat} (h : n < t.length) : per t n = t[n] := by
  unfold per
  rw [Nat.mod_eq_of_lt h, List.getD_eq_getElem?_getD, List.getElem?_eq_getElem h]; rfl
theorem Pf_take (t : List Int) : ∀ n, n ≤ t.length → Pf t n = (t.take n).sum
  | 0, _ => by simp [Pf]
  | n + 1, h => by
    have hn : n < t.length := h
    rw [Pf, Pf_take t n (by omega), per_lt hn, List.take_succ, List.getElem?_eq_getElem hn, List.sum_append]
    simp only [Option.toList_some, List.sum_cons, List.sum_nil, Int.add_zero]
theorem Pf_len (t : List Int) : Pf t t.length = t.sum := by rw [Pf_take t _ (Nat.le_refl _), List.take_length]
theorem Pf_add (t : List Int) : ∀ n, Pf t (n + t.length) = Pf t n + t.sum
  | 0 => by rw [Nat.zero_add, Pf_len]; simp [Pf]
  | n + 1 => by
    rw [show n + 1 + t.length = (n + t.length) + 1 by omega, Pf, Pf_add t n, per_add, Pf]; omega
theorem Pf_mul (t : List Int) (r : Nat) : ∀ q : Nat, Pf t (r + q * t.length) = Pf t r + (q : Int) * t.sum
  | 0 => by simp
  | q + 1 => by
    rw [show r + (q + 1) * t.length = (r + q * t.length) + t.length by rw [Nat.add_mul]; omega, Pf_add, Pf_mul t r q, show ((q + 1 : Nat) : Int) = (q : Int) + 1 from rfl, Int.add_mul]; omega
theorem sums_key : ∀ (xs pre s : List Int), s.length = pre.length + 1 → (∀ i, i ≤ pre.length → s.getD i default = (pre.take i).sum) →
    ∀ i, i ≤ (pre ++ xs).length → (xs.foldl m_sums_l0 s).getD i default = ((pre ++ xs).take i).sum
  | [], pre, s, hl, h, i, hi => by rw [List.append_nil] at hi ⊢; exact h i hi
  | x :: xs, pre, s, hl, h, i, hi => by
    rw [List.foldl_cons]
    have e : pre ++ x :: xs = (pre ++ [x]) ++ xs := by simp
    rw [e] at hi ⊢
    refine sums_key xs (pre ++ [x]) (m_sums_l0 s x) (by simp [m_sums_l0, hl]) (fun j hj => ?_) i hi
    have hlast : s.getLastD default = pre.sum := by
      have := h pre.length (Nat.le_refl _)
      rw [List.take_length] at this
      rw [← this, List.getLastD_eq_getLast?, List.getD_eq_getElem?_getD, List.getLast?_eq_getElem?, hl, Nat.add_sub_cancel]
    by_cases hj2 : j ≤ pre.length
    · unfold m_sums_l0
      rw [List.getD_eq_getElem?_getD, List.getElem?_append_left (by omega), ← List.getD_eq_getElem?_getD, h j hj2, List.take_append_of_le_length hj2]
    · have hj3 : j = pre.length + 1 := by simp at hj; omega
      unfold m_sums_l0
      rw [hj3, List.getD_eq_getElem?_getD, ← hl, List.getElem?_append_right (Nat.le_refl _), Nat.sub_self, List.take_of_length_le (by simp [hl]), hlast]
      simp
theorem sums_at (t : List Int) (i : Nat) (h : i ≤ 2 * t.length) : (m_sums t).getD i default = Pf t i := by
  unfold m_sums
  have := sums_key (t ++ t) [] [0] rfl (fun i hi => by
    have : i = 0 := by simpa using hi
    subst this; rfl) i (by simp; omega)
  rw [this, List.nil_append]
  by_cases hi : i ≤ t.length
  · rw [List.take_append_of_le_length hi, Pf_take t i hi]
  · obtain ⟨j, rfl⟩ : ∃ j, i = j + t.length := ⟨i - t.length, by omega⟩
    rw [Pf_add, Pf_take t j (by omega), List.take_append, List.take_of_length_le (by omega), Nat.add_sub_cancel, List.sum_append]
    omega

theorem sc_sums : FnScope ["table", "sums", "units"] ["table"] (defScope s_sums) := ⟨rfl, rfl, rfl, by decide +kernel, rfl, by decide +kernel, by decide +kernel⟩
def sp_sums : SpN := fun zcs zL zKc => ∃ table : List Int, zcs = [.fr ((eU D.int) table)] ∧ zL = [] ∧ (table.length ≤ 1001) ∧ ∀ zL', zKc (.fr ((eL D.int) (m_sums table))) zL'
theorem ok_sums (T : TX K mg) : FnOk P w K mg base CX0 1 T.a_sums T.d_sums ["table"] (SpOf K mg sp_sums) := by
  refine T.F_sums.okN sc_sums (fun zcs zL zKc zh => by obtain ⟨table, rfl, _⟩ := zh; rfl) fun zcdv zA zout zst zH zE zB zcs zL zKc zhr zh => ?_
  obtain ⟨table, rfl, rfl, hpre, zk⟩ := zh
  have nd := sc_sums.nd
  have hSL := sizeLine_eq
  show Exs _ _ _ ⟨[some (.fr ((eU D.int) table)), none, none], []⟩ _
  refine exs_cons (ex_set 1 (ev_lstN 100 (enc := D.int) [(0 : Int)] (ea_cons ev_int ea_nil) rfl (by simp only [List.length_cons, List.length_nil]; decide) (by simp [names]) (by decide)) ?_ nd rfl (.inl rfl))
  show Exs _ _ _ ⟨[some (.fr ((eU D.int) table)), some (.ad 100), none], [(100, .fl (([(0 : Int)]).map D.int))]⟩ _
  refine exs_cons (ex_forF (enc := D.int) (fun (zs0 : (List Int)) => (⟨[some (.fr ((eU D.int) table)), some (.ad 100), none], [(100, .fl ((zs0).map D.int))]⟩ : Nz.S)) (m_sums_l0) [(0 : Int)] (fun (zi0 : Nat) (zs0 : (List Int)) => zs0 ≠ [] ∧ zs0.length ≤ zi0 + 1) (src_listT (ev_bin (o_catT (enc := D.int) (xs := table) (ys := table) (by walk_at "sd")) (ev_callTy (ds := [(eU D.int) table]) c_listT (ea_cons (ev_var 0 rfl (.inl rfl) rfl) ea_nil) (by exact rfl) T.n_list (by decide +kernel)) (ev_callTy (ds := [(eU D.int) table]) c_listT (ea_cons (ev_var 0 rfl (.inl rfl) rfl) ea_nil) (by exact rfl) T.n_list (by decide +kernel)))) ⟨⟨.inr rfl, .inr rfl, .inl rfl, trivial⟩, rfl⟩ ⟨by simp, by simp⟩ ?_ ?_ PassesOwn.never rfl)
  · intro zi0 zy0 zs0 zhy0 zq0
    skip
    obtain ⟨zq1, zq2⟩ := zq0
    have hi := (List.getElem?_eq_some_iff.mp zhy0).1
    simp only [List.length_append] at hi
    refine ⟨⟨[some (.fr ((eU D.int) table)), some (.ad 100), some (.fr (D.int zy0))], [(100, .fl ((zs0).map D.int))]⟩, (eg_name 2 nd rfl (.inl rfl)), ?_⟩
    refine exs_one (ex_expr (ev_appendT (n := 100) (enc := D.int) (xs := zs0) (xs0 := zs0) ((zs0.getLastD default) + zy0) rfl rfl rfl (by walk_at "sd") (ev_var 1 rfl (.inl rfl) rfl) (ev_bin o_add (ev_ix (ix_last (xs := zs0) (enc := D.int) (by exact rfl) (by walk_at "ne")) (ev_var 1 rfl (.inl rfl) rfl) (ev_neg ev_int)) (ev_var 2 rfl (.inl rfl) rfl))) ?_)
    have est : (m_sums_l0) zs0 zy0 = (zs0 ++ [((zs0.getLastD default) + zy0)]) := by simp only [m_sums_l0, not_true_eq_false, not_false_eq_true, ↓reduceIte]
    show Le _ _ ∧ _
    try rw [est]
    exact ⟨⟨⟨.inr rfl, .inr rfl, .inl rfl, trivial⟩, rfl⟩, ⟨by simp, by simp; omega⟩⟩
  · intro zq0
    show Exs _ _ _ ⟨[some (.fr ((eU D.int) table)), some (.ad 100), none], [(100, .fl ((((table ++ table).foldl (m_sums_l0) [(0 : Int)])).map D.int))]⟩ _
    refine exs_freezeT 100 (xs := ((table ++ table).foldl (m_sums_l0) [(0 : Int)])) (enc := D.int) (by exact rfl) ?_
    show Exs _ _ _ ⟨[some (.fr ((eU D.int) table)), some (.fr ((eL D.int) ((table ++ table).foldl (m_sums_l0) [(0 : Int)]))), none], []⟩ _
    refine exs_one (ex_ret (ev_var 1 rfl (.inl rfl) rfl) ?_)
    have efin : m_sums table = ((table ++ table).foldl (m_sums_l0) [(0 : Int)]) := by simp only [m_sums, not_true_eq_false, not_false_eq_true, ↓reduceIte]
    rw [efin] at zk
    exact zk _
def m_supply (table : List Int) (start : Int) (end_ : Int) : Int :=
  if (end_ ≤ start) then (0 : Int) else let first_slot1 : Int := (start % (table.length : Int))
  (((((end_ - start) / (table.length : Int), (end_ - start) % (table.length : Int)).1 * table.sum) + ((m_sums table).getD ((first_slot1 + ((end_ - start) / (table.length : Int), (end_ - start) % (table.length : Int)).2)).toNat default)) - ((m_sums table).getD (first_slot1).toNat default))
theorem sc_supply : FnScope ["table", "start", "end", "first_slot", "rounds", "rest", "sums"] ["table", "start", "end"] (defScope s_supply) := ⟨rfl, rfl, rfl, by decide +kernel, rfl, by decide +kernel, by decide +kernel⟩
def sp_supply : SpN := fun zcs zL zKc => ∃ table : List Int, ∃ start : Int, ∃ end_ : Int, zcs = [.fr ((eU D.int) table), .fr (D.int start), .fr (D.int end_)] ∧ zL = [] ∧ (0 < table.length ∧ table.length ≤ 1001 ∧ -(2 ^ 64) < table.sum ∧ table.sum < 2 ^ 64) ∧ ∀ zL', zKc (.fr (D.int (m_supply table start end_))) zL'
theorem ok_supply (T : TX K mg) : FnOk P w K mg base CX0 2 T.a_supply T.d_supply ["table", "start", "end"] (SpOf K mg sp_supply) := by
  have O_sums := ok_sums (P := P) (w := w) (base := base) T
  refine T.F_supply.okN sc_supply (fun zcs zL zKc zh => by obtain ⟨table, start, end_, rfl, _⟩ := zh; rfl) fun zcdv zA zout zst zH zE zB zcs zL zKc zhr zh => ?_
  obtain ⟨table, start, end_, rfl, rfl, hpre, zk⟩ := zh
  have nd := sc_supply.nd
  have hSL := sizeLine_eq
  show Exs _ _ _ ⟨[some (.fr ((eU D.int) table)), some (.fr (D.int start)), some (.fr (D.int end_)), none, none, none, none], []⟩ _
  refine exs_cons (ex_ifP bd_d (et_cmp o_le (ev_var 2 rfl (.inl rfl) rfl) (ev_var 1 rfl (.inl rfl) rfl) (nomark _)) (fun (zh1 : (end_ ≤ start)) => ?_) (fun (zh1 : ¬ (end_ ≤ start)) => ?_))
  · skip
    refine exs_one (ex_ret ev_int ?_)
    have efin : m_supply table start end_ = (0 : Int) := by simp only [m_supply, not_true_eq_false, not_false_eq_true, ↓reduceIte, ↓if_pos zh1]
    rw [efin] at zk
    exact zk _
  · skip
    refine exs_nil ?_
    show Exs _ _ _ ⟨[some (.fr ((eU D.int) table)), some (.fr (D.int start)), some (.fr (D.int end_)), none, none, none, none], []⟩ _
    have hT : (0 : Int) < (table.length : Int) := by omega
    have e1 := Int.emod_nonneg start (show (table.length : Int) ≠ 0 by omega)
    have e2 := Int.emod_lt_of_pos start hT
    have e3 := Int.emod_nonneg (end_ - start) (show (table.length : Int) ≠ 0 by omega)
    have e4 := Int.emod_lt_of_pos (end_ - start) hT
    have e5 := len_sums table
    refine exs_cons (ex_set 3 (ev_bin (o_mod (by walk_at "sd")) (ev_var 1 rfl (.inl rfl) rfl) (ev_len (ln_U (xs := table) (enc := D.int)) (ev_var 0 rfl (.inl rfl) rfl) (by exact rfl) T.n_len)) ?_ nd rfl (.inl rfl))
    show Exs _ _ _ ⟨[some (.fr ((eU D.int) table)), some (.fr (D.int start)), some (.fr (D.int end_)), some (.fr (D.int (start % (table.length : Int)))), none, none, none], []⟩ _
    generalize zg_first_slot : (start % (table.length : Int)) = first_slot
    show Exs _ _ _ ⟨[some (.fr ((eU D.int) table)), some (.fr (D.int start)), some (.fr (D.int end_)), some (.fr (D.int first_slot)), none, none, none], []⟩ _
    refine exs_cons (ex_asg (ev_callB (ds := [D.int (end_ - start), D.int (table.length : Int)]) (c_divmod (by walk_at "sd") (by walk_at "sd")) (ea_cons (ev_bin o_sub (ev_var 2 rfl (.inl rfl) rfl) (ev_var 1 rfl (.inl rfl) rfl)) (ea_cons (ev_len (ln_U (xs := table) (enc := D.int)) (ev_var 0 rfl (.inl rfl) rfl) (by exact rfl) T.n_len) ea_nil)) (by exact rfl) T.n_divmod (by decide +kernel)) (eg_tup rfl (egs_cons (eg_name 4 nd rfl (.inl rfl)) (egs_cons (eg_name 5 nd rfl (.inl rfl)) egs_nil))) ?_)
    show Exs _ _ _ ⟨[some (.fr ((eU D.int) table)), some (.fr (D.int start)), some (.fr (D.int end_)), some (.fr (D.int first_slot)), some (.fr (D.int (((end_ - start) / (table.length : Int), (end_ - start) % (table.length : Int)).1))), some (.fr (D.int (((end_ - start) / (table.length : Int), (end_ - start) % (table.length : Int)).2))), none], []⟩ _
    refine exs_cons (ex_set 6 (ev_call (ds := [(eU D.int) table]) (ds' := []) (dvs := []) (dfs := []) O_sums (zhr.mono (by decide)) T.m_sums T.k_sums T.b_sums .nil (fun _ => .nil) (ea_cons (ev_var 0 rfl (.inl rfl) rfl) ea_nil) (fun _ zkk => ⟨table, rfl, rfl, (by walk_at "pre"), zkk⟩) (by exact rfl)) ?_ nd rfl (.inl rfl))
    show Exs _ _ _ ⟨[some (.fr ((eU D.int) table)), some (.fr (D.int start)), some (.fr (D.int end_)), some (.fr (D.int first_slot)), some (.fr (D.int (((end_ - start) / (table.length : Int), (end_ - start) % (table.length : Int)).1))), some (.fr (D.int (((end_ - start) / (table.length : Int), (end_ - start) % (table.length : Int)).2))), some (.fr ((eL D.int) (m_sums table)))], []⟩ _
    refine exs_one (ex_ret (ev_bin o_sub (ev_bin o_add (ev_bin (o_mul (by walk_at "mul")) (ev_var 4 rfl (.inl rfl) rfl) (ev_callB (ds := [(eU D.int) table]) (c_sumU rfl) (ea_cons (ev_var 0 rfl (.inl rfl) rfl) ea_nil) (by exact rfl) T.n_sum (by decide +kernel))) (ev_ix (ix_L (xs := (m_sums table)) (enc := D.int) (by exact rfl) (by walk_at "sd") (by walk_at "sd")) (ev_var 6 rfl (.inl rfl) rfl) (ev_bin o_add (ev_var 3 rfl (.inl rfl) rfl) (ev_var 5 rfl (.inl rfl) rfl)))) (ev_ix (ix_L (xs := (m_sums table)) (enc := D.int) (by exact rfl) (by walk_at "sd") (by walk_at "sd")) (ev_var 6 rfl (.inl rfl) rfl) (ev_var 3 rfl (.inl rfl) rfl))) ?_)
    have efin : m_supply table start end_ = (((((end_ - start) / (table.length : Int), (end_ - start) % (table.length : Int)).1 * table.sum) + ((m_sums table).getD ((first_slot + ((end_ - start) / (table.length : Int), (end_ - start) % (table.length : Int)).2)).toNat default)) - ((m_sums table).getD (first_slot).toNat default)) := by subst zg_first_slot; simp only [m_supply, not_true_eq_false, not_false_eq_true, ↓reduceIte, ↓if_neg zh1]
    rw [efin] at zk
    exact zk _
def m_supplies_l0 (table : List Int) (zs0 : (List Int)) (zy0 : Nat) : (List Int) :=
  (zs0 ++ [((zs0.getLastD default) + (m_capacity table ((0 : Int) + (zy0 : Int))))])
def m_supplies (table : List Int) (slots : Int) : List Int :=
  ((List.range (slots).toNat).foldl (m_supplies_l0 table) [(0 : Int)])
theorem supplies_len (t : List Int) {n : Int} (h0 : 0 ≤ n) : ((m_supplies t n).length : Int) = n + 1 := by
  unfold m_supplies
  have key : ∀ (ys : List Nat) (s : List Int), (ys.foldl (m_supplies_l0 t) s).length = s.length + ys.length := by
    intro ys
    induction ys with
    | nil => intro s; rfl
    | cons y ys ih => intro s; rw [List.foldl_cons, ih]; unfold m_supplies_l0; simp; omega
  rw [key, List.length_range]; simp; omega
theorem sc_supplies : FnScope ["table", "slots", "found", "slot"] ["table", "slots"] (defScope s_supplies) := ⟨rfl, rfl, rfl, by decide +kernel, rfl, by decide +kernel, by decide +kernel⟩
def sp_supplies : SpN := fun zcs zL zKc => ∃ table : List Int, ∃ slots : Int, zcs = [.fr ((eU D.int) table), .fr (D.int slots)] ∧ zL = [] ∧ (0 < table.length ∧ table.length ≤ 1001 ∧ 0 ≤ slots ∧ slots ≤ 100000) ∧ ∀ zL', zKc (.fr ((eL D.int) (m_supplies table slots))) zL'
theorem ok_supplies (T : TX K mg) : FnOk P w K mg base CX0 2 T.a_supplies T.d_supplies ["table", "slots"] (SpOf K mg sp_supplies) := by
  have O_capacity := ok_capacity (P := P) (w := w) (base := base) T
  refine T.F_supplies.okN sc_supplies (fun zcs zL zKc zh => by obtain ⟨table, slots, rfl, _⟩ := zh; rfl) fun zcdv zA zout zst zH zE zB zcs zL zKc zhr zh => ?_
  obtain ⟨table, slots, rfl, rfl, hpre, zk⟩ := zh
  have nd := sc_supplies.nd
  have hSL := sizeLine_eq
  show Exs _ _ _ ⟨[some (.fr ((eU D.int) table)), some (.fr (D.int slots)), none, none], []⟩ _
  refine exs_cons (ex_set 2 (ev_lstN 100 (enc := D.int) [(0 : Int)] (ea_cons ev_int ea_nil) rfl (by simp only [List.length_cons, List.length_nil]; decide) (by simp [names]) (by decide)) ?_ nd rfl (.inl rfl))
  show Exs _ _ _ ⟨[some (.fr ((eU D.int) table)), some (.fr (D.int slots)), some (.ad 100), none], [(100, .fl (([(0 : Int)]).map D.int))]⟩ _
  refine exs_cons (ex_forF (enc := (fun i : Nat => D.int ((0 : Int) + (i : Int)))) (fun (zs0 : (List Int)) => (⟨[some (.fr ((eU D.int) table)), some (.fr (D.int slots)), some (.ad 100), none], [(100, .fl ((zs0).map D.int))]⟩ : Nz.S)) (m_supplies_l0 table) [(0 : Int)] (fun (zi0 : Nat) (zs0 : (List Int)) => zs0 ≠ [] ∧ zs0.length = zi0 + 1) (src_range1 (ea_cons (ev_var 1 rfl (.inl rfl) rfl) ea_nil) (by exact rfl) T.n_range (by walk_at "sd") (by walk_at "sd")) ⟨⟨.inr rfl, .inr rfl, .inr rfl, .inl rfl, trivial⟩, rfl⟩ ⟨by simp, by simp⟩ ?_ ?_ PassesOwn.never rfl)
  · intro zi0 zy0 zs0 zhy0 zq0
    skip
    obtain ⟨zq1, zq2⟩ := zq0
    have hi := (List.getElem?_eq_some_iff.mp zhy0).1
    simp only [List.length_range] at hi
    refine ⟨⟨[some (.fr ((eU D.int) table)), some (.fr (D.int slots)), some (.ad 100), some (.fr (D.int ((0 : Int) + (zy0 : Int))))], [(100, .fl ((zs0).map D.int))]⟩, (eg_name 3 nd rfl (.inl rfl)), ?_⟩
    refine exs_one (ex_expr (ev_appendT (n := 100) (enc := D.int) (xs := zs0) (xs0 := zs0) ((zs0.getLastD default) + (m_capacity table ((0 : Int) + (zy0 : Int)))) rfl rfl rfl (by walk_at "sd") (ev_var 2 rfl (.inl rfl) rfl) (ev_bin o_add (ev_ix (ix_last (xs := zs0) (enc := D.int) (by exact rfl) (by walk_at "ne")) (ev_var 2 rfl (.inl rfl) rfl) (ev_neg ev_int)) (ev_call (ds := [(eU D.int) table, D.int ((0 : Int) + (zy0 : Int))]) (ds' := []) (dvs := []) (dfs := []) O_capacity (zhr.mono (by decide)) T.m_capacity T.k_capacity T.b_capacity .nil (fun _ => .nil) (ea_cons (ev_var 0 rfl (.inl rfl) rfl) (ea_cons (ev_var 3 rfl (.inl rfl) rfl) ea_nil)) (fun _ zkk => ⟨table, ((0 : Int) + (zy0 : Int)), rfl, rfl, (by walk_at "pre"), zkk⟩) (by exact rfl)))) ?_)
    have est : (m_supplies_l0 table) zs0 zy0 = (zs0 ++ [((zs0.getLastD default) + (m_capacity table ((0 : Int) + (zy0 : Int))))]) := by simp only [m_supplies_l0, not_true_eq_false, not_false_eq_true, ↓reduceIte]
    show Le _ _ ∧ _
    try rw [est]
    exact ⟨⟨⟨.inr rfl, .inr rfl, .inr rfl, .inl rfl, trivial⟩, rfl⟩, ⟨by simp, by simp; omega⟩⟩
  · intro zq0
    show Exs _ _ _ ⟨[some (.fr ((eU D.int) table)), some (.fr (D.int slots)), some (.ad 100), none], [(100, .fl ((((List.range (slots).toNat).foldl (m_supplies_l0 table) [(0 : Int)])).map D.int))]⟩ _
    refine exs_freezeT 100 (xs := ((List.range (slots).toNat).foldl (m_supplies_l0 table) [(0 : Int)])) (enc := D.int) (by exact rfl) ?_
    show Exs _ _ _ ⟨[some (.fr ((eU D.int) table)), some (.fr (D.int slots)), some (.fr ((eL D.int) ((List.range (slots).toNat).foldl (m_supplies_l0 table) [(0 : Int)]))), none], []⟩ _
    refine exs_one (ex_ret (ev_var 2 rfl (.inl rfl) rfl) ?_)
    have efin : m_supplies table slots = ((List.range (slots).toNat).foldl (m_supplies_l0 table) [(0 : Int)]) := by simp only [m_supplies, not_true_eq_false, not_false_eq_true, ↓reduceIte]
    rw [efin] at zk
    exact zk _
def m_law_rows_l2 (kinds : List (Str × Int × Int)) (found : List (List Int)) (size : Int) (kind : Str × Int × Int) (zs2 : Int) (zy2 : Str × Str × Int) : Int :=
  if ((zy2.1 = kind.1) ∧ (zy2.2.2 ≤ size)) then (if ((found.getD ((size - zy2.2.2)).toNat default).getD ((m_law_number kinds zy2.2.1)).toNat default) > zs2 then ((found.getD ((size - zy2.2.2)).toNat default).getD ((m_law_number kinds zy2.2.1)).toNat default) else zs2) else zs2
def m_law_rows_l1 (kinds : List (Str × Int × Int)) (ways : List (Str × Str × Int)) (found : List (List Int)) (size : Int) (zs1 : (List Int)) (zy1 : Str × Int × Int) : (List Int) :=
  let best : Int := (if (zy1.2.2 ≤ size) then ((ways.foldl (m_law_rows_l2 kinds found size zy1) (0 : Int)) + zy1.2.1) else (ways.foldl (m_law_rows_l2 kinds found size zy1) (0 : Int)))
  (zs1 ++ [best])
def m_law_rows_l0 (kinds : List (Str × Int × Int)) (ways : List (Str × Str × Int)) (zs0 : (List (List Int))) (zy0 : Nat) : (List (List Int)) :=
  (zs0 ++ [(kinds.foldl (m_law_rows_l1 kinds ways zs0 ((0 : Int) + (zy0 : Int))) ([] : List Int))])
def m_law_rows (kinds : List (Str × Int × Int)) (ways : List (Str × Str × Int)) (length : Int) : List (List Int) :=
  ((List.range ((length + (1 : Int))).toNat).foldl (m_law_rows_l0 kinds ways) ([] : List (List Int)))
theorem number_bound (kinds : List (Str × Int × Int)) (n : Str) (h : 0 < kinds.length) : 0 ≤ m_law_number kinds n ∧ m_law_number kinds n < (kinds.length : Int) := by
  unfold m_law_number
  obtain ⟨h1, h2⟩ := runE_inv (step := m_law_number_l0 kinds n) (P := fun _ => True) (R := fun r => 0 ≤ r ∧ r < (kinds.length : Int)) (ys := List.range ((kinds.length : Int)).toNat) (s := ()) (fun s y hy _ => ⟨fun _ _ => trivial, fun r e => by
    have := List.mem_range.mp hy
    unfold m_law_number_l0 at e
    split at e
    · cases e; omega
    · cases e⟩) trivial
  cases e : runE (m_law_number_l0 kinds n) (List.range ((kinds.length : Int)).toNat) () with
  | error r => exact h2 r e
  | ok u => show 0 ≤ (0 : Int) ∧ (0 : Int) < _; omega
set_option hygiene false in
local macro_rules | `(tactic| walk_at "sd") => `(tactic| first | (have hfl := hfl (by omega); omega) | fail)
theorem lrow_len (ks : List (Str × Int × Int)) (ways : List (Str × Str × Int)) (found : List (List Int)) (size : Int) : ∀ (xs : List (Str × Int × Int)) (s : List Int), (xs.foldl (m_law_rows_l1 ks ways found size) s).length = s.length + xs.length
  | [], s => rfl
  | k :: xs, s => by
    rw [List.foldl_cons, lrow_len ks ways found size xs]
    have : (m_law_rows_l1 ks ways found size s k).length = s.length + 1 := by unfold m_law_rows_l1; simp
    rw [this, List.length_cons]; omega
theorem lrows_aux (ks : List (Str × Int × Int)) (ways : List (Str × Str × Int)) : ∀ (ys : List Nat) (s : List (List Int)), (∀ r ∈ s, r.length = ks.length) → (ys.foldl (m_law_rows_l0 ks ways) s).length = s.length + ys.length ∧ ∀ r ∈ ys.foldl (m_law_rows_l0 ks ways) s, r.length = ks.length
  | [], s, h => ⟨rfl, h⟩
  | y :: ys, s, h => by
    rw [List.foldl_cons]
    have h1 : (m_law_rows_l0 ks ways s y).length = s.length + 1 ∧ ∀ r ∈ m_law_rows_l0 ks ways s y, r.length = ks.length := by
      unfold m_law_rows_l0
      refine ⟨by simp, fun r hr => ?_⟩
      rcases List.mem_append.mp hr with q | q
      · exact h r q
      · rw [List.mem_singleton.mp q, lrow_len]; simp
    obtain ⟨a, b⟩ := lrows_aux ks ways ys _ h1.2
    exact ⟨by rw [a, h1.1, List.length_cons]; omega, b⟩
theorem lrows_len (ks : List (Str × Int × Int)) (ways : List (Str × Str × Int)) {n : Int} (h0 : 0 ≤ n) : (m_law_rows ks ways n).length = n.toNat + 1 ∧ ∀ r ∈ m_law_rows ks ways n, r.length = ks.length := by
  unfold m_law_rows
  have := lrows_aux ks ways (List.range (n + 1).toNat) [] (fun _ h => absurd h (by simp))
  exact ⟨by rw [this.1, List.length_range, List.length_nil]; omega, this.2⟩
theorem lrows_ne {ks : List (Str × Int × Int)} (hk : 1 ≤ ks.length) (ways : List (Str × Str × Int)) {n : Int} (h0 : 0 ≤ n) : ∀ r ∈ m_law_rows ks ways n, r ≠ [] := fun r hr q => by
  have := (lrows_len ks ways h0).2 r hr
  rw [q, List.length_nil] at this; omega

theorem sc_law_rows : FnScope ["kinds", "ways", "length", "found", "size", "row", "kind", "best", "way"] ["kinds", "ways", "length"] (defScope s_law_rows) := ⟨rfl, rfl, rfl, by decide +kernel, rfl, by decide +kernel, by decide +kernel⟩
def sp_law_rows : SpN := fun zcs zL zKc => ∃ kinds : List (Str × Int × Int), ∃ ways : List (Str × Str × Int), ∃ length : Int, zcs = [.fr ((eL (eT3 D.str D.int D.int)) kinds), .fr ((eL (eT3 D.str D.str D.int)) ways), .fr (D.int length)] ∧ zL = [] ∧ (0 ≤ length ∧ length ≤ 1000 ∧ 0 < kinds.length ∧ kinds.length ≤ 8 ∧ ∀ w ∈ ways, 1 ≤ w.2.2) ∧ ∀ zL', zKc (.fr ((eL (eL D.int)) (m_law_rows kinds ways length))) zL'
theorem ok_law_rows (T : TX K mg) : FnOk P w K mg base CX0 2 T.a_law_rows T.d_law_rows ["kinds", "ways", "length"] (SpOf K mg sp_law_rows) := by
  have O_law_number := ok_law_number (P := P) (w := w) (base := base) T
  refine T.F_law_rows.okN sc_law_rows (fun zcs zL zKc zh => by obtain ⟨kinds, ways, length, rfl, _⟩ := zh; rfl) fun zcdv zA zout zst zH zE zB zcs zL zKc zhr zh => ?_
  obtain ⟨kinds, ways, length, rfl, rfl, hpre, zk⟩ := zh
  have nd := sc_law_rows.nd
  have hSL := sizeLine_eq
  show Exs _ _ _ ⟨[some (.fr ((eL (eT3 D.str D.int D.int)) kinds)), some (.fr ((eL (eT3 D.str D.str D.int)) ways)), some (.fr (D.int length)), none, none, none, none, none, none], []⟩ _
  refine exs_cons (ex_set 3 (ev_lstN 100 (enc := (eL D.int)) ([] : List (List Int)) ea_nil rfl (by simp only [List.length_cons, List.length_nil]; decide) (by simp [names]) (by decide)) ?_ nd rfl (.inl rfl))
  show Exs _ _ _ ⟨[some (.fr ((eL (eT3 D.str D.int D.int)) kinds)), some (.fr ((eL (eT3 D.str D.str D.int)) ways)), some (.fr (D.int length)), some (.ad 100), none, none, none, none, none], [(100, .fl ((([] : List (List Int))).map (eL D.int)))]⟩ _
  refine exs_cons (ex_forF (enc := (fun i : Nat => D.int ((0 : Int) + (i : Int)))) (fun (zs0 : (List (List Int))) => (⟨[some (.fr ((eL (eT3 D.str D.int D.int)) kinds)), some (.fr ((eL (eT3 D.str D.str D.int)) ways)), some (.fr (D.int length)), some (.ad 100), none, none, none, none, none], [(100, .fl ((zs0).map (eL D.int)))]⟩ : Nz.S)) (m_law_rows_l0 kinds ways) ([] : List (List Int)) (fun (zi0 : Nat) (zs0 : (List (List Int))) => zs0.length = zi0 ∧ ∀ r ∈ zs0, r.length = kinds.length) (src_range1 (ea_cons (ev_bin o_add (ev_var 2 rfl (.inl rfl) rfl) ev_int) ea_nil) (by exact rfl) T.n_range (by walk_at "sd") (by walk_at "sd")) ⟨⟨.inr rfl, .inr rfl, .inr rfl, .inr rfl, .inl rfl, .inl rfl, .inl rfl, .inl rfl, .inl rfl, trivial⟩, rfl⟩ ⟨by simp, fun _ h => absurd h (by simp)⟩ ?_ ?_ PassesOwn.never rfl)
  · intro zi0 zy0 zs0 zhy0 zq0
    skip
    have hy0 := seq_range zhy0
    have hi := (List.getElem?_eq_some_iff.mp zhy0).1
    simp only [List.length_range] at hi
    obtain ⟨zqa, zqb⟩ := zq0
    refine ⟨⟨[some (.fr ((eL (eT3 D.str D.int D.int)) kinds)), some (.fr ((eL (eT3 D.str D.str D.int)) ways)), some (.fr (D.int length)), some (.ad 100), some (.fr (D.int ((0 : Int) + (zy0 : Int)))), none, none, none, none], [(100, .fl ((zs0).map (eL D.int)))]⟩, (eg_name 4 nd rfl (.inl rfl)), ?_⟩
    refine exs_cons (ex_set 5 (ev_lstN 101 (enc := D.int) ([] : List Int) ea_nil rfl (by simp only [List.length_cons, List.length_nil]; decide) (by simp [names]) (by decide)) ?_ nd rfl (.inl rfl))
    show Exs _ _ _ ⟨[some (.fr ((eL (eT3 D.str D.int D.int)) kinds)), some (.fr ((eL (eT3 D.str D.str D.int)) ways)), some (.fr (D.int length)), some (.ad 100), some (.fr (D.int ((0 : Int) + (zy0 : Int)))), some (.ad 101), none, none, none], [(100, .fl ((zs0).map (eL D.int))), (101, .fl ((([] : List Int)).map D.int))]⟩ _
    refine exs_cons (ex_forF (enc := (eT3 D.str D.int D.int)) (fun (zs1 : (List Int)) => (⟨[some (.fr ((eL (eT3 D.str D.int D.int)) kinds)), some (.fr ((eL (eT3 D.str D.str D.int)) ways)), some (.fr (D.int length)), some (.ad 100), some (.fr (D.int ((0 : Int) + (zy0 : Int)))), some (.ad 101), none, none, none], [(100, .fl ((zs0).map (eL D.int))), (101, .fl ((zs1).map D.int))]⟩ : Nz.S)) (m_law_rows_l1 kinds ways zs0 ((0 : Int) + (zy0 : Int))) ([] : List Int) (fun (zi1 : Nat) (zs1 : (List Int)) => zs1.length = zi1) (src_listT (ev_var 0 rfl (.inl rfl) rfl)) ⟨⟨.inr rfl, .inr rfl, .inr rfl, .inr rfl, .inr rfl, .inr rfl, .inl rfl, .inl rfl, .inl rfl, trivial⟩, rfl⟩ (by simp) ?_ ?_ PassesOwn.never rfl)
    · intro zi1 zy1 zs1 zhy1 zq1
      skip
      have hi1 := (List.getElem?_eq_some_iff.mp zhy1).1
      refine ⟨⟨[some (.fr ((eL (eT3 D.str D.int D.int)) kinds)), some (.fr ((eL (eT3 D.str D.str D.int)) ways)), some (.fr (D.int length)), some (.ad 100), some (.fr (D.int ((0 : Int) + (zy0 : Int)))), some (.ad 101), some (.fr ((eT3 D.str D.int D.int) zy1)), none, none], [(100, .fl ((zs0).map (eL D.int))), (101, .fl ((zs1).map D.int))]⟩, (eg_name 6 nd rfl (.inl rfl)), ?_⟩
      refine exs_cons (ex_set 7 ev_int ?_ nd rfl (.inl rfl))
      show Exs _ _ _ ⟨[some (.fr ((eL (eT3 D.str D.int D.int)) kinds)), some (.fr ((eL (eT3 D.str D.str D.int)) ways)), some (.fr (D.int length)), some (.ad 100), some (.fr (D.int ((0 : Int) + (zy0 : Int)))), some (.ad 101), some (.fr ((eT3 D.str D.int D.int) zy1)), some (.fr (D.int (0 : Int))), none], [(100, .fl ((zs0).map (eL D.int))), (101, .fl ((zs1).map D.int))]⟩ _
      refine exs_cons (ex_forF (enc := (eT3 D.str D.str D.int)) (fun (zs2 : Int) => (⟨[some (.fr ((eL (eT3 D.str D.int D.int)) kinds)), some (.fr ((eL (eT3 D.str D.str D.int)) ways)), some (.fr (D.int length)), some (.ad 100), some (.fr (D.int ((0 : Int) + (zy0 : Int)))), some (.ad 101), some (.fr ((eT3 D.str D.int D.int) zy1)), some (.fr (D.int zs2)), none], [(100, .fl ((zs0).map (eL D.int))), (101, .fl ((zs1).map D.int))]⟩ : Nz.S)) (m_law_rows_l2 kinds zs0 ((0 : Int) + (zy0 : Int)) zy1) (0 : Int) (fun (zi2 : Nat) (zs2 : Int) => True) (src_listT (ev_var 1 rfl (.inl rfl) rfl)) ⟨⟨.inr rfl, .inr rfl, .inr rfl, .inr rfl, .inr rfl, .inr rfl, .inr rfl, .inr rfl, .inl rfl, trivial⟩, rfl⟩ trivial ?_ ?_ PassesOwn.never rfl)
      · intro zi2 zy2 zs2 zhy2 zq2
        skip
        have hwd := hpre.2.2.2.2 zy2 (List.mem_of_getElem? zhy2)
        have hnb2 := number_bound kinds zy2.2.1 (by omega)
        have hfl : zy2.2.2 ≤ (0 : Int) + (zy0 : Int) → (zs0.getD ((0 : Int) + (zy0 : Int) - zy2.2.2).toNat default).length = kinds.length := fun hq => zqb _ (getD_mem (by omega))
        refine ⟨⟨[some (.fr ((eL (eT3 D.str D.int D.int)) kinds)), some (.fr ((eL (eT3 D.str D.str D.int)) ways)), some (.fr (D.int length)), some (.ad 100), some (.fr (D.int ((0 : Int) + (zy0 : Int)))), some (.ad 101), some (.fr ((eT3 D.str D.int D.int) zy1)), some (.fr (D.int zs2)), some (.fr ((eT3 D.str D.str D.int) zy2))], [(100, .fl ((zs0).map (eL D.int))), (101, .fl ((zs1).map D.int))]⟩, (eg_name 8 nd rfl (.inl rfl)), ?_⟩
        refine exs_one (ex_ifP (bd_and bd_d bd_d) (Ew.et (ew_andP bd_d (et_cmp o_eqs (ev_ix (.t (d := D.str zy2.1) rfl) (ev_var 8 rfl (.inl rfl) rfl) ev_int) (ev_ix (.t (d := D.str zy1.1) rfl) (ev_var 6 rfl (.inl rfl) rfl) ev_int) (nomark _)) (fun zhp => (ew_and1 (et_cmp o_le (ev_ix (.t (d := D.int zy2.2.2) rfl) (ev_var 8 rfl (.inl rfl) rfl) ev_int) (ev_var 4 rfl (.inl rfl) rfl) (nomark _)))))) (fun (zh1 : ((zy2.1 = zy1.1) ∧ (zy2.2.2 ≤ ((0 : Int) + (zy0 : Int))))) => ?_) (fun (zh1 : ¬ ((zy2.1 = zy1.1) ∧ (zy2.2.2 ≤ ((0 : Int) + (zy0 : Int))))) => ?_))
        · skip
          refine exs_one (ex_set 7 (ev_callB (ds := [D.int zs2, D.int ((zs0.getD ((((0 : Int) + (zy0 : Int)) - zy2.2.2)).toNat default).getD ((m_law_number kinds zy2.2.1)).toNat default)]) (c_max2 rfl) (ea_cons (ev_var 7 rfl (.inl rfl) rfl) (ea_cons (ev_ix (ix_L (xs := (zs0.getD ((((0 : Int) + (zy0 : Int)) - zy2.2.2)).toNat default)) (enc := D.int) (by exact rfl) (by walk_at "sd") (by walk_at "sd")) (ev_ix (ix_L (xs := zs0) (enc := (eL D.int)) (by exact rfl) (by walk_at "sd") (by walk_at "sd")) (ev_var 3 rfl (.inl rfl) rfl) (ev_bin o_sub (ev_var 4 rfl (.inl rfl) rfl) (ev_ix (.t (d := D.int zy2.2.2) rfl) (ev_var 8 rfl (.inl rfl) rfl) ev_int))) (ev_call (ds := [(eL (eT3 D.str D.int D.int)) kinds, D.str zy2.2.1]) (ds' := []) (dvs := []) (dfs := []) O_law_number (zhr.mono (by decide)) T.m_law_number T.k_law_number T.b_law_number .nil (fun _ => .nil) (ea_cons (ev_var 0 rfl (.inl rfl) rfl) (ea_cons (ev_ix (.t (d := D.str zy2.2.1) rfl) (ev_var 8 rfl (.inl rfl) rfl) ev_int) ea_nil)) (fun _ zkk => ⟨kinds, zy2.2.1, rfl, rfl, (by walk_at "pre"), zkk⟩) (by exact rfl))) ea_nil)) (by exact rfl) T.n_max (by decide +kernel)) ?_ nd rfl (.inl rfl))
          have est : (m_law_rows_l2 kinds zs0 ((0 : Int) + (zy0 : Int)) zy1) zs2 zy2 = (if ((zs0.getD ((((0 : Int) + (zy0 : Int)) - zy2.2.2)).toNat default).getD ((m_law_number kinds zy2.2.1)).toNat default) > zs2 then ((zs0.getD ((((0 : Int) + (zy0 : Int)) - zy2.2.2)).toNat default).getD ((m_law_number kinds zy2.2.1)).toNat default) else zs2) := by simp only [m_law_rows_l2, not_true_eq_false, not_false_eq_true, ↓reduceIte, ↓if_pos zh1]
          show Le _ _ ∧ _
          try rw [est]
          exact ⟨⟨⟨.inr rfl, .inr rfl, .inr rfl, .inr rfl, .inr rfl, .inr rfl, .inr rfl, .inr rfl, .inl rfl, trivial⟩, rfl⟩, trivial⟩
        · skip
          refine exs_nil ?_
          have est : (m_law_rows_l2 kinds zs0 ((0 : Int) + (zy0 : Int)) zy1) zs2 zy2 = zs2 := by simp only [m_law_rows_l2, not_true_eq_false, not_false_eq_true, ↓reduceIte, ↓if_neg zh1]
          show Le _ _ ∧ _
          try rw [est]
          exact ⟨⟨⟨.inr rfl, .inr rfl, .inr rfl, .inr rfl, .inr rfl, .inr rfl, .inr rfl, .inr rfl, .inl rfl, trivial⟩, rfl⟩, trivial⟩
      · intro zq2
        show Exs _ _ _ ⟨[some (.fr ((eL (eT3 D.str D.int D.int)) kinds)), some (.fr ((eL (eT3 D.str D.str D.int)) ways)), some (.fr (D.int length)), some (.ad 100), some (.fr (D.int ((0 : Int) + (zy0 : Int)))), some (.ad 101), some (.fr ((eT3 D.str D.int D.int) zy1)), some (.fr (D.int (ways.foldl (m_law_rows_l2 kinds zs0 ((0 : Int) + (zy0 : Int)) zy1) (0 : Int)))), none], [(100, .fl ((zs0).map (eL D.int))), (101, .fl ((zs1).map D.int))]⟩ _
        refine exs_cons (ex_join ⟨[some (.fr ((eL (eT3 D.str D.int D.int)) kinds)), some (.fr ((eL (eT3 D.str D.str D.int)) ways)), some (.fr (D.int length)), some (.ad 100), some (.fr (D.int ((0 : Int) + (zy0 : Int)))), some (.ad 101), some (.fr ((eT3 D.str D.int D.int) zy1)), some (.fr (D.int (if (zy1.2.2 ≤ ((0 : Int) + (zy0 : Int))) then ((ways.foldl (m_law_rows_l2 kinds zs0 ((0 : Int) + (zy0 : Int)) zy1) (0 : Int)) + zy1.2.1) else (ways.foldl (m_law_rows_l2 kinds zs0 ((0 : Int) + (zy0 : Int)) zy1) (0 : Int))))), none], [(100, .fl ((zs0).map (eL D.int))), (101, .fl ((zs1).map D.int))]⟩ (ex_ifP bd_d (et_cmp o_le (ev_ix (.t (d := D.int zy1.2.2) rfl) (ev_var 6 rfl (.inl rfl) rfl) ev_int) (ev_var 4 rfl (.inl rfl) rfl) (nomark _)) (fun (zh2 : (zy1.2.2 ≤ ((0 : Int) + (zy0 : Int)))) => ?_) (fun (zh2 : ¬ (zy1.2.2 ≤ ((0 : Int) + (zy0 : Int)))) => ?_)) ?_)
        · skip
          refine exs_one (ex_set 7 (ev_bin o_add (ev_var 7 rfl (.inl rfl) rfl) (ev_ix (.t (d := D.int zy1.2.1) rfl) (ev_var 6 rfl (.inl rfl) rfl) ev_int)) ?_ nd rfl (.inl rfl))
          exact ⟨_, rfl, by simp only [if_pos zh2]; exact ⟨⟨.inr rfl, .inr rfl, .inr rfl, .inr rfl, .inr rfl, .inr rfl, .inr rfl, .inr rfl, .inl rfl, trivial⟩, rfl⟩⟩
        · skip
          refine exs_nil ?_
          exact ⟨_, rfl, by simp only [if_neg zh2]; exact ⟨⟨.inr rfl, .inr rfl, .inr rfl, .inr rfl, .inr rfl, .inr rfl, .inr rfl, .inr rfl, .inl rfl, trivial⟩, rfl⟩⟩
        · skip
          show Exs _ _ _ ⟨[some (.fr ((eL (eT3 D.str D.int D.int)) kinds)), some (.fr ((eL (eT3 D.str D.str D.int)) ways)), some (.fr (D.int length)), some (.ad 100), some (.fr (D.int ((0 : Int) + (zy0 : Int)))), some (.ad 101), some (.fr ((eT3 D.str D.int D.int) zy1)), some (.fr (D.int (if (zy1.2.2 ≤ ((0 : Int) + (zy0 : Int))) then ((ways.foldl (m_law_rows_l2 kinds zs0 ((0 : Int) + (zy0 : Int)) zy1) (0 : Int)) + zy1.2.1) else (ways.foldl (m_law_rows_l2 kinds zs0 ((0 : Int) + (zy0 : Int)) zy1) (0 : Int))))), none], [(100, .fl ((zs0).map (eL D.int))), (101, .fl ((zs1).map D.int))]⟩ _
          generalize zg_best1 : (if (zy1.2.2 ≤ ((0 : Int) + (zy0 : Int))) then ((ways.foldl (m_law_rows_l2 kinds zs0 ((0 : Int) + (zy0 : Int)) zy1) (0 : Int)) + zy1.2.1) else (ways.foldl (m_law_rows_l2 kinds zs0 ((0 : Int) + (zy0 : Int)) zy1) (0 : Int))) = best1
          show Exs _ _ _ ⟨[some (.fr ((eL (eT3 D.str D.int D.int)) kinds)), some (.fr ((eL (eT3 D.str D.str D.int)) ways)), some (.fr (D.int length)), some (.ad 100), some (.fr (D.int ((0 : Int) + (zy0 : Int)))), some (.ad 101), some (.fr ((eT3 D.str D.int D.int) zy1)), some (.fr (D.int best1)), none], [(100, .fl ((zs0).map (eL D.int))), (101, .fl ((zs1).map D.int))]⟩ _
          show Exs _ _ _ ⟨[some (.fr ((eL (eT3 D.str D.int D.int)) kinds)), some (.fr ((eL (eT3 D.str D.str D.int)) ways)), some (.fr (D.int length)), some (.ad 100), some (.fr (D.int ((0 : Int) + (zy0 : Int)))), some (.ad 101), some (.fr ((eT3 D.str D.int D.int) zy1)), some (.fr (D.int best1)), none], [(100, .fl ((zs0).map (eL D.int))), (101, .fl ((zs1).map D.int))]⟩ _
          refine exs_one (ex_expr (ev_appendT (n := 101) (enc := D.int) (xs := zs1) (xs0 := zs1) best1 rfl rfl rfl (by walk_at "sd") (ev_var 5 rfl (.inl rfl) rfl) (ev_var 7 rfl (.inl rfl) rfl)) ?_)
          have est : (m_law_rows_l1 kinds ways zs0 ((0 : Int) + (zy0 : Int))) zs1 zy1 = (zs1 ++ [best1]) := by subst zg_best1; simp only [m_law_rows_l1, not_true_eq_false, not_false_eq_true, ↓reduceIte]
          show Le _ _ ∧ _
          try rw [est]
          exact ⟨⟨⟨.inr rfl, .inr rfl, .inr rfl, .inr rfl, .inr rfl, .inr rfl, .inl rfl, .inl rfl, .inl rfl, trivial⟩, rfl⟩, (by simp; omega)⟩
    · intro zq1
      show Exs _ _ _ ⟨[some (.fr ((eL (eT3 D.str D.int D.int)) kinds)), some (.fr ((eL (eT3 D.str D.str D.int)) ways)), some (.fr (D.int length)), some (.ad 100), some (.fr (D.int ((0 : Int) + (zy0 : Int)))), some (.ad 101), none, none, none], [(100, .fl ((zs0).map (eL D.int))), (101, .fl (((kinds.foldl (m_law_rows_l1 kinds ways zs0 ((0 : Int) + (zy0 : Int))) ([] : List Int))).map D.int))]⟩ _
      refine exs_freezeT 101 (xs := (kinds.foldl (m_law_rows_l1 kinds ways zs0 ((0 : Int) + (zy0 : Int))) ([] : List Int))) (enc := D.int) (by exact rfl) ?_
      show Exs _ _ _ ⟨[some (.fr ((eL (eT3 D.str D.int D.int)) kinds)), some (.fr ((eL (eT3 D.str D.str D.int)) ways)), some (.fr (D.int length)), some (.ad 100), some (.fr (D.int ((0 : Int) + (zy0 : Int)))), some (.fr ((eL D.int) (kinds.foldl (m_law_rows_l1 kinds ways zs0 ((0 : Int) + (zy0 : Int))) ([] : List Int)))), none, none, none], [(100, .fl ((zs0).map (eL D.int)))]⟩ _
      refine exs_one (ex_expr (ev_appendT (n := 100) (enc := (eL D.int)) (xs := zs0) (xs0 := zs0) (kinds.foldl (m_law_rows_l1 kinds ways zs0 ((0 : Int) + (zy0 : Int))) ([] : List Int)) rfl rfl rfl (by walk_at "sd") (ev_var 3 rfl (.inl rfl) rfl) (ev_var 5 rfl (.inl rfl) rfl)) ?_)
      have est : (m_law_rows_l0 kinds ways) zs0 zy0 = (zs0 ++ [(kinds.foldl (m_law_rows_l1 kinds ways zs0 ((0 : Int) + (zy0 : Int))) ([] : List Int))]) := by simp only [m_law_rows_l0, not_true_eq_false, not_false_eq_true, ↓reduceIte]
      show Le _ _ ∧ _
      try rw [est]
      exact ⟨⟨⟨.inr rfl, .inr rfl, .inr rfl, .inr rfl, .inl rfl, .inl rfl, .inl rfl, .inl rfl, .inl rfl, trivial⟩, rfl⟩, ⟨by simp; omega, fun r hr => by rcases List.mem_append.mp hr with q | q; exact zqb r q; rw [List.mem_singleton.mp q]; omega⟩⟩
  · intro zq0
    show Exs _ _ _ ⟨[some (.fr ((eL (eT3 D.str D.int D.int)) kinds)), some (.fr ((eL (eT3 D.str D.str D.int)) ways)), some (.fr (D.int length)), some (.ad 100), none, none, none, none, none], [(100, .fl ((((List.range ((length + (1 : Int))).toNat).foldl (m_law_rows_l0 kinds ways) ([] : List (List Int)))).map (eL D.int)))]⟩ _
    refine exs_freezeT 100 (xs := ((List.range ((length + (1 : Int))).toNat).foldl (m_law_rows_l0 kinds ways) ([] : List (List Int)))) (enc := (eL D.int)) (by exact rfl) ?_
    show Exs _ _ _ ⟨[some (.fr ((eL (eT3 D.str D.int D.int)) kinds)), some (.fr ((eL (eT3 D.str D.str D.int)) ways)), some (.fr (D.int length)), some (.fr ((eL (eL D.int)) ((List.range ((length + (1 : Int))).toNat).foldl (m_law_rows_l0 kinds ways) ([] : List (List Int))))), none, none, none, none, none], []⟩ _
    refine exs_one (ex_ret (ev_var 3 rfl (.inl rfl) rfl) ?_)
    have efin : m_law_rows kinds ways length = ((List.range ((length + (1 : Int))).toNat).foldl (m_law_rows_l0 kinds ways) ([] : List (List Int))) := by simp only [m_law_rows, not_true_eq_false, not_false_eq_true, ↓reduceIte]
    rw [efin] at zk
    exact zk _
def m_law_tasks_l0 (numbers : List Int) (at_ : Int) (zs0 : (List ((List (Str × Int × Int)) × (List (Str × Str × Int))))) (zy0 : Nat) : (List ((List (Str × Int × Int)) × (List (Str × Str × Int)))) :=
  let kinds : List (Str × Int × Int) := (m_law_kinds numbers (at_ + ((20 : Int) * ((0 : Int) + (zy0 : Int)))) (3 : Int))
  (zs0 ++ [(kinds, (m_law_ways numbers ((at_ + (7 : Int)) + ((20 : Int) * ((0 : Int) + (zy0 : Int)))) kinds (4 : Int)))])
def m_law_tasks (numbers : List Int) (at_ : Int) (count : Int) : List ((List (Str × Int × Int)) × (List (Str × Str × Int))) :=
  ((List.range (count).toNat).foldl (m_law_tasks_l0 numbers at_) ([] : List ((List (Str × Int × Int)) × (List (Str × Str × Int)))))
set_option hygiene false in
local macro_rules | `(tactic| walk_at "pre") => `(tactic| first | exact ⟨by omega, by omega, hpre.2.2.2.2.1, by omega, by omega, by omega⟩ | fail)
def pairB (numbers : List Int) (at_ : Int) (y : Nat) : List (Str × Int × Int) × List (Str × Str × Int) :=
  (m_law_kinds numbers (at_ + 20 * (0 + (y : Int))) 3, m_law_ways numbers (at_ + 7 + 20 * (0 + (y : Int))) (m_law_kinds numbers (at_ + 20 * (0 + (y : Int))) 3) 4)
theorem tasks_shape (numbers : List Int) (at_ count : Int) : m_law_tasks numbers at_ count = (List.range count.toNat).map (pairB numbers at_) := by
  unfold m_law_tasks
  rw [fold_snoc (pairB numbers at_) (m_law_tasks_l0 numbers at_) (fun s y => rfl), List.nil_append]
theorem tasks_ok {numbers : List Int} (hn : ∀ x ∈ numbers, 0 ≤ x ∧ x ≤ 1008) (at_ : Int) {count : Int} (h0 : 0 ≤ count) : ((m_law_tasks numbers at_ count).length : Int) = count ∧ ∀ p ∈ m_law_tasks numbers at_ count, KindsOk p.1 ∧ WaysOk p.2 p.1 := by
  rw [tasks_shape]
  refine ⟨by rw [List.length_map, List.length_range]; omega, fun p hp => ?_⟩
  obtain ⟨y, _, rfl⟩ := List.mem_map.mp hp
  have hk := (kinds_ok hn (at_ + 20 * (0 + (y : Int))) (most := 3) (by decide) (by decide)).1
  exact ⟨hk, (ways_ok numbers _ hk.pos (most := 4) (by decide) (by decide)).1⟩
theorem sc_law_tasks : FnScope ["numbers", "at", "count", "tasks", "k", "kinds"] ["numbers", "at", "count"] (defScope s_law_tasks) := ⟨rfl, rfl, rfl, by decide +kernel, rfl, by decide +kernel, by decide +kernel⟩
def sp_law_tasks : SpN := fun zcs zL zKc => ∃ numbers : List Int, ∃ at_ : Int, ∃ count : Int, zcs = [.fr ((eL D.int) numbers), .fr (D.int at_), .fr (D.int count)] ∧ zL = [] ∧ (0 ≤ at_ ∧ 0 ≤ count ∧ count ≤ 3 ∧ at_ + 20 * count ≤ numbers.length ∧ (∀ x ∈ numbers, 0 ≤ x ∧ x ≤ 1008) ∧ 3 ≤ numbers.length) ∧ ∀ zL', zKc (.fr ((eL (eT2 (eL (eT3 D.str D.int D.int)) (eL (eT3 D.str D.str D.int)))) (m_law_tasks numbers at_ count))) zL'
theorem ok_law_tasks (T : TX K mg) : FnOk P w K mg base CX0 3 T.a_law_tasks T.d_law_tasks ["numbers", "at", "count"] (SpOf K mg sp_law_tasks) := by
  have O_law_kinds := ok_law_kinds (P := P) (w := w) (base := base) T
  have O_law_ways := ok_law_ways (P := P) (w := w) (base := base) T
  refine T.F_law_tasks.okN sc_law_tasks (fun zcs zL zKc zh => by obtain ⟨numbers, at_, count, rfl, _⟩ := zh; rfl) fun zcdv zA zout zst zH zE zB zcs zL zKc zhr zh => ?_
  obtain ⟨numbers, at_, count, rfl, rfl, hpre, zk⟩ := zh
  have nd := sc_law_tasks.nd
  have hSL := sizeLine_eq
  show Exs _ _ _ ⟨[some (.fr ((eL D.int) numbers)), some (.fr (D.int at_)), some (.fr (D.int count)), none, none, none], []⟩ _
  refine exs_cons (ex_set 3 (ev_lstN 100 (enc := (eT2 (eL (eT3 D.str D.int D.int)) (eL (eT3 D.str D.str D.int)))) ([] : List ((List (Str × Int × Int)) × (List (Str × Str × Int)))) ea_nil rfl (by simp only [List.length_cons, List.length_nil]; decide) (by simp [names]) (by decide)) ?_ nd rfl (.inl rfl))
  show Exs _ _ _ ⟨[some (.fr ((eL D.int) numbers)), some (.fr (D.int at_)), some (.fr (D.int count)), some (.ad 100), none, none], [(100, .fl ((([] : List ((List (Str × Int × Int)) × (List (Str × Str × Int))))).map (eT2 (eL (eT3 D.str D.int D.int)) (eL (eT3 D.str D.str D.int)))))]⟩ _
  refine exs_cons (ex_forF (enc := (fun i : Nat => D.int ((0 : Int) + (i : Int)))) (fun (zs0 : (List ((List (Str × Int × Int)) × (List (Str × Str × Int))))) => (⟨[some (.fr ((eL D.int) numbers)), some (.fr (D.int at_)), some (.fr (D.int count)), some (.ad 100), none, none], [(100, .fl ((zs0).map (eT2 (eL (eT3 D.str D.int D.int)) (eL (eT3 D.str D.str D.int)))))]⟩ : Nz.S)) (m_law_tasks_l0 numbers at_) ([] : List ((List (Str × Int × Int)) × (List (Str × Str × Int)))) (fun (zi0 : Nat) (zs0 : (List ((List (Str × Int × Int)) × (List (Str × Str × Int))))) => zs0.length = zi0) (src_range1 (ea_cons (ev_var 2 rfl (.inl rfl) rfl) ea_nil) (by exact rfl) T.n_range (by walk_at "sd") (by walk_at "sd")) ⟨⟨.inr rfl, .inr rfl, .inr rfl, .inr rfl, .inl rfl, .inl rfl, trivial⟩, rfl⟩ (by simp) ?_ ?_ PassesOwn.never rfl)
  · intro zi0 zy0 zs0 zhy0 zq0
    skip
    have hy0 := seq_range zhy0
    have hi := (List.getElem?_eq_some_iff.mp zhy0).1
    simp only [List.length_range] at hi
    refine ⟨⟨[some (.fr ((eL D.int) numbers)), some (.fr (D.int at_)), some (.fr (D.int count)), some (.ad 100), some (.fr (D.int ((0 : Int) + (zy0 : Int)))), none], [(100, .fl ((zs0).map (eT2 (eL (eT3 D.str D.int D.int)) (eL (eT3 D.str D.str D.int)))))]⟩, (eg_name 4 nd rfl (.inl rfl)), ?_⟩
    refine exs_cons (ex_set 5 (ev_call (ds := [(eL D.int) numbers, D.int (at_ + ((20 : Int) * ((0 : Int) + (zy0 : Int)))), D.int (3 : Int)]) (ds' := []) (dvs := []) (dfs := []) O_law_kinds (zhr.mono (by decide)) T.m_law_kinds T.k_law_kinds T.b_law_kinds .nil (fun _ => .nil) (ea_cons (ev_var 0 rfl (.inl rfl) rfl) (ea_cons (ev_bin o_add (ev_var 1 rfl (.inl rfl) rfl) (ev_bin (o_mul (by walk_at "mul")) ev_int (ev_var 4 rfl (.inl rfl) rfl))) (ea_cons ev_int ea_nil))) (fun _ zkk => ⟨numbers, (at_ + ((20 : Int) * ((0 : Int) + (zy0 : Int)))), (3 : Int), rfl, rfl, (by walk_at "pre"), zkk⟩) (by exact rfl)) ?_ nd rfl (.inl rfl))
    show Exs _ _ _ ⟨[some (.fr ((eL D.int) numbers)), some (.fr (D.int at_)), some (.fr (D.int count)), some (.ad 100), some (.fr (D.int ((0 : Int) + (zy0 : Int)))), some (.fr ((eL (eT3 D.str D.int D.int)) (m_law_kinds numbers (at_ + ((20 : Int) * ((0 : Int) + (zy0 : Int)))) (3 : Int))))], [(100, .fl ((zs0).map (eT2 (eL (eT3 D.str D.int D.int)) (eL (eT3 D.str D.str D.int)))))]⟩ _
    generalize zg_kinds : (m_law_kinds numbers (at_ + ((20 : Int) * ((0 : Int) + (zy0 : Int)))) (3 : Int)) = kinds
    show Exs _ _ _ ⟨[some (.fr ((eL D.int) numbers)), some (.fr (D.int at_)), some (.fr (D.int count)), some (.ad 100), some (.fr (D.int ((0 : Int) + (zy0 : Int)))), some (.fr ((eL (eT3 D.str D.int D.int)) kinds))], [(100, .fl ((zs0).map (eT2 (eL (eT3 D.str D.int D.int)) (eL (eT3 D.str D.str D.int)))))]⟩ _
    have hkf := kinds_ok hpre.2.2.2.2.1 (at_ + 20 * (0 + (zy0 : Int))) (most := 3) (by decide) (by decide)
    rw [zg_kinds] at hkf
    obtain ⟨hko, hkl⟩ := hkf
    have hk1 := hko.pos
    have hk8 := hko.le
    refine exs_one (ex_expr (ev_appendT (n := 100) (enc := (eT2 (eL (eT3 D.str D.int D.int)) (eL (eT3 D.str D.str D.int)))) (xs := zs0) (xs0 := zs0) (kinds, (m_law_ways numbers ((at_ + (7 : Int)) + ((20 : Int) * ((0 : Int) + (zy0 : Int)))) kinds (4 : Int))) rfl rfl rfl (by walk_at "sd") (ev_var 3 rfl (.inl rfl) rfl) (ev_tup (ds := [(eL (eT3 D.str D.int D.int)) kinds, (eL (eT3 D.str D.str D.int)) (m_law_ways numbers ((at_ + (7 : Int)) + ((20 : Int) * ((0 : Int) + (zy0 : Int)))) kinds (4 : Int))]) (ea_cons (ev_var 5 rfl (.inl rfl) rfl) (ea_cons (ev_call (ds := [(eL D.int) numbers, D.int ((at_ + (7 : Int)) + ((20 : Int) * ((0 : Int) + (zy0 : Int)))), (eL (eT3 D.str D.int D.int)) kinds, D.int (4 : Int)]) (ds' := []) (dvs := []) (dfs := []) O_law_ways (zhr.mono (by decide)) T.m_law_ways T.k_law_ways T.b_law_ways .nil (fun _ => .nil) (ea_cons (ev_var 0 rfl (.inl rfl) rfl) (ea_cons (ev_bin o_add (ev_bin o_add (ev_var 1 rfl (.inl rfl) rfl) ev_int) (ev_bin (o_mul (by walk_at "mul")) ev_int (ev_var 4 rfl (.inl rfl) rfl))) (ea_cons (ev_var 5 rfl (.inl rfl) rfl) (ea_cons ev_int ea_nil)))) (fun _ zkk => ⟨numbers, ((at_ + (7 : Int)) + ((20 : Int) * ((0 : Int) + (zy0 : Int)))), kinds, (4 : Int), rfl, rfl, (by walk_at "pre"), zkk⟩) (by exact rfl)) ea_nil)) (by simp only [List.length_cons, List.length_nil]; decide))) ?_)
    have est : (m_law_tasks_l0 numbers at_) zs0 zy0 = (zs0 ++ [(kinds, (m_law_ways numbers ((at_ + (7 : Int)) + ((20 : Int) * ((0 : Int) + (zy0 : Int)))) kinds (4 : Int)))]) := by subst zg_kinds; simp only [m_law_tasks_l0, not_true_eq_false, not_false_eq_true, ↓reduceIte]
    show Le _ _ ∧ _
    try rw [est]
    exact ⟨⟨⟨.inr rfl, .inr rfl, .inr rfl, .inr rfl, .inl rfl, .inl rfl, trivial⟩, rfl⟩, (by simp; omega)⟩
  · intro zq0
    show Exs _ _ _ ⟨[some (.fr ((eL D.int) numbers)), some (.fr (D.int at_)), some (.fr (D.int count)), some (.ad 100), none, none], [(100, .fl ((((List.range (count).toNat).foldl (m_law_tasks_l0 numbers at_) ([] : List ((List (Str × Int × Int)) × (List (Str × Str × Int)))))).map (eT2 (eL (eT3 D.str D.int D.int)) (eL (eT3 D.str D.str D.int)))))]⟩ _
    refine exs_freezeT 100 (xs := ((List.range (count).toNat).foldl (m_law_tasks_l0 numbers at_) ([] : List ((List (Str × Int × Int)) × (List (Str × Str × Int)))))) (enc := (eT2 (eL (eT3 D.str D.int D.int)) (eL (eT3 D.str D.str D.int)))) (by exact rfl) ?_
    show Exs _ _ _ ⟨[some (.fr ((eL D.int) numbers)), some (.fr (D.int at_)), some (.fr (D.int count)), some (.fr ((eL (eT2 (eL (eT3 D.str D.int D.int)) (eL (eT3 D.str D.str D.int)))) ((List.range (count).toNat).foldl (m_law_tasks_l0 numbers at_) ([] : List ((List (Str × Int × Int)) × (List (Str × Str × Int))))))), none, none], []⟩ _
    refine exs_one (ex_ret (ev_var 3 rfl (.inl rfl) rfl) ?_)
    have efin : m_law_tasks numbers at_ count = ((List.range (count).toNat).foldl (m_law_tasks_l0 numbers at_) ([] : List ((List (Str × Int × Int)) × (List (Str × Str × Int))))) := by simp only [m_law_tasks, not_true_eq_false, not_false_eq_true, ↓reduceIte]
    rw [efin] at zk
    exact zk _
def m_law_system_l0 (tasks : List ((List (Str × Int × Int)) × (List (Str × Str × Int)))) (zs0 : (List Task)) (zy0 : Nat) : (List Task) :=
  (zs0 ++ [(m_Task_init__ ((Str.ofString "t") ++ (Str.ofString (toString ((0 : Int) + (zy0 : Int))))) ((tasks.getD (((0 : Int) + (zy0 : Int))).toNat default).1) ((tasks.getD (((0 : Int) + (zy0 : Int))).toNat default).2))])
def m_law_system (tasks : List ((List (Str × Int × Int)) × (List (Str × Str × Int)))) (table : List Int) : System :=
  (m_System_init__ ((List.range ((tasks.length : Int)).toNat).foldl (m_law_system_l0 tasks) ([] : List Task)) table)
def tname (k : Nat) : Str := Str.ofString "t" ++ Str.ofString (toString (k : Int))
theorem tnames_all : ∀ n : Fin 7, m_are_task_names ((List.range n.val).map tname) = true := by decide +kernel
theorem tname_all : ∀ n : Fin 7, m_is_name (tname n.val) = true := by decide +kernel
theorem tname_ok (k : Nat) (h : k < 7) : m_is_name (Str.ofString "t" ++ Str.ofString (toString ((0 : Int) + (k : Int)))) = true := by
  rw [Int.zero_add]; exact tname_all ⟨k, h⟩
theorem tnames_ok {n : Nat} (h : n ≤ 6) : m_are_task_names ((List.range n).map tname) = true := tnames_all ⟨n, by omega⟩
theorem tname_len : ∀ n : Fin 7, (tname n.val).length ≤ 1000 := by decide +kernel
theorem tadd_all : ∀ n : Fin 7, (Str.ofString "t").length + (Str.ofString (toString (n.val : Int))).length ≤ 1000 := by decide +kernel
theorem tadd_len (k : Nat) (h : k < 7) : (Str.ofString "t").length + (Str.ofString (toString ((0 : Int) + (k : Int)))).length ≤ sizeLine := by
  have := tadd_all ⟨k, h⟩
  rw [Int.zero_add, sizeLine_eq]; dsimp only at this; omega
set_option hygiene false in
local macro_rules | `(tactic| walk_at "sd") => `(tactic| first | exact tadd_len zy0 (by omega) | fail)
set_option hygiene false in
local macro_rules | `(tactic| walk_at "pre") => `(tactic| first | exact ⟨by rw [Int.zero_add]; exact tname_len ⟨zy0, by omega⟩, hnm, hpk.1.short, by have := hpk.1.le; omega, hpk.1.are, by have := hpk.2.le; omega, hpk.2.are⟩ | exact ⟨by omega, by omega, hpre.2.2.1, by rw [hnz.2, show ((tasks.length : Int)).toNat = tasks.length by omega]; exact htn⟩ | fail)

theorem sc_law_system : FnScope ["tasks", "table", "made", "k"] ["tasks", "table"] (defScope s_law_system) := ⟨rfl, rfl, rfl, by decide +kernel, rfl, by decide +kernel, by decide +kernel⟩
def sp_law_system : SpN := fun zcs zL zKc => ∃ tasks : List ((List (Str × Int × Int)) × (List (Str × Str × Int))), ∃ table : List Int, zcs = [.fr ((eL (eT2 (eL (eT3 D.str D.int D.int)) (eL (eT3 D.str D.str D.int)))) tasks), .fr ((eL D.int) table)] ∧ zL = [] ∧ (tasks.length ≤ 6 ∧ (∀ p ∈ tasks, KindsOk p.1 ∧ WaysOk p.2 p.1) ∧ m_is_table table = true ∧ table.length ≤ 10000) ∧ ∀ zL', zKc (.fr (eSystem (m_law_system tasks table))) zL'
theorem ok_law_system (T : TX K mg) : FnOk P w K mg base CX0 6 T.a_law_system T.d_law_system ["tasks", "table"] (SpOf K mg sp_law_system) := by
  have O_System_init__ := ok_System_init__ (P := P) (w := w) (base := base) T
  have O_Task_init__ := ok_Task_init__ (P := P) (w := w) (base := base) T
  refine T.F_law_system.okN sc_law_system (fun zcs zL zKc zh => by obtain ⟨tasks, table, rfl, _⟩ := zh; rfl) fun zcdv zA zout zst zH zE zB zcs zL zKc zhr zh => ?_
  obtain ⟨tasks, table, rfl, rfl, hpre, zk⟩ := zh
  have nd := sc_law_system.nd
  have hSL := sizeLine_eq
  show Exs _ _ _ ⟨[some (.fr ((eL (eT2 (eL (eT3 D.str D.int D.int)) (eL (eT3 D.str D.str D.int)))) tasks)), some (.fr ((eL D.int) table)), none, none], []⟩ _
  refine exs_cons (ex_set 2 (ev_lstN 100 (enc := eTask) ([] : List Task) ea_nil rfl (by simp only [List.length_cons, List.length_nil]; decide) (by simp [names]) (by decide)) ?_ nd rfl (.inl rfl))
  show Exs _ _ _ ⟨[some (.fr ((eL (eT2 (eL (eT3 D.str D.int D.int)) (eL (eT3 D.str D.str D.int)))) tasks)), some (.fr ((eL D.int) table)), some (.ad 100), none], [(100, .fl ((([] : List Task)).map eTask))]⟩ _
  refine exs_cons (ex_forF (enc := (fun i : Nat => D.int ((0 : Int) + (i : Int)))) (fun (zs0 : (List Task)) => (⟨[some (.fr ((eL (eT2 (eL (eT3 D.str D.int D.int)) (eL (eT3 D.str D.str D.int)))) tasks)), some (.fr ((eL D.int) table)), some (.ad 100), none], [(100, .fl ((zs0).map eTask))]⟩ : Nz.S)) (m_law_system_l0 tasks) ([] : List Task) (fun (zi0 : Nat) (zs0 : (List Task)) => zs0.length = zi0 ∧ zs0.map (fun t => t.name) = (List.range zi0).map tname) (src_range1 (ea_cons (ev_len (ln_L (xs := tasks) (enc := (eT2 (eL (eT3 D.str D.int D.int)) (eL (eT3 D.str D.str D.int)))) (by exact rfl)) (ev_var 0 rfl (.inl rfl) rfl) (by exact rfl) T.n_len) ea_nil) (by exact rfl) T.n_range (by walk_at "sd") (by walk_at "sd")) ⟨⟨.inr rfl, .inr rfl, .inr rfl, .inl rfl, trivial⟩, rfl⟩ ⟨by simp, by simp⟩ ?_ ?_ PassesOwn.never rfl)
  · intro zi0 zy0 zs0 zhy0 zq0
    skip
    have hy0 := seq_range zhy0
    have hi := (List.getElem?_eq_some_iff.mp zhy0).1
    simp only [List.length_range] at hi
    have hpk := hpre.2.1 _ (getD_mem (xs := tasks) (i := (0 + (zy0 : Int)).toNat) (by omega))
    have hnm := tname_ok zy0 (by omega)
    refine ⟨⟨[some (.fr ((eL (eT2 (eL (eT3 D.str D.int D.int)) (eL (eT3 D.str D.str D.int)))) tasks)), some (.fr ((eL D.int) table)), some (.ad 100), some (.fr (D.int ((0 : Int) + (zy0 : Int))))], [(100, .fl ((zs0).map eTask))]⟩, (eg_name 3 nd rfl (.inl rfl)), ?_⟩
    refine exs_one (ex_expr (ev_appendT (n := 100) (enc := eTask) (xs := zs0) (xs0 := zs0) (m_Task_init__ ((Str.ofString "t") ++ (Str.ofString (toString ((0 : Int) + (zy0 : Int))))) ((tasks.getD (((0 : Int) + (zy0 : Int))).toNat default).1) ((tasks.getD (((0 : Int) + (zy0 : Int))).toNat default).2)) rfl rfl rfl (by walk_at "sd") (ev_var 2 rfl (.inl rfl) rfl) (ev_makeK (c := "Task") (fs := fTask (m_Task_init__ ((Str.ofString "t") ++ (Str.ofString (toString ((0 : Int) + (zy0 : Int))))) ((tasks.getD (((0 : Int) + (zy0 : Int))).toNat default).1) ((tasks.getD (((0 : Int) + (zy0 : Int))).toNat default).2))) (ds := [D.str ((Str.ofString "t") ++ (Str.ofString (toString ((0 : Int) + (zy0 : Int)))))]) (es' := [(eL (eT3 D.str D.int D.int)) ((tasks.getD (((0 : Int) + (zy0 : Int))).toNat default).1), (eL (eT3 D.str D.str D.int)) ((tasks.getD (((0 : Int) + (zy0 : Int))).toNat default).2)]) (n := 1) (ks := ["kinds", "ways"]) T.q_Task T.mk_Task_init__ O_Task_init__ (zhr.mono (by decide)) T.kb_Task_init___1_kinds_ways (ea_cons (ev_bin (o_adds (by walk_at "sd")) ev_str (ev_callTy (ds := [D.int ((0 : Int) + (zy0 : Int))]) (c_str (by walk_at "str")) (ea_cons (ev_var 3 rfl (.inl rfl) rfl) ea_nil) (by exact rfl) T.n_str (by decide +kernel))) ea_nil) (ek_cons (ev_callTy (ds := [(eL (eT3 D.str D.int D.int)) ((tasks.getD (((0 : Int) + (zy0 : Int))).toNat default).1)]) c_listL (ea_cons (ev_ix (.t (d := (eL (eT3 D.str D.int D.int)) ((tasks.getD (((0 : Int) + (zy0 : Int))).toNat default).1)) rfl) (ev_ix (ix_L (xs := tasks) (enc := (eT2 (eL (eT3 D.str D.int D.int)) (eL (eT3 D.str D.str D.int)))) (by exact rfl) (by walk_at "sd") (by walk_at "sd")) (ev_var 0 rfl (.inl rfl) rfl) (ev_var 3 rfl (.inl rfl) rfl)) ev_int) ea_nil) (by exact rfl) T.n_list (by decide +kernel)) (ek_cons (ev_callTy (ds := [(eL (eT3 D.str D.str D.int)) ((tasks.getD (((0 : Int) + (zy0 : Int))).toNat default).2)]) c_listL (ea_cons (ev_ix (.t (d := (eL (eT3 D.str D.str D.int)) ((tasks.getD (((0 : Int) + (zy0 : Int))).toNat default).2)) rfl) (ev_ix (ix_L (xs := tasks) (enc := (eT2 (eL (eT3 D.str D.int D.int)) (eL (eT3 D.str D.str D.int)))) (by exact rfl) (by walk_at "sd") (by walk_at "sd")) (ev_var 0 rfl (.inl rfl) rfl) (ev_var 3 rfl (.inl rfl) rfl)) ev_int) ea_nil) (by exact rfl) T.n_list (by decide +kernel)) ek_nil)) rfl rfl (fun _ zkk => ⟨((Str.ofString "t") ++ (Str.ofString (toString ((0 : Int) + (zy0 : Int))))), (tasks.getD (((0 : Int) + (zy0 : Int))).toNat default).1, (tasks.getD (((0 : Int) + (zy0 : Int))).toNat default).2, rfl, rfl, (by walk_at "pre"), zkk⟩) (by exact rfl))) ?_)
    have est : (m_law_system_l0 tasks) zs0 zy0 = (zs0 ++ [(m_Task_init__ ((Str.ofString "t") ++ (Str.ofString (toString ((0 : Int) + (zy0 : Int))))) ((tasks.getD (((0 : Int) + (zy0 : Int))).toNat default).1) ((tasks.getD (((0 : Int) + (zy0 : Int))).toNat default).2))]) := by simp only [m_law_system_l0, not_true_eq_false, not_false_eq_true, ↓reduceIte]
    show Le _ _ ∧ _
    try rw [est]
    exact ⟨⟨⟨.inr rfl, .inr rfl, .inr rfl, .inl rfl, trivial⟩, rfl⟩, ⟨by simp; omega, by rw [List.map_append, zq0.2, List.range_succ, List.map_append, List.map_singleton, List.map_singleton, init_eq hnm hpk.1.are hpk.2.are, hy0.2, Int.zero_add]; rfl⟩⟩
  · intro zq0
    have hnz := zq0
    rw [List.length_range] at hnz
    have htn := tnames_ok (n := tasks.length) (by omega)
    show Exs _ _ _ ⟨[some (.fr ((eL (eT2 (eL (eT3 D.str D.int D.int)) (eL (eT3 D.str D.str D.int)))) tasks)), some (.fr ((eL D.int) table)), some (.ad 100), none], [(100, .fl ((((List.range ((tasks.length : Int)).toNat).foldl (m_law_system_l0 tasks) ([] : List Task))).map eTask))]⟩ _
    refine exs_freezeT 100 (xs := ((List.range ((tasks.length : Int)).toNat).foldl (m_law_system_l0 tasks) ([] : List Task))) (enc := eTask) (by exact rfl) ?_
    show Exs _ _ _ ⟨[some (.fr ((eL (eT2 (eL (eT3 D.str D.int D.int)) (eL (eT3 D.str D.str D.int)))) tasks)), some (.fr ((eL D.int) table)), some (.fr ((eL eTask) ((List.range ((tasks.length : Int)).toNat).foldl (m_law_system_l0 tasks) ([] : List Task)))), none], []⟩ _
    refine exs_one (ex_ret (ev_makeK (c := "System") (fs := fSystem (m_System_init__ ((List.range ((tasks.length : Int)).toNat).foldl (m_law_system_l0 tasks) ([] : List Task)) table)) (ds := [(eL eTask) ((List.range ((tasks.length : Int)).toNat).foldl (m_law_system_l0 tasks) ([] : List Task))]) (es' := [(eL D.int) table]) (n := 1) (ks := ["table"]) T.q_System T.mk_System_init__ O_System_init__ (zhr.mono (by decide)) T.kb_System_init___1_table (ea_cons (ev_var 2 rfl (.inl rfl) rfl) ea_nil) (ek_cons (ev_callTy (ds := [(eL D.int) table]) c_listL (ea_cons (ev_var 1 rfl (.inl rfl) rfl) ea_nil) (by exact rfl) T.n_list (by decide +kernel)) ek_nil) rfl rfl (fun _ zkk => ⟨((List.range ((tasks.length : Int)).toNat).foldl (m_law_system_l0 tasks) ([] : List Task)), table, rfl, rfl, (by walk_at "pre"), zkk⟩) (by exact rfl)) ?_)
    have efin : m_law_system tasks table = (m_System_init__ ((List.range ((tasks.length : Int)).toNat).foldl (m_law_system_l0 tasks) ([] : List Task)) table) := by simp only [m_law_system, not_true_eq_false, not_false_eq_true, ↓reduceIte]
    rw [efin] at zk
    exact zk _
def m_law_demands_l0 (length : Int) (zs0 : (List Int)) (zy0 : (List (Str × Int × Int)) × (List (Str × Str × Int))) : (List Int) :=
  let found : List (List Int) := (m_law_rows zy0.1 zy0.2 length)
  ((List.range ((length + (1 : Int))).toNat).map (fun zc2 : Nat => ((zs0.getD (((0 : Int) + (zc2 : Int))).toNat default) + (maxL (found.getD (((0 : Int) + (zc2 : Int))).toNat default)))))
def m_law_demands (tasks : List ((List (Str × Int × Int)) × (List (Str × Str × Int)))) (length : Int) : List Int :=
  let totals1 : List Int := ((List.range ((length + (1 : Int))).toNat).map (fun zc4 : Nat => (0 : Int)))
  (tasks.foldl (m_law_demands_l0 length) totals1)
set_option hygiene false in
local macro_rules | `(tactic| walk_at "pre") => `(tactic| first | exact ⟨by omega, by omega, by omega, by omega, fun w hw => (hpk.2.dist w hw).1⟩ | fail)
set_option hygiene false in
local macro_rules | `(tactic| walk_at "ne") => `(tactic| first | (have hyy := rng_lt (by assumption); exact hlr2 _ (getD_mem (by omega))) | fail)
theorem lawd_len (tasks : List (List (Str × Int × Int) × List (Str × Str × Int))) {n : Int} (h0 : 0 ≤ n) : ((m_law_demands tasks n).length : Int) = n + 1 := by
  unfold m_law_demands
  have key : ∀ (ts : List (List (Str × Int × Int) × List (Str × Str × Int))) (s : List Int), (s.length : Int) = n + 1 → ((ts.foldl (m_law_demands_l0 n) s).length : Int) = n + 1 := by
    intro ts
    induction ts with
    | nil => intro s h; exact h
    | cons t ts ih =>
      intro s h
      rw [List.foldl_cons]
      refine ih _ ?_
      unfold m_law_demands_l0
      rw [List.length_map, List.length_range]; omega
  exact key _ _ (by rw [List.length_map, List.length_range]; omega)
theorem sc_law_demands : FnScope ["tasks", "length", "totals", "kinds", "ways", "found", "size"] ["tasks", "length"] (defScope s_law_demands) := ⟨rfl, rfl, rfl, by decide +kernel, rfl, by decide +kernel, by decide +kernel⟩
def sp_law_demands : SpN := fun zcs zL zKc => ∃ tasks : List ((List (Str × Int × Int)) × (List (Str × Str × Int))), ∃ length : Int, zcs = [.fr ((eL (eT2 (eL (eT3 D.str D.int D.int)) (eL (eT3 D.str D.str D.int)))) tasks), .fr (D.int length)] ∧ zL = [] ∧ (0 ≤ length ∧ length ≤ 1000 ∧ (∀ p ∈ tasks, KindsOk p.1 ∧ WaysOk p.2 p.1)) ∧ ∀ zL', zKc (.fr ((eL D.int) (m_law_demands tasks length))) zL'
theorem ok_law_demands (T : TX K mg) : FnOk P w K mg base CX0 3 T.a_law_demands T.d_law_demands ["tasks", "length"] (SpOf K mg sp_law_demands) := by
  have O_law_rows := ok_law_rows (P := P) (w := w) (base := base) T
  refine T.F_law_demands.okN sc_law_demands (fun zcs zL zKc zh => by obtain ⟨tasks, length, rfl, _⟩ := zh; rfl) fun zcdv zA zout zst zH zE zB zcs zL zKc zhr zh => ?_
  obtain ⟨tasks, length, rfl, rfl, hpre, zk⟩ := zh
  have nd := sc_law_demands.nd
  have hSL := sizeLine_eq
  show Exs _ _ _ ⟨[some (.fr ((eL (eT2 (eL (eT3 D.str D.int D.int)) (eL (eT3 D.str D.str D.int)))) tasks)), some (.fr (D.int length)), none, none, none, none, none], []⟩ _
  refine exs_cons (ex_set 2 (ev_lcM (enc2 := D.int) 199 (fun zc1 : Nat => (0 : Int)) _ rfl nd (blkOk_by (N := ["tasks", "length", "totals", "kinds", "ways", "found", "size"]) (sc := defScope s_law_demands) (own := [(("size" : Str), 6)]) (by decide +kernel)) (src_range1 (ea_cons (ev_bin o_add (ev_var 1 rfl (.inl rfl) rfl) ev_int) ea_nil) (by exact rfl) T.n_range (by walk_at "sd") (by walk_at "sd")) (by simp [names]) (by decide) (by walk_at "sd") (fun _ zc1 _ zhyzc1 _ _ _ _ _ => (eg_nameC 6 nd rfl (.inl rfl) (by decide) (.inr rfl))) (fun _ zc1 _ zhyzc1 _ _ _ _ _ => ev_int)) ?_ nd rfl (.inr rfl))
  show Exs _ _ _ ⟨[some (.fr ((eL (eT2 (eL (eT3 D.str D.int D.int)) (eL (eT3 D.str D.str D.int)))) tasks)), some (.fr (D.int length)), some (.fr ((eL D.int) ((List.range ((length + (1 : Int))).toNat).map (fun zc1 : Nat => (0 : Int))))), none, none, none, none], []⟩ _
  generalize zg_totals : ((List.range ((length + (1 : Int))).toNat).map (fun zc1 : Nat => (0 : Int))) = totals
  show Exs _ _ _ ⟨[some (.fr ((eL (eT2 (eL (eT3 D.str D.int D.int)) (eL (eT3 D.str D.str D.int)))) tasks)), some (.fr (D.int length)), some (.fr ((eL D.int) totals)), none, none, none, none], []⟩ _
  refine exs_cons (ex_forF (enc := (eT2 (eL (eT3 D.str D.int D.int)) (eL (eT3 D.str D.str D.int)))) (fun (zs0 : (List Int)) => (⟨[some (.fr ((eL (eT2 (eL (eT3 D.str D.int D.int)) (eL (eT3 D.str D.str D.int)))) tasks)), some (.fr (D.int length)), some (.fr ((eL D.int) zs0)), none, none, none, none], []⟩ : Nz.S)) (m_law_demands_l0 length) totals (fun (zi0 : Nat) (zs0 : (List Int)) => (zs0.length : Int) = length + 1) (src_listT (ev_var 0 rfl (.inl rfl) rfl)) ⟨⟨.inr rfl, .inr rfl, .inr rfl, .inl rfl, .inl rfl, .inl rfl, .inl rfl, trivial⟩, rfl⟩ (by rw [← zg_totals, List.length_map, List.length_range]; omega) ?_ ?_ PassesOwn.never rfl)
  · intro zi0 zy0 zs0 zhy0 zq0
    skip
    have hpk := hpre.2.2 zy0 (List.mem_of_getElem? zhy0)
    have hk1 := hpk.1.pos
    have hk8 := hpk.1.le
    refine ⟨⟨[some (.fr ((eL (eT2 (eL (eT3 D.str D.int D.int)) (eL (eT3 D.str D.str D.int)))) tasks)), some (.fr (D.int length)), some (.fr ((eL D.int) zs0)), some (.fr ((eL (eT3 D.str D.int D.int)) zy0.1)), some (.fr ((eL (eT3 D.str D.str D.int)) zy0.2)), none, none], []⟩, (eg_tup rfl (egs_cons (eg_name 3 nd rfl (.inl rfl)) (egs_cons (eg_name 4 nd rfl (.inl rfl)) egs_nil))), ?_⟩
    refine exs_cons (ex_set 5 (ev_call (ds := [(eL (eT3 D.str D.int D.int)) zy0.1, (eL (eT3 D.str D.str D.int)) zy0.2, D.int length]) (ds' := []) (dvs := []) (dfs := []) O_law_rows (zhr.mono (by decide)) T.m_law_rows T.k_law_rows T.b_law_rows .nil (fun _ => .nil) (ea_cons (ev_var 3 rfl (.inl rfl) rfl) (ea_cons (ev_var 4 rfl (.inl rfl) rfl) (ea_cons (ev_var 1 rfl (.inl rfl) rfl) ea_nil))) (fun _ zkk => ⟨zy0.1, zy0.2, length, rfl, rfl, (by walk_at "pre"), zkk⟩) (by exact rfl)) ?_ nd rfl (.inr rfl))
    show Exs _ _ _ ⟨[some (.fr ((eL (eT2 (eL (eT3 D.str D.int D.int)) (eL (eT3 D.str D.str D.int)))) tasks)), some (.fr (D.int length)), some (.fr ((eL D.int) zs0)), some (.fr ((eL (eT3 D.str D.int D.int)) zy0.1)), some (.fr ((eL (eT3 D.str D.str D.int)) zy0.2)), some (.fr ((eL (eL D.int)) (m_law_rows zy0.1 zy0.2 length))), none], []⟩ _
    generalize zg_found : (m_law_rows zy0.1 zy0.2 length) = found
    show Exs _ _ _ ⟨[some (.fr ((eL (eT2 (eL (eT3 D.str D.int D.int)) (eL (eT3 D.str D.str D.int)))) tasks)), some (.fr (D.int length)), some (.fr ((eL D.int) zs0)), some (.fr ((eL (eT3 D.str D.int D.int)) zy0.1)), some (.fr ((eL (eT3 D.str D.str D.int)) zy0.2)), some (.fr ((eL (eL D.int)) found)), none], []⟩ _
    have hlr := (lrows_len zy0.1 zy0.2 (n := length) (by omega)).1
    rw [zg_found] at hlr
    have hlr2 := lrows_ne hk1 zy0.2 (n := length) (by omega)
    rw [zg_found] at hlr2
    refine exs_one (ex_set 2 (ev_lcM (enc2 := D.int) 199 (fun zc3 : Nat => ((zs0.getD (((0 : Int) + (zc3 : Int))).toNat default) + (maxL (found.getD (((0 : Int) + (zc3 : Int))).toNat default)))) _ rfl nd (blkOk_by (N := ["tasks", "length", "totals", "kinds", "ways", "found", "size"]) (sc := defScope s_law_demands) (own := [(("size" : Str), 6)]) (by decide +kernel)) (src_range1 (ea_cons (ev_bin o_add (ev_var 1 rfl (.inl rfl) rfl) ev_int) ea_nil) (by exact rfl) T.n_range (by walk_at "sd") (by walk_at "sd")) (by simp [names]) (by decide) (by walk_at "sd") (fun _ zc3 _ zhyzc3 _ _ _ _ _ => (eg_nameC 6 nd rfl (.inl rfl) (by decide) (.inr rfl))) (fun _ zc3 _ zhyzc3 _ _ _ _ _ => (ev_bin o_add (ev_ix (ix_L (xs := zs0) (enc := D.int) (by exact rfl) (by walk_at "sd") (by walk_at "sd")) (ev_var 2 rfl (.inr (.inl rfl)) rfl) (ev_var 6 rfl (.inl rfl) rfl)) (ev_callB (ds := [(eL D.int) (found.getD (((0 : Int) + (zc3 : Int))).toNat default)]) (c_maxL (ns := (found.getD (((0 : Int) + (zc3 : Int))).toNat default)) rfl (by walk_at "ne")) (ea_cons (ev_ix (ix_L (xs := found) (enc := (eL D.int)) (by exact rfl) (by walk_at "sd") (by walk_at "sd")) (ev_var 5 rfl (.inr (.inl rfl)) rfl) (ev_var 6 rfl (.inl rfl) rfl)) ea_nil) (by exact rfl) T.n_max (by decide +kernel))))) ?_ nd rfl (.inr rfl))
    have est : (m_law_demands_l0 length) zs0 zy0 = ((List.range ((length + (1 : Int))).toNat).map (fun zc3 : Nat => ((zs0.getD (((0 : Int) + (zc3 : Int))).toNat default) + (maxL (found.getD (((0 : Int) + (zc3 : Int))).toNat default))))) := by subst zg_found; simp only [m_law_demands_l0, not_true_eq_false, not_false_eq_true, ↓reduceIte]
    show Le _ _ ∧ _
    try rw [est]
    exact ⟨⟨⟨.inr rfl, .inr rfl, .inr rfl, .inl rfl, .inl rfl, .inl rfl, .inl rfl, trivial⟩, rfl⟩, (by rw [List.length_map, List.length_range]; omega)⟩
  · intro zq0
    show Exs _ _ _ ⟨[some (.fr ((eL (eT2 (eL (eT3 D.str D.int D.int)) (eL (eT3 D.str D.str D.int)))) tasks)), some (.fr (D.int length)), some (.fr ((eL D.int) (tasks.foldl (m_law_demands_l0 length) totals))), none, none, none, none], []⟩ _
    refine exs_one (ex_ret (ev_var 2 rfl (.inr (.inl rfl)) rfl) ?_)
    have efin : m_law_demands tasks length = (tasks.foldl (m_law_demands_l0 length) totals) := by subst zg_totals; simp only [m_law_demands, not_true_eq_false, not_false_eq_true, ↓reduceIte]
    rw [efin] at zk
    exact zk _
def m_law_table (numbers : List Int) (at_ : Int) : List Int :=
  let size1 : Int := ((1 : Int) + (m_law_pick numbers at_ (4 : Int)))
  ((List.range (size1).toNat).map (fun zc2 : Nat => ((m_law_scale numbers) * (m_law_pick numbers ((at_ + (1 : Int)) + ((0 : Int) + (zc2 : Int))) (4 : Int)))))
theorem ltab_facts (numbers : List Int) (at_ : Int) : 1 ≤ (m_law_table numbers at_).length ∧ (m_law_table numbers at_).length ≤ 4 ∧ ∀ x ∈ m_law_table numbers at_, 0 ≤ x ∧ x ≤ 1000 := by
  unfold m_law_table
  have hp := pick_bound numbers at_ (count := 4) (by decide)
  refine ⟨by rw [List.length_map, List.length_range]; omega, by rw [List.length_map, List.length_range]; omega, fun x hx => ?_⟩
  obtain ⟨i, _, rfl⟩ := List.mem_map.mp hx
  have h2 := pick_bound numbers (at_ + 1 + (0 + (i : Int))) (count := 4) (by decide)
  have h3 := scale_bound (numbers := numbers)
  generalize m_law_pick numbers (at_ + 1 + (0 + (i : Int))) 4 = p at *
  have : p = 0 ∨ p = 1 ∨ p = 2 ∨ p = 3 := by omega
  rcases this with rfl | rfl | rfl | rfl <;> omega
theorem sum_bound {τ : Type} (xs : List τ) (f : τ → Int) (c : Int) (h : ∀ x ∈ xs, 0 ≤ f x ∧ f x ≤ c) : 0 ≤ (xs.map f).sum ∧ (xs.map f).sum ≤ c * xs.length := by
  induction xs with
  | nil => simp
  | cons x r ih =>
    have h1 := h x List.mem_cons_self
    have h2 := ih fun y hy => h y (List.mem_cons_of_mem _ hy)
    simp only [List.map_cons, List.sum_cons, List.length_cons]
    have : c * ((r.length + 1 : Nat) : Int) = c * r.length + c := by push_cast; rw [Int.mul_add]; omega
    omega
theorem sc_law_table : FnScope ["numbers", "at", "size", "k"] ["numbers", "at"] (defScope s_law_table) := ⟨rfl, rfl, rfl, by decide +kernel, rfl, by decide +kernel, by decide +kernel⟩
def sp_law_table : SpN := fun zcs zL zKc => ∃ numbers : List Int, ∃ at_ : Int, zcs = [.fr ((eL D.int) numbers), .fr (D.int at_)] ∧ zL = [] ∧ (0 ≤ at_ ∧ at_ + 5 ≤ numbers.length) ∧ ∀ zL', zKc (.fr ((eL D.int) (m_law_table numbers at_))) zL'
theorem ok_law_table (T : TX K mg) : FnOk P w K mg base CX0 2 T.a_law_table T.d_law_table ["numbers", "at"] (SpOf K mg sp_law_table) := by
  have O_law_pick := ok_law_pick (P := P) (w := w) (base := base) T
  have O_law_scale := ok_law_scale (P := P) (w := w) (base := base) T
  refine T.F_law_table.okN sc_law_table (fun zcs zL zKc zh => by obtain ⟨numbers, at_, rfl, _⟩ := zh; rfl) fun zcdv zA zout zst zH zE zB zcs zL zKc zhr zh => ?_
  obtain ⟨numbers, at_, rfl, rfl, hpre, zk⟩ := zh
  have nd := sc_law_table.nd
  have hSL := sizeLine_eq
  have hpb := pick_bound numbers at_ (count := 4) (by decide)
  have hsb := scale_bound (numbers := numbers)
  show Exs _ _ _ ⟨[some (.fr ((eL D.int) numbers)), some (.fr (D.int at_)), none, none], []⟩ _
  refine exs_cons (ex_set 2 (ev_bin o_add ev_int (ev_call (ds := [(eL D.int) numbers, D.int at_, D.int (4 : Int)]) (ds' := []) (dvs := []) (dfs := []) O_law_pick (zhr.mono (by decide)) T.m_law_pick T.k_law_pick T.b_law_pick .nil (fun _ => .nil) (ea_cons (ev_var 0 rfl (.inr (.inl rfl)) rfl) (ea_cons (ev_var 1 rfl (.inr (.inl rfl)) rfl) (ea_cons ev_int ea_nil))) (fun _ zkk => ⟨numbers, at_, (4 : Int), rfl, rfl, (by walk_at "pre"), zkk⟩) (by exact rfl))) ?_ nd rfl (.inl rfl))
  show Exs _ _ _ ⟨[some (.fr ((eL D.int) numbers)), some (.fr (D.int at_)), some (.fr (D.int ((1 : Int) + (m_law_pick numbers at_ (4 : Int))))), none], []⟩ _
  generalize zg_size : ((1 : Int) + (m_law_pick numbers at_ (4 : Int))) = size
  show Exs _ _ _ ⟨[some (.fr ((eL D.int) numbers)), some (.fr (D.int at_)), some (.fr (D.int size)), none], []⟩ _
  refine exs_one (ex_ret (ev_lcM (enc2 := D.int) 199 (fun zc1 : Nat => ((m_law_scale numbers) * (m_law_pick numbers ((at_ + (1 : Int)) + ((0 : Int) + (zc1 : Int))) (4 : Int)))) _ rfl nd (blkOk_by (N := ["numbers", "at", "size", "k"]) (sc := defScope s_law_table) (own := [(("k" : Str), 3)]) (by decide +kernel)) (src_range1 (ea_cons (ev_var 2 rfl (.inl rfl) rfl) ea_nil) (by exact rfl) T.n_range (by walk_at "sd") (by walk_at "sd")) (by simp [names]) (by decide) (by walk_at "sd") (fun _ zc1 _ zhyzc1 _ _ _ _ _ => (eg_nameC 3 nd rfl (.inl rfl) (by decide) (.inr rfl))) (fun _ zc1 _ zhyzc1 _ _ _ _ _ => (ev_bin (o_mul (by walk_at "mul")) (ev_call (ds := [(eL D.int) numbers]) (ds' := []) (dvs := []) (dfs := []) O_law_scale (zhr.mono (by decide)) T.m_law_scale T.k_law_scale T.b_law_scale .nil (fun _ => .nil) (ea_cons (ev_var 0 rfl (.inr (.inl rfl)) rfl) ea_nil) (fun _ zkk => ⟨numbers, rfl, rfl, (by walk_at "pre"), zkk⟩) (by exact rfl)) (ev_call (ds := [(eL D.int) numbers, D.int ((at_ + (1 : Int)) + ((0 : Int) + (zc1 : Int))), D.int (4 : Int)]) (ds' := []) (dvs := []) (dfs := []) O_law_pick (zhr.mono (by decide)) T.m_law_pick T.k_law_pick T.b_law_pick .nil (fun _ => .nil) (ea_cons (ev_var 0 rfl (.inr (.inl rfl)) rfl) (ea_cons (ev_bin o_add (ev_bin o_add (ev_var 1 rfl (.inr (.inl rfl)) rfl) ev_int) (ev_var 3 rfl (.inl rfl) rfl)) (ea_cons ev_int ea_nil))) (fun _ zkk => ⟨numbers, ((at_ + (1 : Int)) + ((0 : Int) + (zc1 : Int))), (4 : Int), rfl, rfl, (by walk_at "pre"), zkk⟩) (by exact rfl))))) ?_)
  have efin : m_law_table numbers at_ = ((List.range (size).toNat).map (fun zc1 : Nat => ((m_law_scale numbers) * (m_law_pick numbers ((at_ + (1 : Int)) + ((0 : Int) + (zc1 : Int))) (4 : Int))))) := by subst zg_size; simp only [m_law_table, not_true_eq_false, not_false_eq_true, ↓reduceIte]
  rw [efin] at zk
  exact zk _
def m_law_supply (table : List Int) (start : Int) (end_ : Int) : Int :=
  ((List.range (end_ - start).toNat).map (fun zc2 : Nat => (table.getD (((start + (zc2 : Int)) % (table.length : Int))).toNat default))).sum
set_option hygiene false in
local macro_rules | `(tactic| walk_at "sd") => `(tactic| first | exact (hmd _).1 | exact (hmd _).2 | fail)
theorem sc_law_supply : FnScope ["table", "start", "end", "slot"] ["table", "start", "end"] (defScope s_law_supply) := ⟨rfl, rfl, rfl, by decide +kernel, rfl, by decide +kernel, by decide +kernel⟩
def sp_law_supply : SpN := fun zcs zL zKc => ∃ table : List Int, ∃ start : Int, ∃ end_ : Int, zcs = [.fr ((eL D.int) table), .fr (D.int start), .fr (D.int end_)] ∧ zL = [] ∧ (0 < table.length ∧ table.length ≤ 1001 ∧ -(2 ^ 40) ≤ start ∧ start < 2 ^ 40 ∧ -(2 ^ 40) ≤ end_ ∧ end_ < 2 ^ 20 ∧ 0 ≤ start) ∧ ∀ zL', zKc (.fr (D.int (m_law_supply table start end_))) zL'
theorem ok_law_supply (T : TX K mg) : FnOk P w K mg base CX0 1 T.a_law_supply T.d_law_supply ["table", "start", "end"] (SpOf K mg sp_law_supply) := by
  refine T.F_law_supply.okN sc_law_supply (fun zcs zL zKc zh => by obtain ⟨table, start, end_, rfl, _⟩ := zh; rfl) fun zcdv zA zout zst zH zE zB zcs zL zKc zhr zh => ?_
  obtain ⟨table, start, end_, rfl, rfl, hpre, zk⟩ := zh
  have nd := sc_law_supply.nd
  have hSL := sizeLine_eq
  have hT : (0 : Int) < (table.length : Int) := by omega
  have hmd : ∀ x : Int, 0 ≤ x % (table.length : Int) ∧ x % (table.length : Int) < (table.length : Int) := fun x => ⟨Int.emod_nonneg _ (by omega), Int.emod_lt_of_pos _ hT⟩
  show Exs _ _ _ ⟨[some (.fr ((eL D.int) table)), some (.fr (D.int start)), some (.fr (D.int end_)), none], []⟩ _
  refine exs_one (ex_ret (ev_callB (ds := [(eL D.int) ((List.range (end_ - start).toNat).map (fun zc1 : Nat => (table.getD (((start + (zc1 : Int)) % (table.length : Int))).toNat default)))]) (c_sumL rfl) (ea_cons (ev_lcM (enc2 := D.int) 199 (fun zc1 : Nat => (table.getD (((start + (zc1 : Int)) % (table.length : Int))).toNat default)) _ rfl nd (blkOk_by (N := ["table", "start", "end", "slot"]) (sc := defScope s_law_supply) (own := [(("slot" : Str), 3)]) (by decide +kernel)) (src_range2 (ea_cons (ev_var 1 rfl (.inl rfl) rfl) (ea_cons (ev_var 2 rfl (.inl rfl) rfl) ea_nil)) (by exact rfl) T.n_range (by walk_at "sd") (by walk_at "sd") (by walk_at "sd") (by walk_at "sd")) (by simp [names]) (by decide) (by walk_at "sd") (fun _ zc1 _ zhyzc1 _ _ _ _ _ => (eg_nameC 3 nd rfl (.inl rfl) (by decide) (.inr rfl))) (fun _ zc1 _ zhyzc1 _ _ _ _ _ => (ev_ix (ix_L (xs := table) (enc := D.int) (by exact rfl) (by walk_at "sd") (by walk_at "sd")) (ev_var 0 rfl (.inr (.inl rfl)) rfl) (ev_bin (o_mod (by walk_at "sd")) (ev_callTy (ds := [D.int (start + (zc1 : Int))]) c_int (ea_cons (ev_var 3 rfl (.inl rfl) rfl) ea_nil) (by exact rfl) T.n_int (by decide +kernel)) (ev_len (ln_L (xs := table) (enc := D.int) (by exact rfl)) (ev_var 0 rfl (.inr (.inl rfl)) rfl) (by exact rfl) T.n_len))))) ea_nil) (by exact rfl) T.n_sum (by decide +kernel)) ?_)
  have efin : m_law_supply table start end_ = ((List.range (end_ - start).toNat).map (fun zc1 : Nat => (table.getD (((start + (zc1 : Int)) % (table.length : Int))).toNat default))).sum := by simp only [m_law_supply, not_true_eq_false, not_false_eq_true, ↓reduceIte]
  rw [efin] at zk
  exact zk _
def m_is_overfull (system : System) (start : Int) (length : Int) : Bool :=
  (decide ((m_supply system.table start (start + length)) < ((m_system_demands system length).getD (length).toNat default)))
set_option hygiene false in
local macro_rules | `(tactic| walk_at "pre") => `(tactic| first | exact ⟨hpre.1, by omega, by omega⟩ | exact ⟨by omega, by omega, by omega, by omega⟩ | fail)
theorem sc_is_overfull : FnScope ["system", "start", "length"] ["system", "start", "length"] (defScope s_is_overfull) := ⟨rfl, rfl, rfl, by decide +kernel, rfl, by decide +kernel, by decide +kernel⟩
def sp_is_overfull : SpN := fun zcs zL zKc => ∃ system : System, ∃ start : Int, ∃ length : Int, zcs = [.fr (eSystem system), .fr (D.int start), .fr (D.int length)] ∧ zL = [] ∧ ((∀ t ∈ system.tasks, t.ok) ∧ 0 < system.table.length ∧ system.table.length ≤ 1001 ∧ 0 ≤ system.table.sum ∧ system.table.sum < 2 ^ 40 ∧ 0 ≤ length ∧ length ≤ 1000) ∧ ∀ zL', zKc (.fr (D.bl (m_is_overfull system start length))) zL'
theorem ok_is_overfull (T : TX K mg) : FnOk P w K mg base CX0 9 T.a_is_overfull T.d_is_overfull ["system", "start", "length"] (SpOf K mg sp_is_overfull) := by
  have O_supply := ok_supply (P := P) (w := w) (base := base) T
  have O_system_demands := ok_system_demands (P := P) (w := w) (base := base) T
  refine T.F_is_overfull.okN sc_is_overfull (fun zcs zL zKc zh => by obtain ⟨system, start, length, rfl, _⟩ := zh; rfl) fun zcdv zA zout zst zH zE zB zcs zL zKc zhr zh => ?_
  obtain ⟨system, start, length, rfl, rfl, hpre, zk⟩ := zh
  have nd := sc_is_overfull.nd
  have hSL := sizeLine_eq
  have hsl := sysd_len hpre.1 (n := length) (by omega)
  show Exs _ _ _ ⟨[some (.fr (eSystem system)), some (.fr (D.int start)), some (.fr (D.int length))], []⟩ _
  refine exs_one (ex_ret (ev_cmp o_gt (ev_ix (ix_L (xs := (m_system_demands system length)) (enc := D.int) (by exact rfl) (by walk_at "sd") (by walk_at "sd")) (ev_call (ds := [eSystem system, D.int length]) (ds' := []) (dvs := []) (dfs := []) O_system_demands (zhr.mono (by decide)) T.m_system_demands T.k_system_demands T.b_system_demands .nil (fun _ => .nil) (ea_cons (ev_var 0 rfl (.inl rfl) rfl) (ea_cons (ev_var 2 rfl (.inl rfl) rfl) ea_nil)) (fun _ zkk => ⟨system, length, rfl, rfl, (by walk_at "pre"), zkk⟩) (by exact rfl)) (ev_var 2 rfl (.inl rfl) rfl)) (ev_call (ds := [(eU D.int) system.table, D.int start, D.int (start + length)]) (ds' := []) (dvs := []) (dfs := []) O_supply (zhr.mono (by decide)) T.m_supply T.k_supply T.b_supply .nil (fun _ => .nil) (ea_cons (ev_fld (c := "System") (fs := fSystem system) T.q_System T.cl_System T.na_System_table rfl (ev_var 0 rfl (.inl rfl) rfl)) (ea_cons (ev_var 1 rfl (.inl rfl) rfl) (ea_cons (ev_bin o_add (ev_var 1 rfl (.inl rfl) rfl) (ev_var 2 rfl (.inl rfl) rfl)) ea_nil))) (fun _ zkk => ⟨system.table, start, (start + length), rfl, rfl, (by walk_at "pre"), zkk⟩) (by exact rfl)) (nomark _)) ?_)
  have efin : m_is_overfull system start length = (decide ((m_supply system.table start (start + length)) < ((m_system_demands system length).getD (length).toNat default))) := by simp only [m_is_overfull, not_true_eq_false, not_false_eq_true, ↓reduceIte]
  rw [efin] at zk
  exact zk _
def m_first_overfull_l0 (slots : Int) (demands : List Int) (offered : List Int) (lo0 : Int) (zs0 : Unit) (zy0 : Nat) : Except (Option (Int × Int)) (Unit) :=
  let found : List Int := (((List.range ((if slots < (lo0 + (zy0 : Int)) then slots else (lo0 + (zy0 : Int)))).toNat).filter (fun zc1 : Nat => (decide (((offered.getD ((lo0 + (zy0 : Int))).toNat default) - (offered.getD (((0 : Int) + (zc1 : Int))).toNat default)) < (demands.getD (((lo0 + (zy0 : Int)) - ((0 : Int) + (zc1 : Int)))).toNat default))))).map (fun zc1 : Nat => ((0 : Int) + (zc1 : Int))))
  if (¬ (found.isEmpty = true)) then .error (some ((lo0 + (zy0 : Int)), (found.getLastD default))) else .ok ()
def m_first_overfull (system : System) (horizon : Int) : Option (Int × Int) :=
  let slots1 : Int := (system.table.length : Int)
  let demands1 : List Int := (m_system_demands system horizon)
  let offered1 : List Int := (m_supplies system.table horizon)
  match (runE (m_first_overfull_l0 slots1 demands1 offered1 (1 : Int)) (List.range ((horizon + (1 : Int)) - (1 : Int)).toNat) ()) with | .error r => r | .ok zs0 => (none : Option (Int × Int))
set_option hygiene false in
local macro_rules | `(tactic| walk_at "pre") => `(tactic| first | exact ⟨hpre.1, by omega, by omega⟩ | fail)
theorem sc_first_overfull : FnScope ["system", "horizon", "slots", "demands", "offered", "end", "found", "start"] ["system", "horizon"] (defScope s_first_overfull) := ⟨rfl, rfl, rfl, by decide +kernel, rfl, by decide +kernel, by decide +kernel⟩
def sp_first_overfull : SpN := fun zcs zL zKc => ∃ system : System, ∃ horizon : Int, zcs = [.fr (eSystem system), .fr (D.int horizon)] ∧ zL = [] ∧ ((∀ t ∈ system.tasks, t.ok) ∧ 0 < system.table.length ∧ system.table.length ≤ 1001 ∧ 0 ≤ system.table.sum ∧ system.table.sum < 2 ^ 40 ∧ 1 ≤ horizon ∧ horizon ≤ 1000) ∧ ∀ zL', zKc (.fr ((eO (eT2 D.int D.int)) (m_first_overfull system horizon))) zL'
theorem ok_first_overfull (T : TX K mg) : FnOk P w K mg base CX0 9 T.a_first_overfull T.d_first_overfull ["system", "horizon"] (SpOf K mg sp_first_overfull) := by
  have O_supplies := ok_supplies (P := P) (w := w) (base := base) T
  have O_system_demands := ok_system_demands (P := P) (w := w) (base := base) T
  refine T.F_first_overfull.okN sc_first_overfull (fun zcs zL zKc zh => by obtain ⟨system, horizon, rfl, _⟩ := zh; rfl) fun zcdv zA zout zst zH zE zB zcs zL zKc zhr zh => ?_
  obtain ⟨system, horizon, rfl, rfl, hpre, zk⟩ := zh
  have nd := sc_first_overfull.nd
  have hSL := sizeLine_eq
  show Exs _ _ _ ⟨[some (.fr (eSystem system)), some (.fr (D.int horizon)), none, none, none, none, none, none], []⟩ _
  refine exs_cons (ex_set 2 (ev_len (ln_U (xs := system.table) (enc := D.int)) (ev_fld (c := "System") (fs := fSystem system) T.q_System T.cl_System T.na_System_table rfl (ev_var 0 rfl (.inl rfl) rfl)) (by exact rfl) T.n_len) ?_ nd rfl (.inl rfl))
  show Exs _ _ _ ⟨[some (.fr (eSystem system)), some (.fr (D.int horizon)), some (.fr (D.int (system.table.length : Int))), none, none, none, none, none], []⟩ _
  generalize zg_slots : (system.table.length : Int) = slots
  show Exs _ _ _ ⟨[some (.fr (eSystem system)), some (.fr (D.int horizon)), some (.fr (D.int slots)), none, none, none, none, none], []⟩ _
  refine exs_cons (ex_set 3 (ev_call (ds := [eSystem system, D.int horizon]) (ds' := []) (dvs := []) (dfs := []) O_system_demands (zhr.mono (by decide)) T.m_system_demands T.k_system_demands T.b_system_demands .nil (fun _ => .nil) (ea_cons (ev_var 0 rfl (.inl rfl) rfl) (ea_cons (ev_var 1 rfl (.inl rfl) rfl) ea_nil)) (fun _ zkk => ⟨system, horizon, rfl, rfl, (by walk_at "pre"), zkk⟩) (by exact rfl)) ?_ nd rfl (.inr rfl))
  show Exs _ _ _ ⟨[some (.fr (eSystem system)), some (.fr (D.int horizon)), some (.fr (D.int slots)), some (.fr ((eL D.int) (m_system_demands system horizon))), none, none, none, none], []⟩ _
  generalize zg_demands : (m_system_demands system horizon) = demands
  show Exs _ _ _ ⟨[some (.fr (eSystem system)), some (.fr (D.int horizon)), some (.fr (D.int slots)), some (.fr ((eL D.int) demands)), none, none, none, none], []⟩ _
  have hsl := sysd_len hpre.1 (n := horizon) (by omega)
  rw [zg_demands] at hsl
  refine exs_cons (ex_set 4 (ev_call (ds := [(eU D.int) system.table, D.int horizon]) (ds' := []) (dvs := []) (dfs := []) O_supplies (zhr.mono (by decide)) T.m_supplies T.k_supplies T.b_supplies .nil (fun _ => .nil) (ea_cons (ev_fld (c := "System") (fs := fSystem system) T.q_System T.cl_System T.na_System_table rfl (ev_var 0 rfl (.inl rfl) rfl)) (ea_cons (ev_var 1 rfl (.inl rfl) rfl) ea_nil)) (fun _ zkk => ⟨system.table, horizon, rfl, rfl, (by walk_at "pre"), zkk⟩) (by exact rfl)) ?_ nd rfl (.inr rfl))
  show Exs _ _ _ ⟨[some (.fr (eSystem system)), some (.fr (D.int horizon)), some (.fr (D.int slots)), some (.fr ((eL D.int) demands)), some (.fr ((eL D.int) (m_supplies system.table horizon))), none, none, none], []⟩ _
  generalize zg_offered : (m_supplies system.table horizon) = offered
  show Exs _ _ _ ⟨[some (.fr (eSystem system)), some (.fr (D.int horizon)), some (.fr (D.int slots)), some (.fr ((eL D.int) demands)), some (.fr ((eL D.int) offered)), none, none, none], []⟩ _
  have hol := supplies_len system.table (n := horizon) (by omega)
  rw [zg_offered] at hol
  refine exs_cons (ex_forE (enc := (fun i : Nat => D.int ((1 : Int) + (i : Int)))) (fun (zs0 : Unit) => (⟨[some (.fr (eSystem system)), some (.fr (D.int horizon)), some (.fr (D.int slots)), some (.fr ((eL D.int) demands)), some (.fr ((eL D.int) offered)), none, none, none], []⟩ : Nz.S)) (m_first_overfull_l0 slots demands offered (1 : Int)) () (fun (zi0 : Nat) (zs0 : Unit) => True) (fun r c S' => c = .fr ((eO (eT2 D.int D.int)) r) ∧ True) (src_range2 (ea_cons ev_int (ea_cons (ev_bin o_add (ev_var 1 rfl (.inl rfl) rfl) ev_int) ea_nil)) (by exact rfl) T.n_range (by walk_at "sd") (by walk_at "sd") (by walk_at "sd") (by walk_at "sd")) ⟨⟨.inr rfl, .inr rfl, .inr rfl, .inr rfl, .inr rfl, .inl rfl, .inl rfl, .inl rfl, trivial⟩, rfl⟩ trivial ?_ ?_ ?_ PassesOwn.never rfl)
  · intro zi0 zy0 zs0 zhy0 zrun0 zq0
    skip
    have hy0 := seq_range zhy0
    have hi := (List.getElem?_eq_some_iff.mp zhy0).1
    simp only [List.length_range] at hi
    refine ⟨⟨[some (.fr (eSystem system)), some (.fr (D.int horizon)), some (.fr (D.int slots)), some (.fr ((eL D.int) demands)), some (.fr ((eL D.int) offered)), some (.fr (D.int ((1 : Int) + (zy0 : Int)))), none, none], []⟩, (eg_name 5 nd rfl (.inr rfl)), ?_⟩
    refine exs_cons (ex_setLcF 6 (enc2 := D.int) 199 (fun zc2 : Nat => ((0 : Int) + (zc2 : Int))) (fun zc2 : Nat => (decide (((offered.getD (((1 : Int) + (zy0 : Int))).toNat default) - (offered.getD (((0 : Int) + (zc2 : Int))).toNat default)) < (demands.getD ((((1 : Int) + (zy0 : Int)) - ((0 : Int) + (zc2 : Int)))).toNat default)))) _ rfl nd rfl rfl (sw_true rfl rfl rfl (by decide +kernel)) (blkOk_by (N := ["system", "horizon", "slots", "demands", "offered", "end", "found", "start"]) (sc := defScope s_first_overfull) (own := [(("start" : Str), 7)]) (by decide +kernel)) (src_range1 (ea_cons (ev_callB (ds := [D.int ((1 : Int) + (zy0 : Int)), D.int slots]) (c_min2 rfl) (ea_cons (ev_var 5 rfl (.inr (.inl rfl)) rfl) (ea_cons (ev_var 2 rfl (.inl rfl) rfl) ea_nil)) (by exact rfl) T.n_min (by decide +kernel)) ea_nil) (by exact rfl) T.n_range (by walk_at "sd") (by walk_at "sd")) (by simp [names]) (by decide) (by walk_at "sd") (fun _ zc2 _ zhyzc2 _ _ _ _ _ => (eg_nameC 7 nd rfl (.inl rfl) (by decide) (.inr rfl))) (fun _ zc2 _ zhyzc2 _ _ _ _ _ => (et_cmp o_gt (ev_ix (ix_L (xs := demands) (enc := D.int) (by exact rfl) (by walk_at "sd") (by walk_at "sd")) (ev_var 3 rfl (.inr (.inl rfl)) rfl) (ev_bin o_sub (ev_var 5 rfl (.inr (.inl rfl)) rfl) (ev_var 7 rfl (.inl rfl) rfl))) (ev_bin o_sub (ev_ix (ix_L (xs := offered) (enc := D.int) (by exact rfl) (by walk_at "sd") (by walk_at "sd")) (ev_var 4 rfl (.inr (.inl rfl)) rfl) (ev_var 5 rfl (.inr (.inl rfl)) rfl)) (ev_ix (ix_L (xs := offered) (enc := D.int) (by exact rfl) (by walk_at "sd") (by walk_at "sd")) (ev_var 4 rfl (.inr (.inl rfl)) rfl) (ev_var 7 rfl (.inl rfl) rfl))) (nomark _))) (fun _ zc2 _ zhyzc2 zhpzc2 _ _ _ _ _ => (ev_var 7 rfl (.inl rfl) rfl)) ?_)
    show Exs _ _ _ ⟨[some (.fr (eSystem system)), some (.fr (D.int horizon)), some (.fr (D.int slots)), some (.fr ((eL D.int) demands)), some (.fr ((eL D.int) offered)), some (.fr (D.int ((1 : Int) + (zy0 : Int)))), some (.fr ((eL D.int) (((List.range ((if slots < ((1 : Int) + (zy0 : Int)) then slots else ((1 : Int) + (zy0 : Int)))).toNat).filter (fun zc2 : Nat => (decide (((offered.getD (((1 : Int) + (zy0 : Int))).toNat default) - (offered.getD (((0 : Int) + (zc2 : Int))).toNat default)) < (demands.getD ((((1 : Int) + (zy0 : Int)) - ((0 : Int) + (zc2 : Int)))).toNat default))))).map (fun zc2 : Nat => ((0 : Int) + (zc2 : Int)))))), none], []⟩ _
    generalize zg_found : (((List.range ((if slots < ((1 : Int) + (zy0 : Int)) then slots else ((1 : Int) + (zy0 : Int)))).toNat).filter (fun zc2 : Nat => (decide (((offered.getD (((1 : Int) + (zy0 : Int))).toNat default) - (offered.getD (((0 : Int) + (zc2 : Int))).toNat default)) < (demands.getD ((((1 : Int) + (zy0 : Int)) - ((0 : Int) + (zc2 : Int)))).toNat default))))).map (fun zc2 : Nat => ((0 : Int) + (zc2 : Int)))) = found
    show Exs _ _ _ ⟨[some (.fr (eSystem system)), some (.fr (D.int horizon)), some (.fr (D.int slots)), some (.fr ((eL D.int) demands)), some (.fr ((eL D.int) offered)), some (.fr (D.int ((1 : Int) + (zy0 : Int)))), some (.fr ((eL D.int) found)), none], []⟩ _
    refine exs_one (ex_ifP (bd_not Iff.rfl) (et_list (xs := found) (enc := D.int) (ev_var 6 rfl (.inl rfl) rfl)) (fun (zh1 : (¬ (found.isEmpty = true))) => ?_) (fun (zh1 : ¬ (¬ (found.isEmpty = true))) => ?_))
    · skip
      refine exs_one (ex_ret (ev_tup (ds := [D.int ((1 : Int) + (zy0 : Int)), D.int (found.getLastD default)]) (ea_cons (ev_var 5 rfl (.inr (.inl rfl)) rfl) (ea_cons (ev_ix (ix_last (xs := found) (enc := D.int) (by exact rfl) (by walk_at "ne")) (ev_var 6 rfl (.inl rfl) rfl) (ev_neg ev_int)) ea_nil)) (by simp only [List.length_cons, List.length_nil]; decide)) ?_)
      have est : (m_first_overfull_l0 slots demands offered (1 : Int)) zs0 zy0 = .error (some (((1 : Int) + (zy0 : Int)), (found.getLastD default))) := by subst zg_found; simp only [m_first_overfull_l0, not_true_eq_false, not_false_eq_true, ↓reduceIte, ↓if_pos zh1]
      exact ⟨_, est, rfl, trivial⟩
    · skip
      refine exs_nil ?_
      have est : (m_first_overfull_l0 slots demands offered (1 : Int)) zs0 zy0 = .ok () := by subst zg_found; simp only [m_first_overfull_l0, not_true_eq_false, not_false_eq_true, ↓reduceIte, ↓if_neg zh1]
      exact ⟨_, est, ⟨⟨.inr rfl, .inr rfl, .inr rfl, .inr rfl, .inr rfl, .inl rfl, .inl rfl, .inl rfl, trivial⟩, rfl⟩, trivial⟩
  · rintro zr zc zS zrun0 ⟨rfl, zhL⟩
    skip
    have zh2 := zrun0
    have efin : m_first_overfull system horizon = zr := by subst zg_offered; subst zg_demands; subst zg_slots; simp only [m_first_overfull, not_true_eq_false, not_false_eq_true, ↓reduceIte, ↓zh2]
    rw [efin] at zk
    exact zk _
  · intro zs0 zrun0 zq0
    have zh3 := zrun0
    show Exs _ _ _ ⟨[some (.fr (eSystem system)), some (.fr (D.int horizon)), some (.fr (D.int slots)), some (.fr ((eL D.int) demands)), some (.fr ((eL D.int) offered)), none, none, none], []⟩ _
    refine exs_one (ex_ret ev_non ?_)
    have efin : m_first_overfull system horizon = (none : Option (Int × Int)) := by subst zg_offered; subst zg_demands; subst zg_slots; simp only [m_first_overfull, not_true_eq_false, not_false_eq_true, ↓reduceIte, ↓zh3]
    rw [efin] at zk
    exact zk _
def m_law_is_pair (actual : Option (Int × Int)) : Bool :=
  if ((¬ ((actual.isSome && true) = true)) ∨ (¬ ((2 : Int) = (2 : Int)))) then false else ((m_law_is_integer ((actual.getD default).1)) && (m_law_is_integer ((actual.getD default).2)))
theorem sc_law_is_pair : FnScope ["actual"] ["actual"] (defScope s_law_is_pair) := ⟨rfl, rfl, rfl, by decide +kernel, rfl, by decide +kernel, by decide +kernel⟩
def sp_law_is_pair : SpN := fun zcs zL zKc => ∃ actual : Option (Int × Int), zcs = [.fr ((eO (eT2 D.int D.int)) actual)] ∧ zL = [] ∧ (True) ∧ ∀ zL', zKc (.fr (D.bl (m_law_is_pair actual))) zL'
theorem ok_law_is_pair (T : TX K mg) : FnOk P w K mg base CX0 2 T.a_law_is_pair T.d_law_is_pair ["actual"] (SpOf K mg sp_law_is_pair) := by
  have O_law_is_integer := ok_law_is_integer (P := P) (w := w) (base := base) T
  refine T.F_law_is_pair.okN sc_law_is_pair (fun zcs zL zKc zh => by obtain ⟨actual, rfl, _⟩ := zh; rfl) fun zcdv zA zout zst zH zE zB zcs zL zKc zhr zh => ?_
  obtain ⟨actual, rfl, rfl, hpre, zk⟩ := zh
  have nd := sc_law_is_pair.nd
  have hSL := sizeLine_eq
  show Exs _ _ _ ⟨[some (.fr ((eO (eT2 D.int D.int)) actual))], []⟩ _
  refine exs_cons (ex_ifP (bd_or (bd_not Iff.rfl) bd_n) (Ew.et (ew_orP (bd_not Iff.rfl) (et_not (et_val (ev_isiO (enc := (eT2 D.int D.int)) (y := actual) (T := "tuple") (b := true) (ev_var 0 rfl (.inl rfl) rfl) (fun _ => rfl) (by decide) (by decide) (by exact rfl) T.n_isinstance (by exact rfl) T.n_tuple (by decide +kernel)))) (fun zhp => (ew_or1 (et_cmp o_nei (ev_len .t (ev_unO (enc := (eT2 D.int D.int)) (y := actual) (by walk_at "some") (ev_var 0 rfl (.inl rfl) rfl)) (by exact rfl) T.n_len) ev_int (nomark _)))))) (fun (zh1 : ((¬ ((actual.isSome && true) = true)) ∨ (¬ ((2 : Int) = (2 : Int))))) => ?_) (fun (zh1 : ¬ ((¬ ((actual.isSome && true) = true)) ∨ (¬ ((2 : Int) = (2 : Int))))) => ?_))
  · skip
    refine exs_one (ex_ret ev_bl ?_)
    have efin : m_law_is_pair actual = false := by simp only [m_law_is_pair, not_true_eq_false, not_false_eq_true, ↓reduceIte, ↓if_pos zh1]
    rw [efin] at zk
    exact zk _
  · skip
    refine exs_nil ?_
    show Exs _ _ _ ⟨[some (.fr ((eO (eT2 D.int D.int)) actual))], []⟩ _
    refine exs_one (ex_ret (ev_andP Iff.rfl (ev_call (ds := [D.int ((actual.getD default).1)]) (ds' := []) (dvs := []) (dfs := []) O_law_is_integer (zhr.mono (by decide)) T.m_law_is_integer T.k_law_is_integer T.b_law_is_integer .nil (fun _ => .nil) (ea_cons (ev_ix (.t (d := D.int ((actual.getD default).1)) rfl) (ev_unO (enc := (eT2 D.int D.int)) (y := actual) (by walk_at "some") (ev_var 0 rfl (.inl rfl) rfl)) ev_int) ea_nil) (fun _ zkk => ⟨(actual.getD default).1, rfl, rfl, trivial, zkk⟩) (by exact rfl)) (fun zhp => (ev_one (ev_call (ds := [D.int ((actual.getD default).2)]) (ds' := []) (dvs := []) (dfs := []) O_law_is_integer (zhr.mono (by decide)) T.m_law_is_integer T.k_law_is_integer T.b_law_is_integer .nil (fun _ => .nil) (ea_cons (ev_ix (.t (d := D.int ((actual.getD default).2)) rfl) (ev_unO (enc := (eT2 D.int D.int)) (y := actual) (by walk_at "some") (ev_var 0 rfl (.inl rfl) rfl)) ev_int) ea_nil) (fun _ zkk => ⟨(actual.getD default).2, rfl, rfl, trivial, zkk⟩) (by exact rfl))))) ?_)
    have efin : m_law_is_pair actual = ((m_law_is_integer ((actual.getD default).1)) && (m_law_is_integer ((actual.getD default).2))) := by simp only [m_law_is_pair, not_true_eq_false, not_false_eq_true, ↓reduceIte, ↓if_neg zh1]
    rw [efin] at zk
    exact zk _
def m_law_overfull_l1 (table : List Int) (totals : List Int) (end_ : Int) (lo0 : Int) (zs1 : Unit) (zy1 : Nat) : Except (Option (Int × Int)) (Unit) :=
  if ((m_law_supply table (lo0 + (zy1 : Int) * -1) end_) < (totals.getD ((end_ - (lo0 + (zy1 : Int) * -1))).toNat default)) then .error (some (end_, (lo0 + (zy1 : Int) * -1))) else .ok ()
def m_law_overfull_l0 (table : List Int) (totals : List Int) (lo0 : Int) (zs0 : Unit) (zy0 : Nat) : Except (Option (Int × Int)) (Unit) :=
  match (runE (m_law_overfull_l1 table totals (lo0 + (zy0 : Int)) ((lo0 + (zy0 : Int)) - (1 : Int))) (List.range (((lo0 + (zy0 : Int)) - (1 : Int)) - (-(1 : Int))).toNat) ()) with | .error r => .error r | .ok zs1 => .ok ()
def m_law_overfull (tasks : List ((List (Str × Int × Int)) × (List (Str × Str × Int)))) (table : List Int) (horizon : Int) : Option (Int × Int) :=
  let totals1 : List Int := (m_law_demands tasks horizon)
  match (runE (m_law_overfull_l0 table totals1 (1 : Int)) (List.range ((horizon + (1 : Int)) - (1 : Int)).toNat) ()) with | .error r => r | .ok zs0 => (none : Option (Int × Int))
set_option hygiene false in
local macro_rules | `(tactic| walk_at "pre") => `(tactic| first | exact ⟨by omega, by omega, hpre.2.2.2.2⟩ | exact ⟨by omega, by omega, by omega, by omega, by omega, by omega, by omega⟩ | fail)
theorem sc_law_overfull : FnScope ["tasks", "table", "horizon", "totals", "end", "start"] ["tasks", "table", "horizon"] (defScope s_law_overfull) := ⟨rfl, rfl, rfl, by decide +kernel, rfl, by decide +kernel, by decide +kernel⟩
def sp_law_overfull : SpN := fun zcs zL zKc => ∃ tasks : List ((List (Str × Int × Int)) × (List (Str × Str × Int))), ∃ table : List Int, ∃ horizon : Int, zcs = [.fr ((eL (eT2 (eL (eT3 D.str D.int D.int)) (eL (eT3 D.str D.str D.int)))) tasks), .fr ((eL D.int) table), .fr (D.int horizon)] ∧ zL = [] ∧ (0 < table.length ∧ table.length ≤ 1001 ∧ 1 ≤ horizon ∧ horizon ≤ 1000 ∧ ∀ p ∈ tasks, KindsOk p.1 ∧ WaysOk p.2 p.1) ∧ ∀ zL', zKc (.fr ((eO (eT2 D.int D.int)) (m_law_overfull tasks table horizon))) zL'
theorem ok_law_overfull (T : TX K mg) : FnOk P w K mg base CX0 4 T.a_law_overfull T.d_law_overfull ["tasks", "table", "horizon"] (SpOf K mg sp_law_overfull) := by
  have O_law_demands := ok_law_demands (P := P) (w := w) (base := base) T
  have O_law_supply := ok_law_supply (P := P) (w := w) (base := base) T
  refine T.F_law_overfull.okN sc_law_overfull (fun zcs zL zKc zh => by obtain ⟨tasks, table, horizon, rfl, _⟩ := zh; rfl) fun zcdv zA zout zst zH zE zB zcs zL zKc zhr zh => ?_
  obtain ⟨tasks, table, horizon, rfl, rfl, hpre, zk⟩ := zh
  have nd := sc_law_overfull.nd
  have hSL := sizeLine_eq
  show Exs _ _ _ ⟨[some (.fr ((eL (eT2 (eL (eT3 D.str D.int D.int)) (eL (eT3 D.str D.str D.int)))) tasks)), some (.fr ((eL D.int) table)), some (.fr (D.int horizon)), none, none, none], []⟩ _
  refine exs_cons (ex_set 3 (ev_call (ds := [(eL (eT2 (eL (eT3 D.str D.int D.int)) (eL (eT3 D.str D.str D.int)))) tasks, D.int horizon]) (ds' := []) (dvs := []) (dfs := []) O_law_demands (zhr.mono (by decide)) T.m_law_demands T.k_law_demands T.b_law_demands .nil (fun _ => .nil) (ea_cons (ev_var 0 rfl (.inl rfl) rfl) (ea_cons (ev_var 2 rfl (.inl rfl) rfl) ea_nil)) (fun _ zkk => ⟨tasks, horizon, rfl, rfl, (by walk_at "pre"), zkk⟩) (by exact rfl)) ?_ nd rfl (.inl rfl))
  show Exs _ _ _ ⟨[some (.fr ((eL (eT2 (eL (eT3 D.str D.int D.int)) (eL (eT3 D.str D.str D.int)))) tasks)), some (.fr ((eL D.int) table)), some (.fr (D.int horizon)), some (.fr ((eL D.int) (m_law_demands tasks horizon))), none, none], []⟩ _
  generalize zg_totals : (m_law_demands tasks horizon) = totals
  show Exs _ _ _ ⟨[some (.fr ((eL (eT2 (eL (eT3 D.str D.int D.int)) (eL (eT3 D.str D.str D.int)))) tasks)), some (.fr ((eL D.int) table)), some (.fr (D.int horizon)), some (.fr ((eL D.int) totals)), none, none], []⟩ _
  have htl := lawd_len tasks (n := horizon) (by omega)
  rw [zg_totals] at htl
  refine exs_cons (ex_forE (enc := (fun i : Nat => D.int ((1 : Int) + (i : Int)))) (fun (zs0 : Unit) => (⟨[some (.fr ((eL (eT2 (eL (eT3 D.str D.int D.int)) (eL (eT3 D.str D.str D.int)))) tasks)), some (.fr ((eL D.int) table)), some (.fr (D.int horizon)), some (.fr ((eL D.int) totals)), none, none], []⟩ : Nz.S)) (m_law_overfull_l0 table totals (1 : Int)) () (fun (zi0 : Nat) (zs0 : Unit) => True) (fun r c S' => c = .fr ((eO (eT2 D.int D.int)) r) ∧ True) (src_range2 (ea_cons ev_int (ea_cons (ev_bin o_add (ev_var 2 rfl (.inl rfl) rfl) ev_int) ea_nil)) (by exact rfl) T.n_range (by walk_at "sd") (by walk_at "sd") (by walk_at "sd") (by walk_at "sd")) ⟨⟨.inr rfl, .inr rfl, .inr rfl, .inr rfl, .inl rfl, .inl rfl, trivial⟩, rfl⟩ trivial ?_ ?_ ?_ PassesOwn.never rfl)
  · intro zi0 zy0 zs0 zhy0 zrun0 zq0
    skip
    have hy0 := seq_range zhy0
    have hi := (List.getElem?_eq_some_iff.mp zhy0).1
    simp only [List.length_range] at hi
    refine ⟨⟨[some (.fr ((eL (eT2 (eL (eT3 D.str D.int D.int)) (eL (eT3 D.str D.str D.int)))) tasks)), some (.fr ((eL D.int) table)), some (.fr (D.int horizon)), some (.fr ((eL D.int) totals)), some (.fr (D.int ((1 : Int) + (zy0 : Int)))), none], []⟩, (eg_name 4 nd rfl (.inl rfl)), ?_⟩
    refine exs_one (ex_forE (enc := (fun k : Nat => D.int ((((1 : Int) + (zy0 : Int)) - (1 : Int)) + (k : Int) * -1))) (fun (zs1 : Unit) => (⟨[some (.fr ((eL (eT2 (eL (eT3 D.str D.int D.int)) (eL (eT3 D.str D.str D.int)))) tasks)), some (.fr ((eL D.int) table)), some (.fr (D.int horizon)), some (.fr ((eL D.int) totals)), some (.fr (D.int ((1 : Int) + (zy0 : Int)))), none], []⟩ : Nz.S)) (m_law_overfull_l1 table totals ((1 : Int) + (zy0 : Int)) (((1 : Int) + (zy0 : Int)) - (1 : Int))) () (fun (zi1 : Nat) (zs1 : Unit) => True) (fun r c S' => c = .fr ((eO (eT2 D.int D.int)) r) ∧ True) (src_rangeD (ea_cons (ev_bin o_sub (ev_var 4 rfl (.inl rfl) rfl) ev_int) (ea_cons (ev_neg ev_int) (ea_cons (ev_neg ev_int) ea_nil))) (by exact rfl) T.n_range (by walk_at "sd") (by walk_at "sd") (by walk_at "sd") (by walk_at "sd")) ⟨⟨.inr rfl, .inr rfl, .inr rfl, .inr rfl, .inr rfl, .inl rfl, trivial⟩, rfl⟩ trivial ?_ ?_ ?_ PassesOwn.never rfl)
    · intro zi1 zy1 zs1 zhy1 zrun1 zq1
      skip
      have hy1 := seq_range zhy1
      have hi1 := (List.getElem?_eq_some_iff.mp zhy1).1
      simp only [List.length_range] at hi1
      refine ⟨⟨[some (.fr ((eL (eT2 (eL (eT3 D.str D.int D.int)) (eL (eT3 D.str D.str D.int)))) tasks)), some (.fr ((eL D.int) table)), some (.fr (D.int horizon)), some (.fr ((eL D.int) totals)), some (.fr (D.int ((1 : Int) + (zy0 : Int)))), some (.fr (D.int ((((1 : Int) + (zy0 : Int)) - (1 : Int)) + (zy1 : Int) * -1)))], []⟩, (eg_name 5 nd rfl (.inl rfl)), ?_⟩
      refine exs_one (ex_ifP bd_d (et_cmp o_gt (ev_ix (ix_L (xs := totals) (enc := D.int) (by exact rfl) (by walk_at "sd") (by walk_at "sd")) (ev_var 3 rfl (.inl rfl) rfl) (ev_bin o_sub (ev_var 4 rfl (.inl rfl) rfl) (ev_var 5 rfl (.inl rfl) rfl))) (ev_call (ds := [(eL D.int) table, D.int ((((1 : Int) + (zy0 : Int)) - (1 : Int)) + (zy1 : Int) * -1), D.int ((1 : Int) + (zy0 : Int))]) (ds' := []) (dvs := []) (dfs := []) O_law_supply (zhr.mono (by decide)) T.m_law_supply T.k_law_supply T.b_law_supply .nil (fun _ => .nil) (ea_cons (ev_var 1 rfl (.inl rfl) rfl) (ea_cons (ev_var 5 rfl (.inl rfl) rfl) (ea_cons (ev_var 4 rfl (.inl rfl) rfl) ea_nil))) (fun _ zkk => ⟨table, ((((1 : Int) + (zy0 : Int)) - (1 : Int)) + (zy1 : Int) * -1), ((1 : Int) + (zy0 : Int)), rfl, rfl, (by walk_at "pre"), zkk⟩) (by exact rfl)) (nomark _)) (fun (zh1 : ((m_law_supply table ((((1 : Int) + (zy0 : Int)) - (1 : Int)) + (zy1 : Int) * -1) ((1 : Int) + (zy0 : Int))) < (totals.getD ((((1 : Int) + (zy0 : Int)) - ((((1 : Int) + (zy0 : Int)) - (1 : Int)) + (zy1 : Int) * -1))).toNat default))) => ?_) (fun (zh1 : ¬ ((m_law_supply table ((((1 : Int) + (zy0 : Int)) - (1 : Int)) + (zy1 : Int) * -1) ((1 : Int) + (zy0 : Int))) < (totals.getD ((((1 : Int) + (zy0 : Int)) - ((((1 : Int) + (zy0 : Int)) - (1 : Int)) + (zy1 : Int) * -1))).toNat default))) => ?_))
      · skip
        refine exs_one (ex_ret (ev_tup (ds := [D.int ((1 : Int) + (zy0 : Int)), D.int ((((1 : Int) + (zy0 : Int)) - (1 : Int)) + (zy1 : Int) * -1)]) (ea_cons (ev_var 4 rfl (.inl rfl) rfl) (ea_cons (ev_var 5 rfl (.inl rfl) rfl) ea_nil)) (by simp only [List.length_cons, List.length_nil]; decide)) ?_)
        have est : (m_law_overfull_l1 table totals ((1 : Int) + (zy0 : Int)) (((1 : Int) + (zy0 : Int)) - (1 : Int))) zs1 zy1 = .error (some (((1 : Int) + (zy0 : Int)), ((((1 : Int) + (zy0 : Int)) - (1 : Int)) + (zy1 : Int) * -1))) := by simp only [m_law_overfull_l1, not_true_eq_false, not_false_eq_true, ↓reduceIte, ↓if_pos zh1]
        exact ⟨_, est, rfl, trivial⟩
      · skip
        refine exs_nil ?_
        have est : (m_law_overfull_l1 table totals ((1 : Int) + (zy0 : Int)) (((1 : Int) + (zy0 : Int)) - (1 : Int))) zs1 zy1 = .ok () := by simp only [m_law_overfull_l1, not_true_eq_false, not_false_eq_true, ↓reduceIte, ↓if_neg zh1]
        exact ⟨_, est, ⟨⟨.inr rfl, .inr rfl, .inr rfl, .inr rfl, .inr rfl, .inl rfl, trivial⟩, rfl⟩, trivial⟩
    · rintro zr zc zS zrun1 ⟨rfl, zhL⟩
      skip
      have zh2 := zrun1
      have est : (m_law_overfull_l0 table totals (1 : Int)) zs0 zy0 = .error zr := by simp only [m_law_overfull_l0, not_true_eq_false, not_false_eq_true, ↓reduceIte, ↓zh2]
      exact ⟨_, est, rfl, zhL⟩
    · intro zs1 zrun1 zq1
      have zh3 := zrun1
      have est : (m_law_overfull_l0 table totals (1 : Int)) zs0 zy0 = .ok () := by simp only [m_law_overfull_l0, not_true_eq_false, not_false_eq_true, ↓reduceIte, ↓zh3]
      exact ⟨_, est, ⟨⟨.inr rfl, .inr rfl, .inr rfl, .inr rfl, .inl rfl, .inl rfl, trivial⟩, rfl⟩, trivial⟩
  · rintro zr zc zS zrun0 ⟨rfl, zhL⟩
    skip
    have zh4 := zrun0
    have efin : m_law_overfull tasks table horizon = zr := by subst zg_totals; simp only [m_law_overfull, not_true_eq_false, not_false_eq_true, ↓reduceIte, ↓zh4]
    rw [efin] at zk
    exact zk _
  · intro zs0 zrun0 zq0
    have zh5 := zrun0
    show Exs _ _ _ ⟨[some (.fr ((eL (eT2 (eL (eT3 D.str D.int D.int)) (eL (eT3 D.str D.str D.int)))) tasks)), some (.fr ((eL D.int) table)), some (.fr (D.int horizon)), some (.fr ((eL D.int) totals)), none, none], []⟩ _
    refine exs_one (ex_ret ev_non ?_)
    have efin : m_law_overfull tasks table horizon = (none : Option (Int × Int)) := by subst zg_totals; simp only [m_law_overfull, not_true_eq_false, not_false_eq_true, ↓reduceIte, ↓zh5]
    rw [efin] at zk
    exact zk _
def m_law (script : List Int) : Bool :=
  let numbers1 : List Int := (m_law_numbers script (75 : Int))
  let tasks1 : List ((List (Str × Int × Int)) × (List (Str × Str × Int))) := (m_law_tasks numbers1 (0 : Int) (m_law_pick numbers1 (60 : Int) (4 : Int)))
  let table1 : List Int := (m_law_table numbers1 (61 : Int))
  let start1 : Int := (m_law_pick numbers1 (66 : Int) (13 : Int))
  let length1 : Int := (m_law_pick numbers1 (67 : Int) (21 : Int))
  let horizon1 : Int := ((1 : Int) + (m_law_pick numbers1 (68 : Int) (24 : Int)))
  let system1 : System := (m_law_system tasks1 table1)
  let told1 : Bool := (m_is_overfull system1 start1 length1)
  let due1 : Bool := (decide ((m_law_supply table1 start1 (start1 + length1)) < ((m_law_demands tasks1 length1).getD (length1).toNat default)))
  if ((¬ (true = true)) ∨ (¬ (told1 = due1))) then false else let actual1 : Option (Int × Int) := (m_first_overfull system1 horizon1)
  let expected1 : Option (Int × Int) := (m_law_overfull tasks1 table1 horizon1)
  if (expected1.isNone = true) then (actual1.isNone) else ((m_law_is_pair actual1) && (decide (actual1 = expected1)))
set_option hygiene false in
local macro_rules | `(tactic| walk_at "pre") => `(tactic| first | exact ⟨by omega, by omega, by omega, by omega, hnf.2, by omega⟩ | exact ⟨by omega, hto.2, htb, by omega⟩ | exact ⟨hsok.1, by omega, by omega, by omega, by omega, by omega, by omega⟩ | exact ⟨by omega, by omega, hto.2⟩ | exact ⟨by omega, by omega, by omega, by omega, by omega, by omega, by omega⟩ | exact ⟨by omega, by omega, by omega, by omega, hto.2⟩ | fail)
theorem sys_shape {tasks : List (List (Str × Int × Int) × List (Str × Str × Int))} {table : List Int} (h6 : tasks.length ≤ 6) (ho : ∀ p ∈ tasks, KindsOk p.1 ∧ WaysOk p.2 p.1) (htb : m_is_table table = true) :
    ∃ ts : List Task, m_law_system tasks table = { tasks := ts, table := table } ∧ ts.length = tasks.length ∧ ∀ i t, ts[i]? = some t → t.kinds = (tasks.getD i default).1 ∧ t.ways = (tasks.getD i default).2 ∧ i < tasks.length := by
  unfold m_law_system
  have e1 := fold_snoc (fun y : Nat => m_Task_init__ (Str.ofString "t" ++ Str.ofString (toString ((0 : Int) + (y : Int)))) (tasks.getD ((0 : Int) + (y : Int)).toNat default).1 (tasks.getD ((0 : Int) + (y : Int)).toNat default).2) (m_law_system_l0 tasks) (fun s y => rfl) (List.range ((tasks.length : Int)).toNat) []
  rw [List.nil_append] at e1
  rw [e1, show ((tasks.length : Int)).toNat = tasks.length by omega]
  have e2 : (List.range tasks.length).map (fun y : Nat => m_Task_init__ (Str.ofString "t" ++ Str.ofString (toString ((0 : Int) + (y : Int)))) (tasks.getD ((0 : Int) + (y : Int)).toNat default).1 (tasks.getD ((0 : Int) + (y : Int)).toNat default).2) = (List.range tasks.length).map (fun y : Nat => ({ name := tname y, kinds := (tasks.getD y default).1, ways := (tasks.getD y default).2 } : Task)) := by
    refine List.map_congr_left fun y hy => ?_
    have hy := List.mem_range.mp hy
    have hp := ho _ (getD_mem (xs := tasks) (i := y) hy)
    rw [show ((0 : Int) + (y : Int)).toNat = y by omega, init_eq (tname_ok y (by omega)) hp.1.are hp.2.are, Int.zero_add]; rfl
  rw [e2]
  refine ⟨_, sys_eq htb ?_, by rw [List.length_map, List.length_range], fun i t h => ?_⟩
  · rw [List.map_map]
    exact tnames_ok h6
  · rw [List.getElem?_map] at h
    by_cases hi : i < tasks.length
    · rw [List.getElem?_range hi] at h
      cases h
      exact ⟨rfl, rfl, hi⟩
    · rw [List.getElem?_eq_none (by rw [List.length_range]; omega)] at h; cases h
theorem lsys_ok {tasks : List (List (Str × Int × Int) × List (Str × Str × Int))} {table : List Int} (h6 : tasks.length ≤ 6) (ho : ∀ p ∈ tasks, KindsOk p.1 ∧ WaysOk p.2 p.1) (htb : m_is_table table = true) (hx : table.length ≤ 1001) (hs : ∀ x ∈ table, 0 ≤ x ∧ x ≤ 1000) (h1 : 1 ≤ table.length) (h4 : table.length ≤ 4) :
    (∀ t ∈ (m_law_system tasks table).tasks, t.ok) ∧ 0 < (m_law_system tasks table).table.length ∧ (m_law_system tasks table).table.length ≤ 1001 ∧ 0 ≤ (m_law_system tasks table).table.sum ∧ (m_law_system tasks table).table.sum < 2 ^ 40 := by
  obtain ⟨ts, e, hl, ht⟩ := sys_shape h6 ho htb
  rw [e]
  have hb := sum_bound table (fun x => x) 1000 hs
  rw [List.map_id'] at hb
  refine ⟨fun t hm => ?_, by dsimp only; omega, by dsimp only; omega, hb.1, by dsimp only; omega⟩
  obtain ⟨i, hi, rfl⟩ := List.getElem_of_mem hm
  obtain ⟨a, b, c⟩ := ht i _ (List.getElem?_eq_getElem hi)
  have hp := ho _ (getD_mem (xs := tasks) (i := i) c)
  unfold Task.ok
  rw [a, b]
  exact ⟨hp.1.are, hp.2.are⟩

theorem sc_law : FnScope ["script", "numbers", "tasks", "table", "start", "length", "horizon", "system", "told", "due", "actual", "expected"] ["script"] (defScope s_law) := ⟨rfl, rfl, rfl, by decide +kernel, rfl, by decide +kernel, by decide +kernel⟩
def sp_law : SpN := fun zcs zL zKc => ∃ script : List Int, zcs = [.fr ((eL D.int) script)] ∧ zL = [] ∧ (script.length ≤ 63) ∧ ∀ zL', zKc (.fr (D.bl (m_law script))) zL'
theorem ok_law (T : TX K mg) : FnOk P w K mg base CX0 10 T.a_law T.d_law ["script"] (SpOf K mg sp_law) := by
  have O_law_demands := ok_law_demands (P := P) (w := w) (base := base) T
  have O_law_is_pair := ok_law_is_pair (P := P) (w := w) (base := base) T
  have O_law_numbers := ok_law_numbers (P := P) (w := w) (base := base) T
  have O_law_overfull := ok_law_overfull (P := P) (w := w) (base := base) T
  have O_law_pick := ok_law_pick (P := P) (w := w) (base := base) T
  have O_law_supply := ok_law_supply (P := P) (w := w) (base := base) T
  have O_law_system := ok_law_system (P := P) (w := w) (base := base) T
  have O_law_table := ok_law_table (P := P) (w := w) (base := base) T
  have O_law_tasks := ok_law_tasks (P := P) (w := w) (base := base) T
  have O_first_overfull := ok_first_overfull (P := P) (w := w) (base := base) T
  have O_is_overfull := ok_is_overfull (P := P) (w := w) (base := base) T
  refine T.F_law.okN sc_law (fun zcs zL zKc zh => by obtain ⟨script, rfl, _⟩ := zh; rfl) fun zcdv zA zout zst zH zE zB zcs zL zKc zhr zh => ?_
  obtain ⟨script, rfl, rfl, hpre, zk⟩ := zh
  have nd := sc_law.nd
  have hSL := sizeLine_eq
  show Exs _ _ _ ⟨[some (.fr ((eL D.int) script)), none, none, none, none, none, none, none, none, none, none, none], []⟩ _
  refine exs_cons (ex_set 1 (ev_call (ds := [(eL D.int) script, D.int (75 : Int)]) (ds' := []) (dvs := []) (dfs := []) O_law_numbers (zhr.mono (by decide)) T.m_law_numbers T.k_law_numbers T.b_law_numbers .nil (fun _ => .nil) (ea_cons (ev_var 0 rfl (.inl rfl) rfl) (ea_cons ev_int ea_nil)) (fun _ zkk => ⟨script, (75 : Int), rfl, rfl, (by walk_at "pre"), zkk⟩) (by exact rfl)) ?_ nd rfl (.inl rfl))
  show Exs _ _ _ ⟨[some (.fr ((eL D.int) script)), some (.fr ((eL D.int) (m_law_numbers script (75 : Int)))), none, none, none, none, none, none, none, none, none, none], []⟩ _
  generalize zg_numbers : (m_law_numbers script (75 : Int)) = numbers
  show Exs _ _ _ ⟨[some (.fr ((eL D.int) script)), some (.fr ((eL D.int) numbers)), none, none, none, none, none, none, none, none, none, none], []⟩ _
  have hnf := numbers_facts script (75 : Int) (by decide)
  rw [zg_numbers] at hnf
  have hnum : numbers.length = 75 := hnf.1
  have hp60 := pick_bound numbers 60 (count := 4) (by decide)
  have hp66 := pick_bound numbers 66 (count := 13) (by decide)
  have hp67 := pick_bound numbers 67 (count := 21) (by decide)
  have hp68 := pick_bound numbers 68 (count := 24) (by decide)
  refine exs_cons (ex_set 2 (ev_call (ds := [(eL D.int) numbers, D.int (0 : Int), D.int (m_law_pick numbers (60 : Int) (4 : Int))]) (ds' := []) (dvs := []) (dfs := []) O_law_tasks (zhr.mono (by decide)) T.m_law_tasks T.k_law_tasks T.b_law_tasks .nil (fun _ => .nil) (ea_cons (ev_var 1 rfl (.inl rfl) rfl) (ea_cons ev_int (ea_cons (ev_call (ds := [(eL D.int) numbers, D.int (60 : Int), D.int (4 : Int)]) (ds' := []) (dvs := []) (dfs := []) O_law_pick (zhr.mono (by decide)) T.m_law_pick T.k_law_pick T.b_law_pick .nil (fun _ => .nil) (ea_cons (ev_var 1 rfl (.inl rfl) rfl) (ea_cons ev_int (ea_cons ev_int ea_nil))) (fun _ zkk => ⟨numbers, (60 : Int), (4 : Int), rfl, rfl, (by walk_at "pre"), zkk⟩) (by exact rfl)) ea_nil))) (fun _ zkk => ⟨numbers, (0 : Int), (m_law_pick numbers (60 : Int) (4 : Int)), rfl, rfl, (by walk_at "pre"), zkk⟩) (by exact rfl)) ?_ nd rfl (.inl rfl))
  show Exs _ _ _ ⟨[some (.fr ((eL D.int) script)), some (.fr ((eL D.int) numbers)), some (.fr ((eL (eT2 (eL (eT3 D.str D.int D.int)) (eL (eT3 D.str D.str D.int)))) (m_law_tasks numbers (0 : Int) (m_law_pick numbers (60 : Int) (4 : Int))))), none, none, none, none, none, none, none, none, none], []⟩ _
  generalize zg_tasks : (m_law_tasks numbers (0 : Int) (m_law_pick numbers (60 : Int) (4 : Int))) = tasks
  show Exs _ _ _ ⟨[some (.fr ((eL D.int) script)), some (.fr ((eL D.int) numbers)), some (.fr ((eL (eT2 (eL (eT3 D.str D.int D.int)) (eL (eT3 D.str D.str D.int)))) tasks)), none, none, none, none, none, none, none, none, none], []⟩ _
  have hto := tasks_ok hnf.2 0 (count := m_law_pick numbers 60 4) (by omega)
  rw [zg_tasks] at hto
  refine exs_cons (ex_set 3 (ev_call (ds := [(eL D.int) numbers, D.int (61 : Int)]) (ds' := []) (dvs := []) (dfs := []) O_law_table (zhr.mono (by decide)) T.m_law_table T.k_law_table T.b_law_table .nil (fun _ => .nil) (ea_cons (ev_var 1 rfl (.inl rfl) rfl) (ea_cons ev_int ea_nil)) (fun _ zkk => ⟨numbers, (61 : Int), rfl, rfl, (by walk_at "pre"), zkk⟩) (by exact rfl)) ?_ nd rfl (.inl rfl))
  show Exs _ _ _ ⟨[some (.fr ((eL D.int) script)), some (.fr ((eL D.int) numbers)), some (.fr ((eL (eT2 (eL (eT3 D.str D.int D.int)) (eL (eT3 D.str D.str D.int)))) tasks)), some (.fr ((eL D.int) (m_law_table numbers (61 : Int)))), none, none, none, none, none, none, none, none], []⟩ _
  generalize zg_table : (m_law_table numbers (61 : Int)) = table
  show Exs _ _ _ ⟨[some (.fr ((eL D.int) script)), some (.fr ((eL D.int) numbers)), some (.fr ((eL (eT2 (eL (eT3 D.str D.int D.int)) (eL (eT3 D.str D.str D.int)))) tasks)), some (.fr ((eL D.int) table)), none, none, none, none, none, none, none, none], []⟩ _
  have htf := ltab_facts numbers 61
  rw [zg_table] at htf
  have htb := table_ok_of htf.1 (by omega) (fun x hx => by have := htf.2.2 x hx; omega)
  refine exs_cons (ex_set 4 (ev_call (ds := [(eL D.int) numbers, D.int (66 : Int), D.int (13 : Int)]) (ds' := []) (dvs := []) (dfs := []) O_law_pick (zhr.mono (by decide)) T.m_law_pick T.k_law_pick T.b_law_pick .nil (fun _ => .nil) (ea_cons (ev_var 1 rfl (.inl rfl) rfl) (ea_cons ev_int (ea_cons ev_int ea_nil))) (fun _ zkk => ⟨numbers, (66 : Int), (13 : Int), rfl, rfl, (by walk_at "pre"), zkk⟩) (by exact rfl)) ?_ nd rfl (.inl rfl))
  show Exs _ _ _ ⟨[some (.fr ((eL D.int) script)), some (.fr ((eL D.int) numbers)), some (.fr ((eL (eT2 (eL (eT3 D.str D.int D.int)) (eL (eT3 D.str D.str D.int)))) tasks)), some (.fr ((eL D.int) table)), some (.fr (D.int (m_law_pick numbers (66 : Int) (13 : Int)))), none, none, none, none, none, none, none], []⟩ _
  generalize zg_start : (m_law_pick numbers (66 : Int) (13 : Int)) = start
  show Exs _ _ _ ⟨[some (.fr ((eL D.int) script)), some (.fr ((eL D.int) numbers)), some (.fr ((eL (eT2 (eL (eT3 D.str D.int D.int)) (eL (eT3 D.str D.str D.int)))) tasks)), some (.fr ((eL D.int) table)), some (.fr (D.int start)), none, none, none, none, none, none, none], []⟩ _
  have hst := hp66
  rw [zg_start] at hst
  refine exs_cons (ex_set 5 (ev_call (ds := [(eL D.int) numbers, D.int (67 : Int), D.int (21 : Int)]) (ds' := []) (dvs := []) (dfs := []) O_law_pick (zhr.mono (by decide)) T.m_law_pick T.k_law_pick T.b_law_pick .nil (fun _ => .nil) (ea_cons (ev_var 1 rfl (.inl rfl) rfl) (ea_cons ev_int (ea_cons ev_int ea_nil))) (fun _ zkk => ⟨numbers, (67 : Int), (21 : Int), rfl, rfl, (by walk_at "pre"), zkk⟩) (by exact rfl)) ?_ nd rfl (.inl rfl))
  show Exs _ _ _ ⟨[some (.fr ((eL D.int) script)), some (.fr ((eL D.int) numbers)), some (.fr ((eL (eT2 (eL (eT3 D.str D.int D.int)) (eL (eT3 D.str D.str D.int)))) tasks)), some (.fr ((eL D.int) table)), some (.fr (D.int start)), some (.fr (D.int (m_law_pick numbers (67 : Int) (21 : Int)))), none, none, none, none, none, none], []⟩ _
  generalize zg_length : (m_law_pick numbers (67 : Int) (21 : Int)) = length
  show Exs _ _ _ ⟨[some (.fr ((eL D.int) script)), some (.fr ((eL D.int) numbers)), some (.fr ((eL (eT2 (eL (eT3 D.str D.int D.int)) (eL (eT3 D.str D.str D.int)))) tasks)), some (.fr ((eL D.int) table)), some (.fr (D.int start)), some (.fr (D.int length)), none, none, none, none, none, none], []⟩ _
  have hle := hp67
  rw [zg_length] at hle
  refine exs_cons (ex_set 6 (ev_bin o_add ev_int (ev_call (ds := [(eL D.int) numbers, D.int (68 : Int), D.int (24 : Int)]) (ds' := []) (dvs := []) (dfs := []) O_law_pick (zhr.mono (by decide)) T.m_law_pick T.k_law_pick T.b_law_pick .nil (fun _ => .nil) (ea_cons (ev_var 1 rfl (.inl rfl) rfl) (ea_cons ev_int (ea_cons ev_int ea_nil))) (fun _ zkk => ⟨numbers, (68 : Int), (24 : Int), rfl, rfl, (by walk_at "pre"), zkk⟩) (by exact rfl))) ?_ nd rfl (.inl rfl))
  show Exs _ _ _ ⟨[some (.fr ((eL D.int) script)), some (.fr ((eL D.int) numbers)), some (.fr ((eL (eT2 (eL (eT3 D.str D.int D.int)) (eL (eT3 D.str D.str D.int)))) tasks)), some (.fr ((eL D.int) table)), some (.fr (D.int start)), some (.fr (D.int length)), some (.fr (D.int ((1 : Int) + (m_law_pick numbers (68 : Int) (24 : Int))))), none, none, none, none, none], []⟩ _
  generalize zg_horizon : ((1 : Int) + (m_law_pick numbers (68 : Int) (24 : Int))) = horizon
  show Exs _ _ _ ⟨[some (.fr ((eL D.int) script)), some (.fr ((eL D.int) numbers)), some (.fr ((eL (eT2 (eL (eT3 D.str D.int D.int)) (eL (eT3 D.str D.str D.int)))) tasks)), some (.fr ((eL D.int) table)), some (.fr (D.int start)), some (.fr (D.int length)), some (.fr (D.int horizon)), none, none, none, none, none], []⟩ _
  have hho : 1 ≤ horizon ∧ horizon ≤ 24 := by rw [← zg_horizon]; omega
  refine exs_cons (ex_set 7 (ev_call (ds := [(eL (eT2 (eL (eT3 D.str D.int D.int)) (eL (eT3 D.str D.str D.int)))) tasks, (eL D.int) table]) (ds' := []) (dvs := []) (dfs := []) O_law_system (zhr.mono (by decide)) T.m_law_system T.k_law_system T.b_law_system .nil (fun _ => .nil) (ea_cons (ev_var 2 rfl (.inl rfl) rfl) (ea_cons (ev_var 3 rfl (.inl rfl) rfl) ea_nil)) (fun _ zkk => ⟨tasks, table, rfl, rfl, (by walk_at "pre"), zkk⟩) (by exact rfl)) ?_ nd rfl (.inl rfl))
  show Exs _ _ _ ⟨[some (.fr ((eL D.int) script)), some (.fr ((eL D.int) numbers)), some (.fr ((eL (eT2 (eL (eT3 D.str D.int D.int)) (eL (eT3 D.str D.str D.int)))) tasks)), some (.fr ((eL D.int) table)), some (.fr (D.int start)), some (.fr (D.int length)), some (.fr (D.int horizon)), some (.fr (eSystem (m_law_system tasks table))), none, none, none, none], []⟩ _
  generalize zg_system : (m_law_system tasks table) = system
  show Exs _ _ _ ⟨[some (.fr ((eL D.int) script)), some (.fr ((eL D.int) numbers)), some (.fr ((eL (eT2 (eL (eT3 D.str D.int D.int)) (eL (eT3 D.str D.str D.int)))) tasks)), some (.fr ((eL D.int) table)), some (.fr (D.int start)), some (.fr (D.int length)), some (.fr (D.int horizon)), some (.fr (eSystem system)), none, none, none, none], []⟩ _
  have hsok := lsys_ok (tasks := tasks) (by omega) hto.2 htb (by omega) htf.2.2 htf.1 htf.2.1
  rw [zg_system] at hsok
  refine exs_cons (ex_set 8 (ev_callKw (ds := [eSystem system]) (es' := [D.int start, D.int length]) (n := 1) (ks := ["start", "length"]) O_is_overfull (zhr.mono (by decide)) T.m_is_overfull T.k_is_overfull T.kb_is_overfull_1_start_length (ea_cons (ev_var 7 rfl (.inl rfl) rfl) ea_nil) (ek_cons (ev_var 4 rfl (.inl rfl) rfl) (ek_cons (ev_var 5 rfl (.inl rfl) rfl) ek_nil)) rfl rfl (fun _ zkk => ⟨system, start, length, rfl, rfl, (by walk_at "pre"), zkk⟩) (by exact rfl)) ?_ nd rfl (.inl rfl))
  show Exs _ _ _ ⟨[some (.fr ((eL D.int) script)), some (.fr ((eL D.int) numbers)), some (.fr ((eL (eT2 (eL (eT3 D.str D.int D.int)) (eL (eT3 D.str D.str D.int)))) tasks)), some (.fr ((eL D.int) table)), some (.fr (D.int start)), some (.fr (D.int length)), some (.fr (D.int horizon)), some (.fr (eSystem system)), some (.fr (D.bl (m_is_overfull system start length))), none, none, none], []⟩ _
  generalize zg_told : (m_is_overfull system start length) = told
  show Exs _ _ _ ⟨[some (.fr ((eL D.int) script)), some (.fr ((eL D.int) numbers)), some (.fr ((eL (eT2 (eL (eT3 D.str D.int D.int)) (eL (eT3 D.str D.str D.int)))) tasks)), some (.fr ((eL D.int) table)), some (.fr (D.int start)), some (.fr (D.int length)), some (.fr (D.int horizon)), some (.fr (eSystem system)), some (.fr (D.bl told)), none, none, none], []⟩ _
  have hdl := lawd_len tasks (n := length) (by omega)
  refine exs_cons (ex_set 9 (ev_cmp o_gt (ev_ix (ix_L (xs := (m_law_demands tasks length)) (enc := D.int) (by exact rfl) (by walk_at "sd") (by walk_at "sd")) (ev_call (ds := [(eL (eT2 (eL (eT3 D.str D.int D.int)) (eL (eT3 D.str D.str D.int)))) tasks, D.int length]) (ds' := []) (dvs := []) (dfs := []) O_law_demands (zhr.mono (by decide)) T.m_law_demands T.k_law_demands T.b_law_demands .nil (fun _ => .nil) (ea_cons (ev_var 2 rfl (.inl rfl) rfl) (ea_cons (ev_var 5 rfl (.inl rfl) rfl) ea_nil)) (fun _ zkk => ⟨tasks, length, rfl, rfl, (by walk_at "pre"), zkk⟩) (by exact rfl)) (ev_var 5 rfl (.inl rfl) rfl)) (ev_call (ds := [(eL D.int) table, D.int start, D.int (start + length)]) (ds' := []) (dvs := []) (dfs := []) O_law_supply (zhr.mono (by decide)) T.m_law_supply T.k_law_supply T.b_law_supply .nil (fun _ => .nil) (ea_cons (ev_var 3 rfl (.inl rfl) rfl) (ea_cons (ev_var 4 rfl (.inl rfl) rfl) (ea_cons (ev_bin o_add (ev_var 4 rfl (.inl rfl) rfl) (ev_var 5 rfl (.inl rfl) rfl)) ea_nil))) (fun _ zkk => ⟨table, start, (start + length), rfl, rfl, (by walk_at "pre"), zkk⟩) (by exact rfl)) (nomark _)) ?_ nd rfl (.inl rfl))
  show Exs _ _ _ ⟨[some (.fr ((eL D.int) script)), some (.fr ((eL D.int) numbers)), some (.fr ((eL (eT2 (eL (eT3 D.str D.int D.int)) (eL (eT3 D.str D.str D.int)))) tasks)), some (.fr ((eL D.int) table)), some (.fr (D.int start)), some (.fr (D.int length)), some (.fr (D.int horizon)), some (.fr (eSystem system)), some (.fr (D.bl told)), some (.fr (D.bl (decide ((m_law_supply table start (start + length)) < ((m_law_demands tasks length).getD (length).toNat default))))), none, none], []⟩ _
  generalize zg_due : (decide ((m_law_supply table start (start + length)) < ((m_law_demands tasks length).getD (length).toNat default))) = due
  show Exs _ _ _ ⟨[some (.fr ((eL D.int) script)), some (.fr ((eL D.int) numbers)), some (.fr ((eL (eT2 (eL (eT3 D.str D.int D.int)) (eL (eT3 D.str D.str D.int)))) tasks)), some (.fr ((eL D.int) table)), some (.fr (D.int start)), some (.fr (D.int length)), some (.fr (D.int horizon)), some (.fr (eSystem system)), some (.fr (D.bl told)), some (.fr (D.bl due)), none, none], []⟩ _
  refine exs_cons (ex_ifP (bd_or (bd_not Iff.rfl) bd_n) (Ew.et (ew_orP (bd_not Iff.rfl) (et_not (et_val (ev_isi (T := "bool") (b := true) (ev_var 8 rfl (.inl rfl) rfl) rfl (by decide) (by exact rfl) T.n_isinstance (by exact rfl) T.n_bool (by decide +kernel)))) (fun zhp => (ew_or1 (et_cmp o_neb (ev_var 8 rfl (.inl rfl) rfl) (ev_var 9 rfl (.inl rfl) rfl) (nomark _)))))) (fun (zh1 : ((¬ (true = true)) ∨ (¬ (told = due)))) => ?_) (fun (zh1 : ¬ ((¬ (true = true)) ∨ (¬ (told = due)))) => ?_))
  · skip
    refine exs_one (ex_ret ev_bl ?_)
    have efin : m_law script = false := by subst zg_due; subst zg_told; subst zg_system; subst zg_horizon; subst zg_length; subst zg_start; subst zg_table; subst zg_tasks; subst zg_numbers; simp only [m_law, not_true_eq_false, not_false_eq_true, ↓reduceIte, ↓if_pos zh1]
    rw [efin] at zk
    exact zk _
  · skip
    refine exs_nil ?_
    show Exs _ _ _ ⟨[some (.fr ((eL D.int) script)), some (.fr ((eL D.int) numbers)), some (.fr ((eL (eT2 (eL (eT3 D.str D.int D.int)) (eL (eT3 D.str D.str D.int)))) tasks)), some (.fr ((eL D.int) table)), some (.fr (D.int start)), some (.fr (D.int length)), some (.fr (D.int horizon)), some (.fr (eSystem system)), some (.fr (D.bl told)), some (.fr (D.bl due)), none, none], []⟩ _
    refine exs_cons (ex_set 10 (ev_callKw (ds := [eSystem system]) (es' := [D.int horizon]) (n := 1) (ks := ["horizon"]) O_first_overfull (zhr.mono (by decide)) T.m_first_overfull T.k_first_overfull T.kb_first_overfull_1_horizon (ea_cons (ev_var 7 rfl (.inl rfl) rfl) ea_nil) (ek_cons (ev_var 6 rfl (.inl rfl) rfl) ek_nil) rfl rfl (fun _ zkk => ⟨system, horizon, rfl, rfl, (by walk_at "pre"), zkk⟩) (by exact rfl)) ?_ nd rfl (.inl rfl))
    show Exs _ _ _ ⟨[some (.fr ((eL D.int) script)), some (.fr ((eL D.int) numbers)), some (.fr ((eL (eT2 (eL (eT3 D.str D.int D.int)) (eL (eT3 D.str D.str D.int)))) tasks)), some (.fr ((eL D.int) table)), some (.fr (D.int start)), some (.fr (D.int length)), some (.fr (D.int horizon)), some (.fr (eSystem system)), some (.fr (D.bl told)), some (.fr (D.bl due)), some (.fr ((eO (eT2 D.int D.int)) (m_first_overfull system horizon))), none], []⟩ _
    generalize zg_actual : (m_first_overfull system horizon) = actual
    show Exs _ _ _ ⟨[some (.fr ((eL D.int) script)), some (.fr ((eL D.int) numbers)), some (.fr ((eL (eT2 (eL (eT3 D.str D.int D.int)) (eL (eT3 D.str D.str D.int)))) tasks)), some (.fr ((eL D.int) table)), some (.fr (D.int start)), some (.fr (D.int length)), some (.fr (D.int horizon)), some (.fr (eSystem system)), some (.fr (D.bl told)), some (.fr (D.bl due)), some (.fr ((eO (eT2 D.int D.int)) actual)), none], []⟩ _
    refine exs_cons (ex_set 11 (ev_call (ds := [(eL (eT2 (eL (eT3 D.str D.int D.int)) (eL (eT3 D.str D.str D.int)))) tasks, (eL D.int) table, D.int horizon]) (ds' := []) (dvs := []) (dfs := []) O_law_overfull (zhr.mono (by decide)) T.m_law_overfull T.k_law_overfull T.b_law_overfull .nil (fun _ => .nil) (ea_cons (ev_var 2 rfl (.inl rfl) rfl) (ea_cons (ev_var 3 rfl (.inl rfl) rfl) (ea_cons (ev_var 6 rfl (.inl rfl) rfl) ea_nil))) (fun _ zkk => ⟨tasks, table, horizon, rfl, rfl, (by walk_at "pre"), zkk⟩) (by exact rfl)) ?_ nd rfl (.inl rfl))
    show Exs _ _ _ ⟨[some (.fr ((eL D.int) script)), some (.fr ((eL D.int) numbers)), some (.fr ((eL (eT2 (eL (eT3 D.str D.int D.int)) (eL (eT3 D.str D.str D.int)))) tasks)), some (.fr ((eL D.int) table)), some (.fr (D.int start)), some (.fr (D.int length)), some (.fr (D.int horizon)), some (.fr (eSystem system)), some (.fr (D.bl told)), some (.fr (D.bl due)), some (.fr ((eO (eT2 D.int D.int)) actual)), some (.fr ((eO (eT2 D.int D.int)) (m_law_overfull tasks table horizon)))], []⟩ _
    generalize zg_expected : (m_law_overfull tasks table horizon) = expected
    show Exs _ _ _ ⟨[some (.fr ((eL D.int) script)), some (.fr ((eL D.int) numbers)), some (.fr ((eL (eT2 (eL (eT3 D.str D.int D.int)) (eL (eT3 D.str D.str D.int)))) tasks)), some (.fr ((eL D.int) table)), some (.fr (D.int start)), some (.fr (D.int length)), some (.fr (D.int horizon)), some (.fr (eSystem system)), some (.fr (D.bl told)), some (.fr (D.bl due)), some (.fr ((eO (eT2 D.int D.int)) actual)), some (.fr ((eO (eT2 D.int D.int)) expected))], []⟩ _
    refine exs_cons (ex_ifP Iff.rfl (et_cmp (o_isO (enc := (eT2 D.int D.int)) (y := expected) (fun _ => rfl)) (ev_var 11 rfl (.inl rfl) rfl) ev_non (by rfl)) (fun (zh2 : (expected.isNone = true)) => ?_) (fun (zh2 : ¬ (expected.isNone = true)) => ?_))
    · skip
      refine exs_one (ex_ret (ev_cmp (o_isO (enc := (eT2 D.int D.int)) (y := actual) (fun _ => rfl)) (ev_var 10 rfl (.inl rfl) rfl) ev_non (by rfl)) ?_)
      have efin : m_law script = (actual.isNone) := by subst zg_expected; subst zg_actual; subst zg_due; subst zg_told; subst zg_system; subst zg_horizon; subst zg_length; subst zg_start; subst zg_table; subst zg_tasks; subst zg_numbers; simp only [m_law, not_true_eq_false, not_false_eq_true, ↓reduceIte, ↓if_neg zh1, ↓if_pos zh2]
      rw [efin] at zk
      exact zk _
    · skip
      refine exs_nil ?_
      show Exs _ _ _ ⟨[some (.fr ((eL D.int) script)), some (.fr ((eL D.int) numbers)), some (.fr ((eL (eT2 (eL (eT3 D.str D.int D.int)) (eL (eT3 D.str D.str D.int)))) tasks)), some (.fr ((eL D.int) table)), some (.fr (D.int start)), some (.fr (D.int length)), some (.fr (D.int horizon)), some (.fr (eSystem system)), some (.fr (D.bl told)), some (.fr (D.bl due)), some (.fr ((eO (eT2 D.int D.int)) actual)), some (.fr ((eO (eT2 D.int D.int)) expected))], []⟩ _
      refine exs_one (ex_ret (ev_andP Iff.rfl (ev_call (ds := [(eO (eT2 D.int D.int)) actual]) (ds' := []) (dvs := []) (dfs := []) O_law_is_pair (zhr.mono (by decide)) T.m_law_is_pair T.k_law_is_pair T.b_law_is_pair .nil (fun _ => .nil) (ea_cons (ev_var 10 rfl (.inl rfl) rfl) ea_nil) (fun _ zkk => ⟨actual, rfl, rfl, trivial, zkk⟩) (by exact rfl)) (fun zhp => (ev_one (ev_cmp (o_eqD (e := (eO (eT2 D.int D.int))) (x := actual) (y := expected) zhr.units (ee_O (ee_T2 ee_int ee_int) nn_T2)) (ev_var 10 rfl (.inl rfl) rfl) (ev_var 11 rfl (.inl rfl) rfl) (nomark _))))) ?_)
      have efin : m_law script = ((m_law_is_pair actual) && (decide (actual = expected))) := by subst zg_expected; subst zg_actual; subst zg_due; subst zg_told; subst zg_system; subst zg_horizon; subst zg_length; subst zg_start; subst zg_table; subst zg_tasks; subst zg_numbers; simp only [m_law, not_true_eq_false, not_false_eq_true, ↓reduceIte, ↓if_neg zh1, ↓if_neg zh2]
      rw [efin] at zk
      exact zk _
theorem supply_eq (t : List Int) (s e : Nat) (ht : 0 < t.length) (h : s ≤ e) : m_supply t (s : Int) (e : Int) = Pf t e - Pf t s := by
  unfold m_supply
  by_cases h2 : (e : Int) ≤ (s : Int)
  · rw [if_pos h2, show e = s by omega]; omega
  · rw [if_neg h2]
    dsimp only
    have hL : t.length ≠ 0 := by omega
    have e1 : (e : Int) - (s : Int) = ((e - s : Nat) : Int) := by omega
    rw [e1, ← Int.natCast_emod, ← Int.natCast_emod, ← Int.natCast_ediv, ← Int.natCast_add]
    have m1 := Nat.mod_lt s ht
    have m2 := Nat.mod_lt (e - s) ht
    rw [Int.toNat_natCast, Int.toNat_natCast, sums_at t _ (by omega), sums_at t _ (by omega)]
    have d1 := Nat.mod_add_div s t.length
    have d2 := Nat.mod_add_div (e - s) t.length
    have p1 := Pf_mul t (s % t.length) (s / t.length)
    have p2 := Pf_mul t (s % t.length + (e - s) % t.length) (s / t.length + (e - s) / t.length)
    rw [show s % t.length + s / t.length * t.length = s by rw [Nat.mul_comm]; exact d1] at p1
    rw [show s % t.length + (e - s) % t.length + (s / t.length + (e - s) / t.length) * t.length = e by rw [Nat.add_mul, Nat.mul_comm (s / _), Nat.mul_comm ((e - s) / _)]; omega] at p2
    rw [Int.natCast_add, Int.add_mul] at p2
    omega
theorem number_inj {t : Task} {a b : Str} (ha : a ∈ t.kinds.map (·.1)) (hb : b ∈ t.kinds.map (·.1)) : m_Task_kind_number t a = m_Task_kind_number t b ↔ a = b := by
  obtain ⟨i, e1, h1, ⟨c1, q1, r1⟩, _⟩ := kind_number_spec ha
  obtain ⟨j, e2, h2, ⟨c2, q2, r2⟩, _⟩ := kind_number_spec hb
  rw [e1, e2]
  constructor
  · intro h
    have : i = j := by omega
    subst this
    rw [q1] at q2; cases q2; rw [← r1, ← r2]
  · rintro rfl
    rw [e1] at e2; exact e2
theorem kind_name {t : Task} {a : Str} (ha : a ∈ t.kinds.map (·.1)) : (m_Task_kind t a).1 = a := by
  obtain ⟨i, e1, h1, ⟨c1, q1, r1⟩, _⟩ := kind_number_spec ha
  unfold m_Task_kind
  rw [e1, Int.toNat_natCast, List.getD_eq_getElem?_getD, q1]; exact r1
/-! numbers of kinds for lengths -/
def bval (found : List (List Int)) (n : Int) (s : Int × Int) : Int := (found.getD (n - s.2).toNat default).getD s.1.toNat default
theorem best_spec (found : List (List Int)) (n : Int) (steps : List (Int × Int)) : 0 ≤ (m_best_step steps found n).1 ∧ (∀ s ∈ steps, s.2 ≤ n → bval found n s ≤ (m_best_step steps found n).1) ∧ ((m_best_step steps found n).1 = 0 ∨ ∃ s ∈ steps, s.2 ≤ n ∧ (m_best_step steps found n).1 = bval found n s) := by
  have key : ∀ (ss : List (Int × Int)) (a : Int × Option (Int × Int)), a.1 ≤ (ss.foldl (m_best_step_l0 found n) a).1 ∧ (∀ s ∈ ss, s.2 ≤ n → bval found n s ≤ (ss.foldl (m_best_step_l0 found n) a).1) ∧ ((ss.foldl (m_best_step_l0 found n) a).1 = a.1 ∨ ∃ s ∈ ss, s.2 ≤ n ∧ (ss.foldl (m_best_step_l0 found n) a).1 = bval found n s) := by
    intro ss
    induction ss with
    | nil => intro a; exact ⟨Int.le_refl _, fun s h => absurd h (by simp), .inl rfl⟩
    | cons s ss ih =>
      intro a
      rw [List.foldl_cons]
      obtain ⟨h1, h2, h3⟩ := ih (m_best_step_l0 found n a s)
      have hs : a.1 ≤ (m_best_step_l0 found n a s).1 ∧ (s.2 ≤ n → bval found n s ≤ (m_best_step_l0 found n a s).1) ∧ ((m_best_step_l0 found n a s).1 = a.1 ∨ (s.2 ≤ n ∧ (m_best_step_l0 found n a s).1 = bval found n s)) := by
        unfold m_best_step_l0
        by_cases q : s.2 ≤ n ∧ a.1 < (found.getD (n - s.2).toNat default).getD s.1.toNat default
        · rw [if_pos q]
          exact ⟨Int.le_of_lt q.2, fun _ => Int.le_refl _, .inr ⟨q.1, rfl⟩⟩
        · rw [if_neg q]
          exact ⟨Int.le_refl _, fun z => Int.not_lt.mp fun y => q ⟨z, y⟩, .inl rfl⟩
      refine ⟨Int.le_trans hs.1 h1, fun x hx hn => ?_, ?_⟩
      · rcases List.mem_cons.mp hx with rfl | hx
        · exact Int.le_trans (hs.2.1 hn) h1
        · exact h2 x hx hn
      · rcases h3 with h3 | ⟨x, hx, h4, h5⟩
        · rcases hs.2.2 with q | ⟨q1, q2⟩
          · exact .inl (h3.trans q)
          · exact .inr ⟨s, List.mem_cons_self, q1, h3.trans q2⟩
        · exact .inr ⟨x, List.mem_cons_of_mem _ hx, h4, h5⟩
  obtain ⟨h1, h2, h3⟩ := key steps (0, none)
  exact ⟨h1, h2, h3⟩
abbrev KD := Int × Int × List (Int × Int)
def kdOf (t : Task) : List KD := t.kinds.map (fun zc : Str × Int × Int => (zc.2.1, zc.2.2, m_steps t zc.1))
theorem kdOf_len (t : Task) : (kdOf t).length = t.kinds.length := List.length_map _
def rowF (ks : List KD) (found : List (List Int)) (w : Int) : List Int := ks.map fun k => if k.2.1 ≤ w then (m_best_step k.2.2 found w).1 + k.1 else (m_best_step k.2.2 found w).1
theorem row_eq (ks : List KD) (found : List (List Int)) (w : Int) : ks.foldl (m_rows_l1 found w) [] = rowF ks found w := by
  rw [fold_snoc (fun k : KD => if k.2.1 ≤ w then (m_best_step k.2.2 found w).1 + k.1 else (m_best_step k.2.2 found w).1) (m_rows_l1 found w) (fun s y => rfl), List.nil_append]; rfl
/-- the rows of the lengths below n -/
def Rw (ks : List KD) (n : Nat) : List (List Int) := (List.range n).foldl (m_rows_l0 ks) []
theorem rows_Rw (t : Task) (n : Nat) : m_rows t (n : Int) = Rw (kdOf t) (n + 1) := by
  unfold m_rows Rw kdOf
  dsimp only
  rw [show ((n : Int) + 1).toNat = n + 1 by omega]
theorem Rw_succ (ks : List KD) (n : Nat) : Rw ks (n + 1) = Rw ks n ++ [rowF ks (Rw ks n) (n : Int)] := by
  unfold Rw
  rw [List.range_succ, List.foldl_append]
  show m_rows_l0 ks _ n = _
  unfold m_rows_l0
  rw [row_eq, Int.zero_add]
theorem Rw_len (ks : List KD) : ∀ n, (Rw ks n).length = n
  | 0 => rfl
  | n + 1 => by rw [Rw_succ, List.length_append, Rw_len ks n]; rfl
theorem Rw_get (ks : List KD) {i : Nat} : ∀ {n : Nat}, i < n → (Rw ks n).getD i default = rowF ks (Rw ks i) (i : Int)
  | 0, h => by omega
  | n + 1, h => by
    rw [Rw_succ, List.getD_eq_getElem?_getD]
    by_cases e : i = n
    · subst e
      rw [List.getElem?_append_right (by rw [Rw_len]; exact Nat.le_refl _), Rw_len, Nat.sub_self]; rfl
    · rw [List.getElem?_append_left (by rw [Rw_len]; omega), ← List.getD_eq_getElem?_getD]
      exact Rw_get ks (by omega)
/-- the number of the kind k for the length n -/
def Nm (ks : List KD) (n k : Nat) : Int := (rowF ks (Rw ks n) (n : Int)).getD k default
theorem rowF_get {ks : List KD} {found : List (List Int)} {w : Int} {k : Nat} {d : KD} (h : ks[k]? = some d) : (rowF ks found w).getD k default = if d.2.1 ≤ w then (m_best_step d.2.2 found w).1 + d.1 else (m_best_step d.2.2 found w).1 := by
  unfold rowF
  rw [List.getD_eq_getElem?_getD, List.getElem?_map, h]; rfl
/-- what is behind the first part of a number -/
structure Best (ks : List KD) (steps : List (Int × Int)) (n : Nat) (b : Int) : Prop where
  nn : 0 ≤ b
  ge : ∀ s ∈ steps, s.2 ≤ (n : Int) → Nm ks (n - s.2.toNat) s.1.toNat ≤ b
  eq : b = 0 ∨ ∃ s ∈ steps, s.2 ≤ (n : Int) ∧ b = Nm ks (n - s.2.toNat) s.1.toNat
theorem bval_Nm {ks : List KD} {n : Nat} {s : Int × Int} (h1 : 1 ≤ s.2) (h2 : s.2 ≤ (n : Int)) : bval (Rw ks n) (n : Int) s = Nm ks (n - s.2.toNat) s.1.toNat := by
  unfold bval
  rw [show ((n : Int) - s.2).toNat = n - s.2.toNat by omega, Rw_get ks (by omega)]; rfl
theorem best_Rw {ks : List KD} {steps : List (Int × Int)} (h1 : ∀ s ∈ steps, 1 ≤ s.2) (n : Nat) : Best ks steps n (m_best_step steps (Rw ks n) (n : Int)).1 := by
  obtain ⟨a, b, c⟩ := best_spec (Rw ks n) (n : Int) steps
  refine ⟨a, fun s hs hn => ?_, ?_⟩
  · rw [← bval_Nm (h1 s hs) hn]; exact b s hs hn
  · rcases c with c | ⟨s, hs, hn, e⟩
    · exact .inl c
    · exact .inr ⟨s, hs, hn, by rw [← bval_Nm (h1 s hs) hn]; exact e⟩
structure KdOk (ks : List KD) : Prop where
  cost : ∀ k ∈ ks, 0 ≤ k.1
  dist : ∀ k ∈ ks, ∀ s ∈ k.2.2, 0 ≤ s.1 ∧ s.1 < (ks.length : Int) ∧ 1 ≤ s.2
theorem Nm_rec {ks : List KD} (ok : KdOk ks) {k : Nat} {d : KD} (h : ks[k]? = some d) (n : Nat) : ∃ b, Best ks d.2.2 n b ∧ Nm ks n k = b + if d.2.1 ≤ (n : Int) then d.1 else 0 := by
  refine ⟨_, best_Rw (fun s hs => (ok.dist d (List.mem_of_getElem? h) s hs).2.2) n, ?_⟩
  unfold Nm
  rw [rowF_get h]
  split <;> omega
theorem Nm_nn {ks : List KD} (ok : KdOk ks) {k : Nat} (h : k < ks.length) (n : Nat) : 0 ≤ Nm ks n k := by
  have hk : ks[k]? = some ks[k] := List.getElem?_eq_getElem h
  obtain ⟨b, hb, e⟩ := Nm_rec ok hk n
  have := ok.cost _ (List.mem_of_getElem? hk)
  rw [e]
  have := hb.nn
  split <;> omega
theorem Nm_mono {ks : List KD} (ok : KdOk ks) : ∀ (n k : Nat), k < ks.length → Nm ks n k ≤ Nm ks (n + 1) k := by
  intro n
  induction n using Nat.strongRecOn with
  | ind n ih =>
    intro k h
    have hk : ks[k]? = some ks[k] := List.getElem?_eq_getElem h
    obtain ⟨b, hb, e⟩ := Nm_rec ok hk n
    obtain ⟨b', hb', e'⟩ := Nm_rec ok hk (n + 1)
    have hc := ok.cost _ (List.mem_of_getElem? hk)
    have hbb : b ≤ b' := by
      rcases hb.eq with q | ⟨s, hs, hn, q⟩
      · rw [q]; exact hb'.nn
      · have hd := ok.dist _ (List.mem_of_getElem? hk) s hs
        have h1 := hb'.ge s hs (by omega)
        have h2 := ih (n - s.2.toNat) (by omega) s.1.toNat (by omega)
        rw [show n - s.2.toNat + 1 = n + 1 - s.2.toNat by omega] at h2
        omega
    rw [e, e']
    split <;> split <;> omega
theorem Nm_le {ks : List KD} (ok : KdOk ks) {k : Nat} (h : k < ks.length) {n m : Nat} (hnm : n ≤ m) : Nm ks n k ≤ Nm ks m k := by
  induction m with
  | zero => rw [Nat.le_zero.mp hnm]; exact Int.le_refl _
  | succ m ih =>
    rcases Nat.lt_or_ge n (m + 1) with q | q
    · exact Int.le_trans (ih (by omega)) (Nm_mono ok m k h)
    · rw [show n = m + 1 by omega]; exact Int.le_refl _
theorem kd_ok {t : Task} (ok : t.ok) (hc : ∀ k ∈ t.kinds, 0 ≤ k.2.1) : KdOk (kdOf t) := by
  refine ⟨fun k hk => ?_, fun k hk s hs => ?_⟩
  · obtain ⟨x, hx, rfl⟩ := List.mem_map.mp hk; exact hc x hx
  · obtain ⟨x, hx, rfl⟩ := List.mem_map.mp hk
    have := steps_facts ok x.1 s hs
    rw [kdOf_len]; exact ⟨this.1, this.2.1, this.2.2.1⟩
theorem rows_at {t : Task} {L i : Nat} (h : i ≤ L) : (m_rows t (L : Int)).getD i default = rowF (kdOf t) (Rw (kdOf t) i) (i : Int) := by
  rw [rows_Rw, Rw_get _ (by omega)]
theorem kind_num {t : Task} {n : Str} (hn : n ∈ t.kinds.map (·.1)) : ∃ j : Nat, m_Task_kind_number t n = (j : Int) ∧ j < t.kinds.length ∧ ∃ c, t.kinds[j]? = some c ∧ c.1 = n := by
  obtain ⟨j, e, h1, h2, _⟩ := kind_number_spec hn
  exact ⟨j, e, h1, h2⟩
theorem steps_mem {t : Task} {n : Str} (hn : n ∈ t.kinds.map (·.1)) {s : Int × Int} : s ∈ m_steps t n ↔ ∃ w ∈ t.ways, w.1 = n ∧ s = (m_Task_kind_number t w.2.1, w.2.2) := by
  unfold m_steps m_Task_ways_from
  rw [kind_name hn]
  constructor
  · intro h
    obtain ⟨x, hx, rfl⟩ := List.mem_map.mp h
    obtain ⟨w, hw, rfl⟩ := List.mem_map.mp hx
    obtain ⟨h1, h2⟩ := List.mem_filter.mp hw
    exact ⟨w, h1, of_decide_eq_true h2, rfl⟩
  · rintro ⟨w, hw, h1, rfl⟩
    exact List.mem_map.mpr ⟨(w.2.1, w.2.2), List.mem_map.mpr ⟨w, List.mem_filter.mpr ⟨hw, decide_eq_true h1⟩, rfl⟩, rfl⟩
theorem number_eq {t : Task} {n : Str} (hn : n ∈ t.kinds.map (·.1)) : m_law_number t.kinds n = m_Task_kind_number t n := by
  obtain ⟨j, e, h1, ⟨c, q1, q2⟩, q3⟩ := kind_number_spec hn
  rw [e]
  unfold m_law_number
  have key : ∀ (m a : Nat), a + m = t.kinds.length → a ≤ j → runE (m_law_number_l0 t.kinds n) (List.range' a m) () = .error (j : Int) := by
    intro m
    induction m with
    | zero => intro a h2 h3; omega
    | succ m ih =>
      intro a h2 h3
      rw [List.range'_succ, runE_cons]
      by_cases q : a = j
      · subst q
        rw [show m_law_number_l0 t.kinds n () a = .error (a : Int) from by
          unfold m_law_number_l0
          rw [if_pos (by rw [show ((0 : Int) + (a : Int)).toNat = a by omega, List.getD_eq_getElem?_getD, q1]; exact q2), Int.zero_add]]
      · rw [show m_law_number_l0 t.kinds n () a = .ok () from by
          unfold m_law_number_l0
          have ha : t.kinds[a]? = some t.kinds[a] := List.getElem?_eq_getElem (by omega)
          rw [if_neg (by rw [show ((0 : Int) + (a : Int)).toNat = a by omega, List.getD_eq_getElem?_getD, ha]; exact q3 a (by omega) _ ha)]]
        exact ih (a + 1) (by omega) (by omega)
  rw [show (((t.kinds.length : Int))).toNat = t.kinds.length by omega, List.range_eq_range', key _ 0 (by omega) (by omega)]
/-! the law's own rows -/
theorem best_law {t : Task} (found : List (List Int)) (size : Int) {k : Str × Int × Int} (hk : k.1 ∈ t.kinds.map (·.1)) (hw : ∀ w ∈ t.ways, w.2.1 ∈ t.kinds.map (·.1)) :
    (m_best_step (m_steps t k.1) found size).1 = t.ways.foldl (m_law_rows_l2 t.kinds found size k) 0 := by
  have e1 : m_steps t k.1 = (t.ways.filter (fun w => decide (w.1 = k.1))).map (fun w => (m_Task_kind_number t w.2.1, w.2.2)) := by
    unfold m_steps m_Task_ways_from
    rw [kind_name hk, List.map_map]; rfl
  have key : ∀ (ws : List (Str × Str × Int)), (∀ w ∈ ws, w.2.1 ∈ t.kinds.map (·.1)) → ∀ a : Int × Option (Int × Int), (((ws.filter (fun w => decide (w.1 = k.1))).map (fun w => (m_Task_kind_number t w.2.1, w.2.2))).foldl (m_best_step_l0 found size) a).1 = ws.foldl (m_law_rows_l2 t.kinds found size k) a.1 := by
    intro ws
    induction ws with
    | nil => intro _ a; rfl
    | cons w ws ih =>
      intro h a
      rw [List.foldl_cons]
      have hn := number_eq (h w List.mem_cons_self)
      have h' := fun x hx => h x (List.mem_cons_of_mem w hx)
      by_cases q : w.1 = k.1
      · rw [List.filter_cons_of_pos (by simpa using q), List.map_cons, List.foldl_cons, ih h']
        congr 1
        unfold m_best_step_l0 m_law_rows_l2
        rw [hn]
        dsimp only
        by_cases q2 : w.2.2 ≤ size
        · by_cases q3 : a.1 < (found.getD (size - w.2.2).toNat default).getD (m_Task_kind_number t w.2.1).toNat default
          · rw [if_pos ⟨q2, q3⟩, if_pos ⟨q, q2⟩, if_pos q3]
          · rw [if_neg (fun z => q3 z.2), if_pos ⟨q, q2⟩, if_neg q3]
        · rw [if_neg (fun z => q2 z.1), if_neg (fun z => q2 z.2)]
      · rw [List.filter_cons_of_neg (by simpa using q), ih h']
        congr 1
        unfold m_law_rows_l2
        rw [if_neg (fun z => q z.1)]
  rw [e1]
  exact key t.ways hw (0, none)
theorem rows_law {t : Task} (hw : ∀ w ∈ t.ways, w.2.1 ∈ t.kinds.map (·.1)) (n : Int) : m_rows t n = m_law_rows t.kinds t.ways n := by
  unfold m_rows m_law_rows
  dsimp only
  congr 1
  funext found y
  unfold m_rows_l0 m_law_rows_l0
  congr 2
  rw [row_eq]
  have e2 := fold_snoc (fun k : Str × Int × Int => if k.2.2 ≤ (0 : Int) + (y : Int) then t.ways.foldl (m_law_rows_l2 t.kinds found ((0 : Int) + (y : Int)) k) 0 + k.2.1 else t.ways.foldl (m_law_rows_l2 t.kinds found ((0 : Int) + (y : Int)) k) 0) (m_law_rows_l1 t.kinds t.ways found ((0 : Int) + (y : Int))) (fun s y => rfl) t.kinds []
  rw [e2, List.nil_append]
  unfold rowF
  rw [List.map_map]
  refine List.map_congr_left fun k hk => ?_
  show (if k.2.2 ≤ _ then (m_best_step (m_steps t k.1) found _).1 + k.2.1 else (m_best_step (m_steps t k.1) found _).1) = _
  rw [best_law found _ (List.mem_map.mpr ⟨k, hk, rfl⟩) hw]
/-! systems of tasks: their demands, what a table supplies -/
theorem range_getD {τ : Type} [Inhabited τ] (xs : List τ) : (List.range xs.length).map (fun y => xs.getD y default) = xs := by
  apply List.ext_getElem
  · rw [List.length_map, List.length_range]
  · intro i h1 h2
    rw [List.getElem_map, List.getElem_range, List.getD_eq_getElem?_getD, List.getElem?_eq_getElem h2]; rfl
theorem demands_get {t : Task} {n : Int} {i : Nat} (h0 : 0 ≤ n) (h : i < n.toNat + 1) : (m_demands t n).getD i default = maxL ((m_rows t n).getD i default) := by
  unfold m_demands
  have hl := (rows_len (t := t) h0).1
  rw [List.getD_eq_getElem?_getD, List.getElem?_map, List.getElem?_eq_getElem (by omega), List.getD_eq_getElem?_getD, List.getElem?_eq_getElem (by omega)]; rfl
theorem sysd_fold {n : Int} (h0 : 0 ≤ n) : ∀ (ts : List Task) (s : List Int), (∀ t ∈ ts, t.ok) → (s.length : Int) = n + 1 → ts.foldl (m_joint_demands_l0 n) s = (ts.map fun t => (t.kinds, t.ways)).foldl (m_law_demands_l0 n) s
  | [], s, _, _ => rfl
  | t :: ts, s, ht, hs => by
    have ok := ht t List.mem_cons_self
    have e : m_joint_demands_l0 n s t = m_law_demands_l0 n s (t.kinds, t.ways) := by
      unfold m_joint_demands_l0 m_law_demands_l0
      dsimp only
      rw [← rows_law (fun w hw => (ok.wn w hw).2)]
      have hdl := demands_len ok h0
      apply List.ext_getElem
      · rw [List.length_map, List.length_zip, hdl, List.length_map, List.length_range]; omega
      · intro i h1 h2
        rw [List.length_map, List.length_range] at h2
        rw [List.getElem_map, List.getElem_zip, List.getElem_map, List.getElem_range, show ((0 : Int) + (i : Int)).toNat = i by omega, ← demands_get h0 (by omega), List.getD_eq_getElem?_getD, List.getElem?_eq_getElem (by omega), List.getD_eq_getElem?_getD, List.getElem?_eq_getElem (by omega)]
        rfl
    rw [List.map_cons, List.foldl_cons, List.foldl_cons, e]
    refine sysd_fold h0 ts _ (fun x hx => ht x (List.mem_cons_of_mem _ hx)) ?_
    unfold m_law_demands_l0
    rw [List.length_map, List.length_range]; omega
theorem sysd_law {s : System} (h : ∀ t ∈ s.tasks, t.ok) {n : Int} (h0 : 0 ≤ n) : m_system_demands s n = m_law_demands (s.tasks.map fun t => (t.kinds, t.ways)) n := by
  unfold m_system_demands m_joint_demands m_law_demands
  dsimp only
  have : (List.replicate (n + 1).toNat (0 : Int)) = (List.range (n + 1).toNat).map (fun _ : Nat => (0 : Int)) := by
    rw [List.map_const', List.length_range]
  rw [sysd_fold h0 s.tasks _ h (by rw [List.length_replicate]; omega), this]
theorem lsup_eq (t : List Int) (s n : Nat) (ht : 0 < t.length) : m_law_supply t (s : Int) ((s + n : Nat) : Int) = Pf t (s + n) - Pf t s := by
  unfold m_law_supply
  rw [show (((s + n : Nat) : Int) - (s : Int)).toNat = n by omega]
  induction n with
  | zero => simp
  | succ n ih =>
    rw [List.range_succ, List.map_append, List.sum_append, ih, List.map_singleton, List.sum_singleton]
    show _ + t.getD (((s : Int) + (n : Int)) % (t.length : Int)).toNat default = Pf t (s + n) + per t (s + n) - Pf t s
    unfold per
    rw [← Int.natCast_add, ← Int.natCast_emod, Int.toNat_natCast]; omega
theorem supplies_eq (t : List Int) (ht : 0 < t.length) (n : Nat) : m_supplies t (n : Int) = (List.range (n + 1)).map (Pf t) := by
  unfold m_supplies
  rw [show ((n : Int)).toNat = n by omega]
  induction n with
  | zero => rfl
  | succ n ih =>
    rw [List.range_succ, List.foldl_append, ih, List.range_succ (n := n + 1), List.map_append]
    show m_supplies_l0 t _ n = _
    unfold m_supplies_l0
    congr 1
    rw [List.range_succ, List.map_append, List.map_singleton, List.map_singleton, List.getLastD_concat]
    unfold m_capacity
    show [Pf t n + t.getD (((0 : Int) + (n : Int)) % (t.length : Int)).toNat default] = [Pf t n + per t n]
    unfold per
    rw [Int.zero_add, ← Int.natCast_emod, Int.toNat_natCast]
theorem supplies_at (t : List Int) (ht : 0 < t.length) {n i : Nat} (h : i ≤ n) : (m_supplies t (n : Int)).getD i default = Pf t i := by
  rw [supplies_eq t ht, List.getD_eq_getElem?_getD, List.getElem?_map, List.getElem?_range (by omega)]; rfl
/-! first of a row, last of a row -/
theorem runE_first {ρ : Type} {f : Unit → Nat → Except ρ Unit} {p : Nat → Prop} {g : Nat → ρ} (hp : ∀ j, p j → f () j = .error (g j)) (hn : ∀ j, ¬ p j → f () j = .ok ()) :
    ∀ (m a j0 : Nat), a ≤ j0 → j0 < a + m → p j0 → (∀ j, a ≤ j → j < j0 → ¬ p j) → runE f (List.range' a m) () = .error (g j0)
  | 0, a, j0, h1, h2, _, _ => by omega
  | m + 1, a, j0, h1, h2, h3, h4 => by
    rw [List.range'_succ, runE_cons]
    by_cases e : a = j0
    · subst e; rw [hp a h3]
    · rw [hn a (h4 a (Nat.le_refl _) (by omega))]
      exact runE_first hp hn m (a + 1) j0 (by omega) (by omega) h3 fun j q1 q2 => h4 j (by omega) q2
theorem runE_none {ρ : Type} {f : Unit → Nat → Except ρ Unit} {p : Nat → Prop} (hn : ∀ j, ¬ p j → f () j = .ok ()) :
    ∀ (m a : Nat), (∀ j, a ≤ j → j < a + m → ¬ p j) → runE f (List.range' a m) () = .ok ()
  | 0, a, _ => rfl
  | m + 1, a, h => by
    rw [List.range'_succ, runE_cons, hn a (h a (Nat.le_refl _) (by omega))]
    exact runE_none hn m (a + 1) fun j q1 q2 => h j (by omega) (by omega)
theorem max_in {p : Nat → Prop} : ∀ n : Nat, (∃ s, s < n ∧ p s) → ∃ s, s < n ∧ p s ∧ ∀ r, s < r → r < n → ¬ p r
  | 0, ⟨s, h, _⟩ => by omega
  | n + 1, ⟨s, h, hp⟩ => by
    by_cases q : p n
    · exact ⟨n, by omega, q, fun r h1 h2 => by omega⟩
    · have hs : s < n := by
        rcases Nat.lt_or_ge s n with z | z
        · exact z
        · exact absurd (show p n by rw [show n = s by omega]; exact hp) q
      obtain ⟨s0, h1, h2, h3⟩ := max_in n ⟨s, hs, hp⟩
      exact ⟨s0, by omega, h2, fun r q1 q2 => by
        rcases Nat.lt_or_ge r n with z | z
        · exact h3 r q1 z
        · rw [show r = n by omega]; exact q⟩
theorem filter_none {p : Nat → Bool} {n : Nat} (h : ∀ s, s < n → p s = false) : (List.range n).filter p = [] := by
  rw [List.filter_eq_nil_iff]
  intro a ha
  rw [h a (List.mem_range.mp ha)]; simp
theorem filter_last {p : Nat → Bool} : ∀ {n s0 : Nat}, s0 < n → p s0 = true → (∀ s, s0 < s → s < n → p s = false) → ∃ r, (List.range n).filter p = r ++ [s0]
  | 0, s0, h, _, _ => by omega
  | n + 1, s0, h, h1, h2 => by
    rw [List.range_succ, List.filter_append]
    by_cases e : s0 = n
    · subst e
      exact ⟨_, by rw [List.filter_cons_of_pos (by simpa using h1), List.filter_nil]⟩
    · obtain ⟨r, hr⟩ := filter_last (n := n) (by omega) h1 fun s q1 q2 => h2 s q1 (by omega)
      exact ⟨r, by rw [hr, List.filter_cons_of_neg (by rw [h2 n (by omega) (by omega)]; simp), List.filter_nil, List.append_nil]⟩
def Over (t D : List Int) (e s : Nat) : Prop := s < e ∧ Pf t e - Pf t s < D.getD (e - s) default
theorem Over.back {t D : List Int} {e s : Nat} (h : Over t D e s) (hs : t.length ≤ s) : Over t D (e - t.length) (s - t.length) := by
  obtain ⟨h1, h2⟩ := h
  refine ⟨by omega, ?_⟩
  have p1 := Pf_add t (e - t.length)
  have p2 := Pf_add t (s - t.length)
  rw [show e - t.length + t.length = e by omega] at p1
  rw [show s - t.length + t.length = s by omega] at p2
  rw [show e - t.length - (s - t.length) = e - s by omega]
  omega
theorem law_down {t D : List Int} (ht : 0 < t.length) (e : Nat) : ((¬ ∃ s, Over t D e s) → runE (m_law_overfull_l1 t D ((1 : Int) + ((e - 1 : Nat) : Int)) ((1 : Int) + ((e - 1 : Nat) : Int) - 1)) (List.range e) () = .ok ()) ∧
    ∀ s0, Over t D e s0 → (∀ s, s0 < s → ¬ Over t D e s) → runE (m_law_overfull_l1 t D ((1 : Int) + ((e - 1 : Nat) : Int)) ((1 : Int) + ((e - 1 : Nat) : Int) - 1)) (List.range e) () = .error (some ((e : Int), (s0 : Int))) := by
  rw [List.range_eq_range']
  have hf : ∀ j, j < e → m_law_overfull_l1 t D ((1 : Int) + ((e - 1 : Nat) : Int)) ((1 : Int) + ((e - 1 : Nat) : Int) - 1) () j = if Pf t e - Pf t (e - 1 - j) < D.getD (e - (e - 1 - j)) default then .error (some ((e : Int), ((e - 1 - j : Nat) : Int))) else .ok () := by
    intro j hj
    unfold m_law_overfull_l1
    have e1 : (1 : Int) + ((e - 1 : Nat) : Int) - 1 + (j : Int) * -1 = ((e - 1 - j : Nat) : Int) := by omega
    have e2 : (1 : Int) + ((e - 1 : Nat) : Int) = ((e - 1 - j + (j + 1) : Nat) : Int) := by omega
    rw [e1, e2, lsup_eq t _ _ ht, show (((e - 1 - j + (j + 1) : Nat) : Int) - ((e - 1 - j : Nat) : Int)).toNat = e - (e - 1 - j) by omega, show e - 1 - j + (j + 1) = e by omega]
  have hp : ∀ j, (j < e ∧ Over t D e (e - 1 - j)) → m_law_overfull_l1 t D ((1 : Int) + ((e - 1 : Nat) : Int)) ((1 : Int) + ((e - 1 : Nat) : Int) - 1) () j = .error (some ((e : Int), ((e - 1 - j : Nat) : Int))) := fun j h => by
    rw [hf j h.1, if_pos h.2.2]
  constructor
  · intro hno
    have key : ∀ (m a : Nat), a + m = e → runE (m_law_overfull_l1 t D ((1 : Int) + ((e - 1 : Nat) : Int)) ((1 : Int) + ((e - 1 : Nat) : Int) - 1)) (List.range' a m) () = .ok () := by
      intro m
      induction m with
      | zero => intro a _; rfl
      | succ m ih =>
        intro a h
        rw [List.range'_succ, runE_cons, hf a (by omega), if_neg (fun q => hno ⟨e - 1 - a, by omega, q⟩)]
        exact ih (a + 1) (by omega)
    exact key e 0 (by omega)
  · intro s0 h0 h1
    have hs := h0.1
    have key : ∀ (m a : Nat), a + m = e → a ≤ e - 1 - s0 → runE (m_law_overfull_l1 t D ((1 : Int) + ((e - 1 : Nat) : Int)) ((1 : Int) + ((e - 1 : Nat) : Int) - 1)) (List.range' a m) () = .error (some ((e : Int), (s0 : Int))) := by
      intro m
      induction m with
      | zero => intro a h2 h3; omega
      | succ m ih =>
        intro a h2 h3
        rw [List.range'_succ, runE_cons]
        by_cases q : a = e - 1 - s0
        · rw [hp a ⟨by omega, by rw [show e - 1 - a = s0 by omega]; exact h0⟩, show e - 1 - a = s0 by omega]
        · rw [hf a (by omega), if_neg (fun z => h1 (e - 1 - a) (by omega) ⟨by omega, z⟩)]
          exact ih (a + 1) (by omega) (by omega)
    exact key e 0 (by omega) (by omega)
theorem step_eq {t D : List Int} (ht : 0 < t.length) {h a : Nat} (ha : a < h) (hno : ∀ e s, e ≤ a → ¬ Over t D e s) :
    (m_first_overfull_l0 (t.length : Int) D (m_supplies t (h : Int)) (1 : Int) () a = m_law_overfull_l0 t D (1 : Int) () a) ∧ (m_law_overfull_l0 t D (1 : Int) () a = .ok () → ∀ s, ¬ Over t D (a + 1) s) := by
  have hd := law_down (D := D) ht (a + 1)
  rw [show a + 1 - 1 = a by omega] at hd
  have e2 : m_law_overfull_l0 t D (1 : Int) () a = match (runE (m_law_overfull_l1 t D ((1 : Int) + (a : Int)) ((1 : Int) + (a : Int) - 1)) (List.range (a + 1)) ()) with | .error r => .error r | .ok zs1 => .ok () := by
    unfold m_law_overfull_l0
    rw [show (((1 : Int) + (a : Int) - 1) - -(1 : Int)).toNat = a + 1 by omega]
    try rfl
  have e1 : m_first_overfull_l0 (t.length : Int) D (m_supplies t (h : Int)) (1 : Int) () a = (let found : List Int := ((List.range (min t.length (a + 1))).filter (fun s : Nat => decide (Pf t (a + 1) - Pf t s < D.getD (a + 1 - s) default))).map (fun s : Nat => (0 : Int) + (s : Int))
      if (¬ (found.isEmpty = true)) then .error (some ((1 : Int) + (a : Int), found.getLastD default)) else .ok ()) := by
    unfold m_first_overfull_l0
    have hm : (if (t.length : Int) < (1 : Int) + (a : Int) then (t.length : Int) else (1 : Int) + (a : Int)).toNat = min t.length (a + 1) := by split <;> omega
    rw [hm]
    have hfil : (List.range (min t.length (a + 1))).filter (fun zc1 : Nat => decide ((m_supplies t (h : Int)).getD ((1 : Int) + (a : Int)).toNat default - (m_supplies t (h : Int)).getD ((0 : Int) + (zc1 : Int)).toNat default < D.getD ((1 : Int) + (a : Int) - ((0 : Int) + (zc1 : Int))).toNat default)) = (List.range (min t.length (a + 1))).filter (fun s : Nat => decide (Pf t (a + 1) - Pf t s < D.getD (a + 1 - s) default)) := by
      refine List.filter_congr fun s hs => ?_
      have hs := List.mem_range.mp hs
      rw [show ((1 : Int) + (a : Int)).toNat = a + 1 by omega, show ((0 : Int) + (s : Int)).toNat = s by omega, supplies_at t ht (by omega), supplies_at t ht (by omega), show ((1 : Int) + (a : Int) - ((0 : Int) + (s : Int))).toNat = a + 1 - s by omega]
    rw [hfil]
  rw [e1, e2]
  by_cases hx : ∃ s, Over t D (a + 1) s
  · obtain ⟨sx, hsx⟩ := hx
    obtain ⟨s0, h1, h2, h3⟩ := max_in (p := fun s => Over t D (a + 1) s) (a + 1) ⟨sx, hsx.1, hsx⟩
    have h3' : ∀ s, s0 < s → ¬ Over t D (a + 1) s := fun s q z => h3 s q z.1 z
    have hlt : ∀ s, Over t D (a + 1) s → s < t.length := fun s q => by
      rcases Nat.lt_or_ge s t.length with z | z
      · exact z
      · exact absurd (q.back z) (hno _ _ (by have := q.1; omega))
    have r2 := hd.2 s0 h2 h3'
    rw [r2]
    have hl0 := hlt s0 h2
    obtain ⟨r, hr⟩ := filter_last (p := fun s : Nat => decide (Pf t (a + 1) - Pf t s < D.getD (a + 1 - s) default)) (n := min t.length (a + 1)) (s0 := s0) (by omega) (decide_eq_true h2.2) fun s q1 q2 => decide_eq_false fun z => h3' s q1 ⟨by omega, z⟩
    rw [hr]
    dsimp only
    rw [List.map_append, List.map_singleton, List.getLastD_concat, if_pos (by simp)]
    refine ⟨?_, fun q => by cases q⟩
    congr 3
    · omega
    · omega
  · have r2 := hd.1 hx
    rw [r2, filter_none (fun s hs => decide_eq_false fun z => hx ⟨s, by omega, z⟩)]
    exact ⟨rfl, fun _ s q => hx ⟨s, q⟩⟩
theorem overfull_eq {t D : List Int} (ht : 0 < t.length) {h : Nat} : ∀ (m a : Nat), a + m = h → (∀ e s, e ≤ a → ¬ Over t D e s) →
    runE (m_first_overfull_l0 (t.length : Int) D (m_supplies t (h : Int)) (1 : Int)) (List.range' a m) () = runE (m_law_overfull_l0 t D (1 : Int)) (List.range' a m) ()
  | 0, a, _, _ => rfl
  | m + 1, a, hm, hno => by
    obtain ⟨e1, e2⟩ := step_eq (D := D) ht (h := h) (a := a) (by omega) hno
    rw [List.range'_succ, runE_cons, runE_cons, e1]
    cases q : m_law_overfull_l0 t D (1 : Int) () a with
    | error r => rfl
    | ok u =>
      refine overfull_eq ht m (a + 1) (by omega) fun e s he => ?_
      rcases Nat.lt_or_ge e (a + 1) with z | z
      · exact hno e s (by omega)
      · rw [show e = a + 1 by omega]; exact e2 q s
theorem law_true : ∀ ns : List Int, ns.length ≤ 63 → m_law ns = true := by
  intro ns _
  unfold m_law
  dsimp only
  have hnf := numbers_facts ns (75 : Int) (by decide)
  generalize m_law_numbers ns (75 : Int) = N at hnf
  have hp60 := pick_bound N 60 (count := 4) (by decide)
  obtain ⟨hlt, hto⟩ := tasks_ok hnf.2 0 (count := m_law_pick N 60 4) hp60.1
  generalize m_law_tasks N 0 (m_law_pick N 60 4) = tasks at hlt hto
  have htf := ltab_facts N 61
  generalize m_law_table N 61 = table at htf
  have htb := table_ok_of htf.1 (by omega) (fun x hx => by have := htf.2.2 x hx; omega)
  obtain ⟨ts, e, hl, ht⟩ := sys_shape (tasks := tasks) (by omega) hto htb
  have hsok := lsys_ok (tasks := tasks) (by omega) hto htb (by omega) htf.2.2 htf.1 htf.2.1
  rw [e] at hsok ⊢
  have hmap : ts.map (fun t => (t.kinds, t.ways)) = tasks := by
    apply List.ext_getElem
    · rw [List.length_map, hl]
    · intro i h1 h2
      rw [List.length_map] at h1
      obtain ⟨a, b, c⟩ := ht i _ (List.getElem?_eq_getElem h1)
      rw [List.getElem_map, a, b, List.getD_eq_getElem?_getD, List.getElem?_eq_getElem h2]; rfl
  have hsd : ∀ n : Int, 0 ≤ n → m_system_demands { tasks := ts, table := table } n = m_law_demands tasks n := fun n h0 => by
    rw [sysd_law hsok.1 h0]
    show m_law_demands (ts.map fun t => (t.kinds, t.ways)) n = _
    rw [hmap]
  have tpos : 0 < table.length := by omega
  obtain ⟨s, hs⟩ := Int.eq_ofNat_of_zero_le (pick_bound N 66 (count := 13) (by decide)).1
  obtain ⟨n, hn⟩ := Int.eq_ofNat_of_zero_le (pick_bound N 67 (count := 21) (by decide)).1
  obtain ⟨h, hh⟩ := Int.eq_ofNat_of_zero_le (pick_bound N 68 (count := 24) (by decide)).1
  rw [hs, hn, hh]
  have e1 : m_is_overfull { tasks := ts, table := table } (s : Int) (n : Int) = decide ((m_law_supply table (s : Int) ((s : Int) + (n : Int))) < ((m_law_demands tasks (n : Int)).getD ((n : Int)).toNat default)) := by
    unfold m_is_overfull
    rw [hsd _ (by omega)]
    dsimp only
    rw [← Int.natCast_add, supply_eq table s (s + n) tpos (by omega), lsup_eq table s n tpos]
  rw [e1, if_neg (by rintro (q | q) <;> exact q rfl)]
  have e2 : m_first_overfull { tasks := ts, table := table } ((1 : Int) + (h : Int)) = m_law_overfull tasks table ((1 : Int) + (h : Int)) := by
    unfold m_first_overfull m_law_overfull
    rw [hsd _ (by omega)]
    dsimp only
    have := overfull_eq (t := table) (D := m_law_demands tasks ((1 : Int) + (h : Int))) tpos (h := h + 1) (h + 1) 0 (by omega) (fun e s he q => by have := q.1; omega)
    rw [show (((1 : Int) + (h : Int)) + 1 - 1).toNat = h + 1 by omega, List.range_eq_range']
    rw [show (((h + 1 : Nat) : Int)) = (1 : Int) + (h : Int) by omega] at this
    rw [this]
  rw [e2]
  cases q : m_law_overfull tasks table ((1 : Int) + (h : Int)) with
  | none => rfl
  | some p =>
    rw [if_neg (by simp)]
    unfold m_law_is_pair m_law_is_integer
    simp

end
section
theorem all_mk {l : PySem.W.OpenLaw} {w : World} {K : Frag} {h : Heap} {mg : Mg} {fa : Addr} (X : K.In h) (G : h.Ns mainGlobals mg) (hfa : mg "law" = some (.ref fa))
    (z_abs : PySem.W.nsIn K mainGlobals "abs" = some none)
    (z_all : PySem.W.nsIn K mainGlobals "all" = some none)
    (z_bool : PySem.W.nsIn K mainGlobals "bool" = some none)
    (z_divmod : PySem.W.nsIn K mainGlobals "divmod" = some none)
    (z_enumerate : PySem.W.nsIn K mainGlobals "enumerate" = some none)
    (z_int : PySem.W.nsIn K mainGlobals "int" = some none)
    (z_isinstance : PySem.W.nsIn K mainGlobals "isinstance" = some none)
    (z_len : PySem.W.nsIn K mainGlobals "len" = some none)
    (z_list : PySem.W.nsIn K mainGlobals "list" = some none)
    (z_max : PySem.W.nsIn K mainGlobals "max" = some none)
    (z_min : PySem.W.nsIn K mainGlobals "min" = some none)
    (z_range : PySem.W.nsIn K mainGlobals "range" = some none)
    (z_set : PySem.W.nsIn K mainGlobals "set" = some none)
    (z_str : PySem.W.nsIn K mainGlobals "str" = some none)
    (z_sum : PySem.W.nsIn K mainGlobals "sum" = some none)
    (z_tuple : PySem.W.nsIn K mainGlobals "tuple" = some none)
    (z_zip : PySem.W.nsIn K mainGlobals "zip" = some none)
    {u_LONGEST_NAME : Tok} (z_LONGEST_NAME : PySem.W.nsIn K mainGlobals "LONGEST_NAME" = some (some (.int 12 u_LONGEST_NAME)))
    {u_LONGEST_TABLE : Tok} (z_LONGEST_TABLE : PySem.W.nsIn K mainGlobals "LONGEST_TABLE" = some (some (.int 1001 u_LONGEST_TABLE)))
    {u_MOST_CAPACITY : Tok} (z_MOST_CAPACITY : PySem.W.nsIn K mainGlobals "MOST_CAPACITY" = some (some (.int 1000000 u_MOST_CAPACITY)))
    {u_MOST_KINDS : Tok} (z_MOST_KINDS : PySem.W.nsIn K mainGlobals "MOST_KINDS" = some (some (.int 8 u_MOST_KINDS)))
    {u_MOST_TASKS : Tok} (z_MOST_TASKS : PySem.W.nsIn K mainGlobals "MOST_TASKS" = some (some (.int 6 u_MOST_TASKS)))
    {u_MOST_UNITS : Tok} (z_MOST_UNITS : PySem.W.nsIn K mainGlobals "MOST_UNITS" = some (some (.int 1000 u_MOST_UNITS)))
    {u_MOST_WAYS : Tok} (z_MOST_WAYS : PySem.W.nsIn K mainGlobals "MOST_WAYS" = some (some (.int 16 u_MOST_WAYS)))
    {u_NAME_CHARACTERS : Tok} (z_NAME_CHARACTERS : PySem.W.nsIn K mainGlobals "NAME_CHARACTERS" = some (some (.str "abcdefghijklmnopqrstuvwxyz0123456789" u_NAME_CHARACTERS)))
    {c_System : Addr} (gC_System : PySem.W.nsIn K mainGlobals "System" = some (some (.ref c_System)))
    (pg_System : PySem.W.plainGet K c_System Str.empty = true) (hd_System : PySem.W.hasDictIn K c_System = true) (po_System : PySem.W.plainOver K c_System = true) (sa_System : PySem.W.findIn K (.ref c_System) "__setattr__" = some (some (.builtin "object.__setattr__")))
    (na_System_tasks : PySem.W.findIn K (.ref c_System) "tasks" = some none)
    (na_System_table : PySem.W.findIn K (.ref c_System) "table" = some none)
    (mk_System : PySem.W.makesIn K c_System = true) (kc_System : PySem.W.keepIn K (.ref c_System) = true)
    {c_Task : Addr} (gC_Task : PySem.W.nsIn K mainGlobals "Task" = some (some (.ref c_Task)))
    (pg_Task : PySem.W.plainGet K c_Task Str.empty = true) (hd_Task : PySem.W.hasDictIn K c_Task = true) (po_Task : PySem.W.plainOver K c_Task = true) (sa_Task : PySem.W.findIn K (.ref c_Task) "__setattr__" = some (some (.builtin "object.__setattr__")))
    (na_Task_name : PySem.W.findIn K (.ref c_Task) "name" = some none)
    (na_Task_kinds : PySem.W.findIn K (.ref c_Task) "kinds" = some none)
    (na_Task_ways : PySem.W.findIn K (.ref c_Task) "ways" = some none)
    (mk_Task : PySem.W.makesIn K c_Task = true) (kc_Task : PySem.W.keepIn K (.ref c_Task) = true)
    {f_law_row : Addr} {od_law_row an_law_row : Option Addr} {sl_law_row : Array (Option Value)} {oc_law_row dc_law_row pm_law_row cd_law_row ct_law_row : Value} {kV_law_row : Value}
    (g_law_row : PySem.W.nsIn K mainGlobals "_law_row" = some (some (.ref f_law_row)))
    (l_law_row : K.lookup f_law_row = some ⟨oc_law_row, od_law_row, .func (PySem.W.fnOf "_law_row" "_law_row" (defArgs s_law_row) (defBody s_law_row) (defScope s_law_row) .none kV_law_row dc_law_row pm_law_row an_law_row cd_law_row ct_law_row), sl_law_row⟩)
    (c_law_row : PySem.W.codeIn K cd_law_row "_law_row" = true) (k_law_row : PySem.W.keepIn K (.ref f_law_row) = true)
    {f_law_numbers : Addr} {od_law_numbers an_law_numbers : Option Addr} {sl_law_numbers : Array (Option Value)} {oc_law_numbers dc_law_numbers pm_law_numbers cd_law_numbers ct_law_numbers : Value} {kV_law_numbers : Value}
    (g_law_numbers : PySem.W.nsIn K mainGlobals "_law_numbers" = some (some (.ref f_law_numbers)))
    (l_law_numbers : K.lookup f_law_numbers = some ⟨oc_law_numbers, od_law_numbers, .func (PySem.W.fnOf "_law_numbers" "_law_numbers" (defArgs s_law_numbers) (defBody s_law_numbers) (defScope s_law_numbers) .none kV_law_numbers dc_law_numbers pm_law_numbers an_law_numbers cd_law_numbers ct_law_numbers), sl_law_numbers⟩)
    (c_law_numbers : PySem.W.codeIn K cd_law_numbers "_law_numbers" = true) (k_law_numbers : PySem.W.keepIn K (.ref f_law_numbers) = true)
    {f_is_integer : Addr} {od_is_integer an_is_integer : Option Addr} {sl_is_integer : Array (Option Value)} {oc_is_integer dc_is_integer pm_is_integer cd_is_integer ct_is_integer : Value} {kV_is_integer : Value}
    (g_is_integer : PySem.W.nsIn K mainGlobals "is_integer" = some (some (.ref f_is_integer)))
    (l_is_integer : K.lookup f_is_integer = some ⟨oc_is_integer, od_is_integer, .func (PySem.W.fnOf "is_integer" "is_integer" (defArgs s_is_integer) (defBody s_is_integer) (defScope s_is_integer) .none kV_is_integer dc_is_integer pm_is_integer an_is_integer cd_is_integer ct_is_integer), sl_is_integer⟩)
    (c_is_integer : PySem.W.codeIn K cd_is_integer "is_integer" = true) (k_is_integer : PySem.W.keepIn K (.ref f_is_integer) = true)
    {f_is_name : Addr} {od_is_name an_is_name : Option Addr} {sl_is_name : Array (Option Value)} {oc_is_name dc_is_name pm_is_name cd_is_name ct_is_name : Value} {kV_is_name : Value}
    (g_is_name : PySem.W.nsIn K mainGlobals "is_name" = some (some (.ref f_is_name)))
    (l_is_name : K.lookup f_is_name = some ⟨oc_is_name, od_is_name, .func (PySem.W.fnOf "is_name" "is_name" (defArgs s_is_name) (defBody s_is_name) (defScope s_is_name) .none kV_is_name dc_is_name pm_is_name an_is_name cd_is_name ct_is_name), sl_is_name⟩)
    (c_is_name : PySem.W.codeIn K cd_is_name "is_name" = true) (k_is_name : PySem.W.keepIn K (.ref f_is_name) = true)
    {f_is_kind : Addr} {od_is_kind an_is_kind : Option Addr} {sl_is_kind : Array (Option Value)} {oc_is_kind dc_is_kind pm_is_kind cd_is_kind ct_is_kind : Value} {kV_is_kind : Value}
    (g_is_kind : PySem.W.nsIn K mainGlobals "is_kind" = some (some (.ref f_is_kind)))
    (l_is_kind : K.lookup f_is_kind = some ⟨oc_is_kind, od_is_kind, .func (PySem.W.fnOf "is_kind" "is_kind" (defArgs s_is_kind) (defBody s_is_kind) (defScope s_is_kind) .none kV_is_kind dc_is_kind pm_is_kind an_is_kind cd_is_kind ct_is_kind), sl_is_kind⟩)
    (c_is_kind : PySem.W.codeIn K cd_is_kind "is_kind" = true) (k_is_kind : PySem.W.keepIn K (.ref f_is_kind) = true)
    {f_is_way : Addr} {od_is_way an_is_way : Option Addr} {sl_is_way : Array (Option Value)} {oc_is_way dc_is_way pm_is_way cd_is_way ct_is_way : Value} {kV_is_way : Value}
    (g_is_way : PySem.W.nsIn K mainGlobals "is_way" = some (some (.ref f_is_way)))
    (l_is_way : K.lookup f_is_way = some ⟨oc_is_way, od_is_way, .func (PySem.W.fnOf "is_way" "is_way" (defArgs s_is_way) (defBody s_is_way) (defScope s_is_way) .none kV_is_way dc_is_way pm_is_way an_is_way cd_is_way ct_is_way), sl_is_way⟩)
    (c_is_way : PySem.W.codeIn K cd_is_way "is_way" = true) (k_is_way : PySem.W.keepIn K (.ref f_is_way) = true)
    {f_are_different : Addr} {od_are_different an_are_different : Option Addr} {sl_are_different : Array (Option Value)} {oc_are_different dc_are_different pm_are_different cd_are_different ct_are_different : Value} {kV_are_different : Value}
    (g_are_different : PySem.W.nsIn K mainGlobals "are_different" = some (some (.ref f_are_different)))
    (l_are_different : K.lookup f_are_different = some ⟨oc_are_different, od_are_different, .func (PySem.W.fnOf "are_different" "are_different" (defArgs s_are_different) (defBody s_are_different) (defScope s_are_different) .none kV_are_different dc_are_different pm_are_different an_are_different cd_are_different ct_are_different), sl_are_different⟩)
    (c_are_different : PySem.W.codeIn K cd_are_different "are_different" = true) (k_are_different : PySem.W.keepIn K (.ref f_are_different) = true)
    {f_are_kinds : Addr} {od_are_kinds an_are_kinds : Option Addr} {sl_are_kinds : Array (Option Value)} {oc_are_kinds dc_are_kinds pm_are_kinds cd_are_kinds ct_are_kinds : Value} {kV_are_kinds : Value}
    (g_are_kinds : PySem.W.nsIn K mainGlobals "are_kinds" = some (some (.ref f_are_kinds)))
    (l_are_kinds : K.lookup f_are_kinds = some ⟨oc_are_kinds, od_are_kinds, .func (PySem.W.fnOf "are_kinds" "are_kinds" (defArgs s_are_kinds) (defBody s_are_kinds) (defScope s_are_kinds) .none kV_are_kinds dc_are_kinds pm_are_kinds an_are_kinds cd_are_kinds ct_are_kinds), sl_are_kinds⟩)
    (c_are_kinds : PySem.W.codeIn K cd_are_kinds "are_kinds" = true) (k_are_kinds : PySem.W.keepIn K (.ref f_are_kinds) = true)
    {f_are_ways : Addr} {od_are_ways an_are_ways : Option Addr} {sl_are_ways : Array (Option Value)} {oc_are_ways dc_are_ways pm_are_ways cd_are_ways ct_are_ways : Value} {kV_are_ways : Value}
    (g_are_ways : PySem.W.nsIn K mainGlobals "are_ways" = some (some (.ref f_are_ways)))
    (l_are_ways : K.lookup f_are_ways = some ⟨oc_are_ways, od_are_ways, .func (PySem.W.fnOf "are_ways" "are_ways" (defArgs s_are_ways) (defBody s_are_ways) (defScope s_are_ways) .none kV_are_ways dc_are_ways pm_are_ways an_are_ways cd_are_ways ct_are_ways), sl_are_ways⟩)
    (c_are_ways : PySem.W.codeIn K cd_are_ways "are_ways" = true) (k_are_ways : PySem.W.keepIn K (.ref f_are_ways) = true)
    {f_Task_init__ : Addr} {od_Task_init__ an_Task_init__ : Option Addr} {sl_Task_init__ : Array (Option Value)} {oc_Task_init__ dc_Task_init__ pm_Task_init__ cd_Task_init__ ct_Task_init__ : Value} {kV_Task_init__ : Value}
    (at_Task_init__ : PySem.W.findIn K (.ref c_Task) "__init__" = some (some (.ref f_Task_init__))) (is_Task_init__ : PySem.W.isFn K (.ref f_Task_init__) = true)
    (l_Task_init__ : K.lookup f_Task_init__ = some ⟨oc_Task_init__, od_Task_init__, .func (PySem.W.fnOf "__init__" "Task.__init__" (defArgs s_Task_init__) (defBody s_Task_init__) (defScope s_Task_init__) .none kV_Task_init__ dc_Task_init__ pm_Task_init__ an_Task_init__ cd_Task_init__ ct_Task_init__), sl_Task_init__⟩)
    (c_Task_init__ : PySem.W.codeIn K cd_Task_init__ "Task.__init__" = true) (k_Task_init__ : PySem.W.keepIn K (.ref f_Task_init__) = true)
    {f_Task_kind_number : Addr} {od_Task_kind_number an_Task_kind_number : Option Addr} {sl_Task_kind_number : Array (Option Value)} {oc_Task_kind_number dc_Task_kind_number pm_Task_kind_number cd_Task_kind_number ct_Task_kind_number : Value} {kV_Task_kind_number : Value}
    (at_Task_kind_number : PySem.W.findIn K (.ref c_Task) "kind_number" = some (some (.ref f_Task_kind_number))) (is_Task_kind_number : PySem.W.isFn K (.ref f_Task_kind_number) = true)
    (l_Task_kind_number : K.lookup f_Task_kind_number = some ⟨oc_Task_kind_number, od_Task_kind_number, .func (PySem.W.fnOf "kind_number" "Task.kind_number" (defArgs s_Task_kind_number) (defBody s_Task_kind_number) (defScope s_Task_kind_number) .none kV_Task_kind_number dc_Task_kind_number pm_Task_kind_number an_Task_kind_number cd_Task_kind_number ct_Task_kind_number), sl_Task_kind_number⟩)
    (c_Task_kind_number : PySem.W.codeIn K cd_Task_kind_number "Task.kind_number" = true) (k_Task_kind_number : PySem.W.keepIn K (.ref f_Task_kind_number) = true)
    {f_Task_kind : Addr} {od_Task_kind an_Task_kind : Option Addr} {sl_Task_kind : Array (Option Value)} {oc_Task_kind dc_Task_kind pm_Task_kind cd_Task_kind ct_Task_kind : Value} {kV_Task_kind : Value}
    (at_Task_kind : PySem.W.findIn K (.ref c_Task) "_kind" = some (some (.ref f_Task_kind))) (is_Task_kind : PySem.W.isFn K (.ref f_Task_kind) = true)
    (l_Task_kind : K.lookup f_Task_kind = some ⟨oc_Task_kind, od_Task_kind, .func (PySem.W.fnOf "_kind" "Task._kind" (defArgs s_Task_kind) (defBody s_Task_kind) (defScope s_Task_kind) .none kV_Task_kind dc_Task_kind pm_Task_kind an_Task_kind cd_Task_kind ct_Task_kind), sl_Task_kind⟩)
    (c_Task_kind : PySem.W.codeIn K cd_Task_kind "Task._kind" = true) (k_Task_kind : PySem.W.keepIn K (.ref f_Task_kind) = true)
    {f_Task_ways_from : Addr} {od_Task_ways_from an_Task_ways_from : Option Addr} {sl_Task_ways_from : Array (Option Value)} {oc_Task_ways_from dc_Task_ways_from pm_Task_ways_from cd_Task_ways_from ct_Task_ways_from : Value} {kV_Task_ways_from : Value}
    (at_Task_ways_from : PySem.W.findIn K (.ref c_Task) "ways_from" = some (some (.ref f_Task_ways_from))) (is_Task_ways_from : PySem.W.isFn K (.ref f_Task_ways_from) = true)
    (l_Task_ways_from : K.lookup f_Task_ways_from = some ⟨oc_Task_ways_from, od_Task_ways_from, .func (PySem.W.fnOf "ways_from" "Task.ways_from" (defArgs s_Task_ways_from) (defBody s_Task_ways_from) (defScope s_Task_ways_from) .none kV_Task_ways_from dc_Task_ways_from pm_Task_ways_from an_Task_ways_from cd_Task_ways_from ct_Task_ways_from), sl_Task_ways_from⟩)
    (c_Task_ways_from : PySem.W.codeIn K cd_Task_ways_from "Task.ways_from" = true) (k_Task_ways_from : PySem.W.keepIn K (.ref f_Task_ways_from) = true)
    {f_Task_cost : Addr} {od_Task_cost an_Task_cost : Option Addr} {sl_Task_cost : Array (Option Value)} {oc_Task_cost dc_Task_cost pm_Task_cost cd_Task_cost ct_Task_cost : Value} {kV_Task_cost : Value}
    (at_Task_cost : PySem.W.findIn K (.ref c_Task) "cost" = some (some (.ref f_Task_cost))) (is_Task_cost : PySem.W.isFn K (.ref f_Task_cost) = true)
    (l_Task_cost : K.lookup f_Task_cost = some ⟨oc_Task_cost, od_Task_cost, .func (PySem.W.fnOf "cost" "Task.cost" (defArgs s_Task_cost) (defBody s_Task_cost) (defScope s_Task_cost) .none kV_Task_cost dc_Task_cost pm_Task_cost an_Task_cost cd_Task_cost ct_Task_cost), sl_Task_cost⟩)
    (c_Task_cost : PySem.W.codeIn K cd_Task_cost "Task.cost" = true) (k_Task_cost : PySem.W.keepIn K (.ref f_Task_cost) = true)
    {f_Task_deadline : Addr} {od_Task_deadline an_Task_deadline : Option Addr} {sl_Task_deadline : Array (Option Value)} {oc_Task_deadline dc_Task_deadline pm_Task_deadline cd_Task_deadline ct_Task_deadline : Value} {kV_Task_deadline : Value}
    (at_Task_deadline : PySem.W.findIn K (.ref c_Task) "deadline" = some (some (.ref f_Task_deadline))) (is_Task_deadline : PySem.W.isFn K (.ref f_Task_deadline) = true)
    (l_Task_deadline : K.lookup f_Task_deadline = some ⟨oc_Task_deadline, od_Task_deadline, .func (PySem.W.fnOf "deadline" "Task.deadline" (defArgs s_Task_deadline) (defBody s_Task_deadline) (defScope s_Task_deadline) .none kV_Task_deadline dc_Task_deadline pm_Task_deadline an_Task_deadline cd_Task_deadline ct_Task_deadline), sl_Task_deadline⟩)
    (c_Task_deadline : PySem.W.codeIn K cd_Task_deadline "Task.deadline" = true) (k_Task_deadline : PySem.W.keepIn K (.ref f_Task_deadline) = true)
    {f_law_is_integer : Addr} {od_law_is_integer an_law_is_integer : Option Addr} {sl_law_is_integer : Array (Option Value)} {oc_law_is_integer dc_law_is_integer pm_law_is_integer cd_law_is_integer ct_law_is_integer : Value} {kV_law_is_integer : Value}
    (g_law_is_integer : PySem.W.nsIn K mainGlobals "_law_is_integer" = some (some (.ref f_law_is_integer)))
    (l_law_is_integer : K.lookup f_law_is_integer = some ⟨oc_law_is_integer, od_law_is_integer, .func (PySem.W.fnOf "_law_is_integer" "_law_is_integer" (defArgs s_law_is_integer) (defBody s_law_is_integer) (defScope s_law_is_integer) .none kV_law_is_integer dc_law_is_integer pm_law_is_integer an_law_is_integer cd_law_is_integer ct_law_is_integer), sl_law_is_integer⟩)
    (c_law_is_integer : PySem.W.codeIn K cd_law_is_integer "_law_is_integer" = true) (k_law_is_integer : PySem.W.keepIn K (.ref f_law_is_integer) = true)
    {f_law_pick : Addr} {od_law_pick an_law_pick : Option Addr} {sl_law_pick : Array (Option Value)} {oc_law_pick dc_law_pick pm_law_pick cd_law_pick ct_law_pick : Value} {kV_law_pick : Value}
    (g_law_pick : PySem.W.nsIn K mainGlobals "_law_pick" = some (some (.ref f_law_pick)))
    (l_law_pick : K.lookup f_law_pick = some ⟨oc_law_pick, od_law_pick, .func (PySem.W.fnOf "_law_pick" "_law_pick" (defArgs s_law_pick) (defBody s_law_pick) (defScope s_law_pick) .none kV_law_pick dc_law_pick pm_law_pick an_law_pick cd_law_pick ct_law_pick), sl_law_pick⟩)
    (c_law_pick : PySem.W.codeIn K cd_law_pick "_law_pick" = true) (k_law_pick : PySem.W.keepIn K (.ref f_law_pick) = true)
    {f_law_scale : Addr} {od_law_scale an_law_scale : Option Addr} {sl_law_scale : Array (Option Value)} {oc_law_scale dc_law_scale pm_law_scale cd_law_scale ct_law_scale : Value} {kV_law_scale : Value}
    (g_law_scale : PySem.W.nsIn K mainGlobals "_law_scale" = some (some (.ref f_law_scale)))
    (l_law_scale : K.lookup f_law_scale = some ⟨oc_law_scale, od_law_scale, .func (PySem.W.fnOf "_law_scale" "_law_scale" (defArgs s_law_scale) (defBody s_law_scale) (defScope s_law_scale) .none kV_law_scale dc_law_scale pm_law_scale an_law_scale cd_law_scale ct_law_scale), sl_law_scale⟩)
    (c_law_scale : PySem.W.codeIn K cd_law_scale "_law_scale" = true) (k_law_scale : PySem.W.keepIn K (.ref f_law_scale) = true)
    {f_law_name : Addr} {od_law_name an_law_name : Option Addr} {sl_law_name : Array (Option Value)} {oc_law_name dc_law_name pm_law_name cd_law_name ct_law_name : Value} {kV_law_name : Value}
    (g_law_name : PySem.W.nsIn K mainGlobals "_law_name" = some (some (.ref f_law_name)))
    (l_law_name : K.lookup f_law_name = some ⟨oc_law_name, od_law_name, .func (PySem.W.fnOf "_law_name" "_law_name" (defArgs s_law_name) (defBody s_law_name) (defScope s_law_name) .none kV_law_name dc_law_name pm_law_name an_law_name cd_law_name ct_law_name), sl_law_name⟩)
    (c_law_name : PySem.W.codeIn K cd_law_name "_law_name" = true) (k_law_name : PySem.W.keepIn K (.ref f_law_name) = true)
    {f_law_kinds : Addr} {od_law_kinds an_law_kinds : Option Addr} {sl_law_kinds : Array (Option Value)} {oc_law_kinds dc_law_kinds pm_law_kinds cd_law_kinds ct_law_kinds : Value} {kV_law_kinds : Value}
    (g_law_kinds : PySem.W.nsIn K mainGlobals "_law_kinds" = some (some (.ref f_law_kinds)))
    (l_law_kinds : K.lookup f_law_kinds = some ⟨oc_law_kinds, od_law_kinds, .func (PySem.W.fnOf "_law_kinds" "_law_kinds" (defArgs s_law_kinds) (defBody s_law_kinds) (defScope s_law_kinds) .none kV_law_kinds dc_law_kinds pm_law_kinds an_law_kinds cd_law_kinds ct_law_kinds), sl_law_kinds⟩)
    (c_law_kinds : PySem.W.codeIn K cd_law_kinds "_law_kinds" = true) (k_law_kinds : PySem.W.keepIn K (.ref f_law_kinds) = true)
    {f_law_ways : Addr} {od_law_ways an_law_ways : Option Addr} {sl_law_ways : Array (Option Value)} {oc_law_ways dc_law_ways pm_law_ways cd_law_ways ct_law_ways : Value} {kV_law_ways : Value}
    (g_law_ways : PySem.W.nsIn K mainGlobals "_law_ways" = some (some (.ref f_law_ways)))
    (l_law_ways : K.lookup f_law_ways = some ⟨oc_law_ways, od_law_ways, .func (PySem.W.fnOf "_law_ways" "_law_ways" (defArgs s_law_ways) (defBody s_law_ways) (defScope s_law_ways) .none kV_law_ways dc_law_ways pm_law_ways an_law_ways cd_law_ways ct_law_ways), sl_law_ways⟩)
    (c_law_ways : PySem.W.codeIn K cd_law_ways "_law_ways" = true) (k_law_ways : PySem.W.keepIn K (.ref f_law_ways) = true)
    {f_law_number : Addr} {od_law_number an_law_number : Option Addr} {sl_law_number : Array (Option Value)} {oc_law_number dc_law_number pm_law_number cd_law_number ct_law_number : Value} {kV_law_number : Value}
    (g_law_number : PySem.W.nsIn K mainGlobals "_law_number" = some (some (.ref f_law_number)))
    (l_law_number : K.lookup f_law_number = some ⟨oc_law_number, od_law_number, .func (PySem.W.fnOf "_law_number" "_law_number" (defArgs s_law_number) (defBody s_law_number) (defScope s_law_number) .none kV_law_number dc_law_number pm_law_number an_law_number cd_law_number ct_law_number), sl_law_number⟩)
    (c_law_number : PySem.W.codeIn K cd_law_number "_law_number" = true) (k_law_number : PySem.W.keepIn K (.ref f_law_number) = true)
    {f_steps : Addr} {od_steps an_steps : Option Addr} {sl_steps : Array (Option Value)} {oc_steps dc_steps pm_steps cd_steps ct_steps : Value} {kV_steps : Value}
    (g_steps : PySem.W.nsIn K mainGlobals "_steps" = some (some (.ref f_steps)))
    (l_steps : K.lookup f_steps = some ⟨oc_steps, od_steps, .func (PySem.W.fnOf "_steps" "_steps" (defArgs s_steps) (defBody s_steps) (defScope s_steps) .none kV_steps dc_steps pm_steps an_steps cd_steps ct_steps), sl_steps⟩)
    (c_steps : PySem.W.codeIn K cd_steps "_steps" = true) (k_steps : PySem.W.keepIn K (.ref f_steps) = true)
    {f_best_step : Addr} {od_best_step an_best_step : Option Addr} {sl_best_step : Array (Option Value)} {oc_best_step dc_best_step pm_best_step cd_best_step ct_best_step : Value} {kV_best_step : Value}
    (g_best_step : PySem.W.nsIn K mainGlobals "_best_step" = some (some (.ref f_best_step)))
    (l_best_step : K.lookup f_best_step = some ⟨oc_best_step, od_best_step, .func (PySem.W.fnOf "_best_step" "_best_step" (defArgs s_best_step) (defBody s_best_step) (defScope s_best_step) .none kV_best_step dc_best_step pm_best_step an_best_step cd_best_step ct_best_step), sl_best_step⟩)
    (c_best_step : PySem.W.codeIn K cd_best_step "_best_step" = true) (k_best_step : PySem.W.keepIn K (.ref f_best_step) = true)
    {f_rows : Addr} {od_rows an_rows : Option Addr} {sl_rows : Array (Option Value)} {oc_rows dc_rows pm_rows cd_rows ct_rows : Value} {kV_rows : Value}
    (g_rows : PySem.W.nsIn K mainGlobals "rows" = some (some (.ref f_rows)))
    (l_rows : K.lookup f_rows = some ⟨oc_rows, od_rows, .func (PySem.W.fnOf "rows" "rows" (defArgs s_rows) (defBody s_rows) (defScope s_rows) .none kV_rows dc_rows pm_rows an_rows cd_rows ct_rows), sl_rows⟩)
    (c_rows : PySem.W.codeIn K cd_rows "rows" = true) (k_rows : PySem.W.keepIn K (.ref f_rows) = true)
    {f_is_table : Addr} {od_is_table an_is_table : Option Addr} {sl_is_table : Array (Option Value)} {oc_is_table dc_is_table pm_is_table cd_is_table ct_is_table : Value} {kV_is_table : Value}
    (g_is_table : PySem.W.nsIn K mainGlobals "is_table" = some (some (.ref f_is_table)))
    (l_is_table : K.lookup f_is_table = some ⟨oc_is_table, od_is_table, .func (PySem.W.fnOf "is_table" "is_table" (defArgs s_is_table) (defBody s_is_table) (defScope s_is_table) .none kV_is_table dc_is_table pm_is_table an_is_table cd_is_table ct_is_table), sl_is_table⟩)
    (c_is_table : PySem.W.codeIn K cd_is_table "is_table" = true) (k_is_table : PySem.W.keepIn K (.ref f_is_table) = true)
    {f_are_task_names : Addr} {od_are_task_names an_are_task_names : Option Addr} {sl_are_task_names : Array (Option Value)} {oc_are_task_names dc_are_task_names pm_are_task_names cd_are_task_names ct_are_task_names : Value} {kV_are_task_names : Value}
    (g_are_task_names : PySem.W.nsIn K mainGlobals "are_task_names" = some (some (.ref f_are_task_names)))
    (l_are_task_names : K.lookup f_are_task_names = some ⟨oc_are_task_names, od_are_task_names, .func (PySem.W.fnOf "are_task_names" "are_task_names" (defArgs s_are_task_names) (defBody s_are_task_names) (defScope s_are_task_names) .none kV_are_task_names dc_are_task_names pm_are_task_names an_are_task_names cd_are_task_names ct_are_task_names), sl_are_task_names⟩)
    (c_are_task_names : PySem.W.codeIn K cd_are_task_names "are_task_names" = true) (k_are_task_names : PySem.W.keepIn K (.ref f_are_task_names) = true)
    {f_System_init__ : Addr} {od_System_init__ an_System_init__ : Option Addr} {sl_System_init__ : Array (Option Value)} {oc_System_init__ dc_System_init__ pm_System_init__ cd_System_init__ ct_System_init__ : Value} {kV_System_init__ : Value}
    (at_System_init__ : PySem.W.findIn K (.ref c_System) "__init__" = some (some (.ref f_System_init__))) (is_System_init__ : PySem.W.isFn K (.ref f_System_init__) = true)
    (l_System_init__ : K.lookup f_System_init__ = some ⟨oc_System_init__, od_System_init__, .func (PySem.W.fnOf "__init__" "System.__init__" (defArgs s_System_init__) (defBody s_System_init__) (defScope s_System_init__) .none kV_System_init__ dc_System_init__ pm_System_init__ an_System_init__ cd_System_init__ ct_System_init__), sl_System_init__⟩)
    (c_System_init__ : PySem.W.codeIn K cd_System_init__ "System.__init__" = true) (k_System_init__ : PySem.W.keepIn K (.ref f_System_init__) = true)
    {f_demands : Addr} {od_demands an_demands : Option Addr} {sl_demands : Array (Option Value)} {oc_demands dc_demands pm_demands cd_demands ct_demands : Value} {kV_demands : Value}
    (g_demands : PySem.W.nsIn K mainGlobals "demands" = some (some (.ref f_demands)))
    (l_demands : K.lookup f_demands = some ⟨oc_demands, od_demands, .func (PySem.W.fnOf "demands" "demands" (defArgs s_demands) (defBody s_demands) (defScope s_demands) .none kV_demands dc_demands pm_demands an_demands cd_demands ct_demands), sl_demands⟩)
    (c_demands : PySem.W.codeIn K cd_demands "demands" = true) (k_demands : PySem.W.keepIn K (.ref f_demands) = true)
    {f_joint_demands : Addr} {od_joint_demands an_joint_demands : Option Addr} {sl_joint_demands : Array (Option Value)} {oc_joint_demands dc_joint_demands pm_joint_demands cd_joint_demands ct_joint_demands : Value} {kV_joint_demands : Value}
    (g_joint_demands : PySem.W.nsIn K mainGlobals "joint_demands" = some (some (.ref f_joint_demands)))
    (l_joint_demands : K.lookup f_joint_demands = some ⟨oc_joint_demands, od_joint_demands, .func (PySem.W.fnOf "joint_demands" "joint_demands" (defArgs s_joint_demands) (defBody s_joint_demands) (defScope s_joint_demands) .none kV_joint_demands dc_joint_demands pm_joint_demands an_joint_demands cd_joint_demands ct_joint_demands), sl_joint_demands⟩)
    (c_joint_demands : PySem.W.codeIn K cd_joint_demands "joint_demands" = true) (k_joint_demands : PySem.W.keepIn K (.ref f_joint_demands) = true)
    {f_system_demands : Addr} {od_system_demands an_system_demands : Option Addr} {sl_system_demands : Array (Option Value)} {oc_system_demands dc_system_demands pm_system_demands cd_system_demands ct_system_demands : Value} {kV_system_demands : Value}
    (g_system_demands : PySem.W.nsIn K mainGlobals "system_demands" = some (some (.ref f_system_demands)))
    (l_system_demands : K.lookup f_system_demands = some ⟨oc_system_demands, od_system_demands, .func (PySem.W.fnOf "system_demands" "system_demands" (defArgs s_system_demands) (defBody s_system_demands) (defScope s_system_demands) .none kV_system_demands dc_system_demands pm_system_demands an_system_demands cd_system_demands ct_system_demands), sl_system_demands⟩)
    (c_system_demands : PySem.W.codeIn K cd_system_demands "system_demands" = true) (k_system_demands : PySem.W.keepIn K (.ref f_system_demands) = true)
    {f_capacity : Addr} {od_capacity an_capacity : Option Addr} {sl_capacity : Array (Option Value)} {oc_capacity dc_capacity pm_capacity cd_capacity ct_capacity : Value} {kV_capacity : Value}
    (g_capacity : PySem.W.nsIn K mainGlobals "capacity" = some (some (.ref f_capacity)))
    (l_capacity : K.lookup f_capacity = some ⟨oc_capacity, od_capacity, .func (PySem.W.fnOf "capacity" "capacity" (defArgs s_capacity) (defBody s_capacity) (defScope s_capacity) .none kV_capacity dc_capacity pm_capacity an_capacity cd_capacity ct_capacity), sl_capacity⟩)
    (c_capacity : PySem.W.codeIn K cd_capacity "capacity" = true) (k_capacity : PySem.W.keepIn K (.ref f_capacity) = true)
    {f_sums : Addr} {od_sums an_sums : Option Addr} {sl_sums : Array (Option Value)} {oc_sums dc_sums pm_sums cd_sums ct_sums : Value} {kV_sums : Value}
    (g_sums : PySem.W.nsIn K mainGlobals "_sums" = some (some (.ref f_sums)))
    (l_sums : K.lookup f_sums = some ⟨oc_sums, od_sums, .func (PySem.W.fnOf "_sums" "_sums" (defArgs s_sums) (defBody s_sums) (defScope s_sums) .none kV_sums dc_sums pm_sums an_sums cd_sums ct_sums), sl_sums⟩)
    (c_sums : PySem.W.codeIn K cd_sums "_sums" = true) (k_sums : PySem.W.keepIn K (.ref f_sums) = true)
    {f_supply : Addr} {od_supply an_supply : Option Addr} {sl_supply : Array (Option Value)} {oc_supply dc_supply pm_supply cd_supply ct_supply : Value} {kV_supply : Value}
    (g_supply : PySem.W.nsIn K mainGlobals "supply" = some (some (.ref f_supply)))
    (l_supply : K.lookup f_supply = some ⟨oc_supply, od_supply, .func (PySem.W.fnOf "supply" "supply" (defArgs s_supply) (defBody s_supply) (defScope s_supply) .none kV_supply dc_supply pm_supply an_supply cd_supply ct_supply), sl_supply⟩)
    (c_supply : PySem.W.codeIn K cd_supply "supply" = true) (k_supply : PySem.W.keepIn K (.ref f_supply) = true)
    {f_supplies : Addr} {od_supplies an_supplies : Option Addr} {sl_supplies : Array (Option Value)} {oc_supplies dc_supplies pm_supplies cd_supplies ct_supplies : Value} {kV_supplies : Value}
    (g_supplies : PySem.W.nsIn K mainGlobals "supplies" = some (some (.ref f_supplies)))
    (l_supplies : K.lookup f_supplies = some ⟨oc_supplies, od_supplies, .func (PySem.W.fnOf "supplies" "supplies" (defArgs s_supplies) (defBody s_supplies) (defScope s_supplies) .none kV_supplies dc_supplies pm_supplies an_supplies cd_supplies ct_supplies), sl_supplies⟩)
    (c_supplies : PySem.W.codeIn K cd_supplies "supplies" = true) (k_supplies : PySem.W.keepIn K (.ref f_supplies) = true)
    {f_law_rows : Addr} {od_law_rows an_law_rows : Option Addr} {sl_law_rows : Array (Option Value)} {oc_law_rows dc_law_rows pm_law_rows cd_law_rows ct_law_rows : Value} {kV_law_rows : Value}
    (g_law_rows : PySem.W.nsIn K mainGlobals "_law_rows" = some (some (.ref f_law_rows)))
    (l_law_rows : K.lookup f_law_rows = some ⟨oc_law_rows, od_law_rows, .func (PySem.W.fnOf "_law_rows" "_law_rows" (defArgs s_law_rows) (defBody s_law_rows) (defScope s_law_rows) .none kV_law_rows dc_law_rows pm_law_rows an_law_rows cd_law_rows ct_law_rows), sl_law_rows⟩)
    (c_law_rows : PySem.W.codeIn K cd_law_rows "_law_rows" = true) (k_law_rows : PySem.W.keepIn K (.ref f_law_rows) = true)
    {f_law_tasks : Addr} {od_law_tasks an_law_tasks : Option Addr} {sl_law_tasks : Array (Option Value)} {oc_law_tasks dc_law_tasks pm_law_tasks cd_law_tasks ct_law_tasks : Value} {kV_law_tasks : Value}
    (g_law_tasks : PySem.W.nsIn K mainGlobals "_law_tasks" = some (some (.ref f_law_tasks)))
    (l_law_tasks : K.lookup f_law_tasks = some ⟨oc_law_tasks, od_law_tasks, .func (PySem.W.fnOf "_law_tasks" "_law_tasks" (defArgs s_law_tasks) (defBody s_law_tasks) (defScope s_law_tasks) .none kV_law_tasks dc_law_tasks pm_law_tasks an_law_tasks cd_law_tasks ct_law_tasks), sl_law_tasks⟩)
    (c_law_tasks : PySem.W.codeIn K cd_law_tasks "_law_tasks" = true) (k_law_tasks : PySem.W.keepIn K (.ref f_law_tasks) = true)
    {f_law_system : Addr} {od_law_system an_law_system : Option Addr} {sl_law_system : Array (Option Value)} {oc_law_system dc_law_system pm_law_system cd_law_system ct_law_system : Value} {kV_law_system : Value}
    (g_law_system : PySem.W.nsIn K mainGlobals "_law_system" = some (some (.ref f_law_system)))
    (l_law_system : K.lookup f_law_system = some ⟨oc_law_system, od_law_system, .func (PySem.W.fnOf "_law_system" "_law_system" (defArgs s_law_system) (defBody s_law_system) (defScope s_law_system) .none kV_law_system dc_law_system pm_law_system an_law_system cd_law_system ct_law_system), sl_law_system⟩)
    (c_law_system : PySem.W.codeIn K cd_law_system "_law_system" = true) (k_law_system : PySem.W.keepIn K (.ref f_law_system) = true)
    {f_law_demands : Addr} {od_law_demands an_law_demands : Option Addr} {sl_law_demands : Array (Option Value)} {oc_law_demands dc_law_demands pm_law_demands cd_law_demands ct_law_demands : Value} {kV_law_demands : Value}
    (g_law_demands : PySem.W.nsIn K mainGlobals "_law_demands" = some (some (.ref f_law_demands)))
    (l_law_demands : K.lookup f_law_demands = some ⟨oc_law_demands, od_law_demands, .func (PySem.W.fnOf "_law_demands" "_law_demands" (defArgs s_law_demands) (defBody s_law_demands) (defScope s_law_demands) .none kV_law_demands dc_law_demands pm_law_demands an_law_demands cd_law_demands ct_law_demands), sl_law_demands⟩)
    (c_law_demands : PySem.W.codeIn K cd_law_demands "_law_demands" = true) (k_law_demands : PySem.W.keepIn K (.ref f_law_demands) = true)
    {f_law_table : Addr} {od_law_table an_law_table : Option Addr} {sl_law_table : Array (Option Value)} {oc_law_table dc_law_table pm_law_table cd_law_table ct_law_table : Value} {kV_law_table : Value}
    (g_law_table : PySem.W.nsIn K mainGlobals "_law_table" = some (some (.ref f_law_table)))
    (l_law_table : K.lookup f_law_table = some ⟨oc_law_table, od_law_table, .func (PySem.W.fnOf "_law_table" "_law_table" (defArgs s_law_table) (defBody s_law_table) (defScope s_law_table) .none kV_law_table dc_law_table pm_law_table an_law_table cd_law_table ct_law_table), sl_law_table⟩)
    (c_law_table : PySem.W.codeIn K cd_law_table "_law_table" = true) (k_law_table : PySem.W.keepIn K (.ref f_law_table) = true)
    {f_law_supply : Addr} {od_law_supply an_law_supply : Option Addr} {sl_law_supply : Array (Option Value)} {oc_law_supply dc_law_supply pm_law_supply cd_law_supply ct_law_supply : Value} {kV_law_supply : Value}
    (g_law_supply : PySem.W.nsIn K mainGlobals "_law_supply" = some (some (.ref f_law_supply)))
    (l_law_supply : K.lookup f_law_supply = some ⟨oc_law_supply, od_law_supply, .func (PySem.W.fnOf "_law_supply" "_law_supply" (defArgs s_law_supply) (defBody s_law_supply) (defScope s_law_supply) .none kV_law_supply dc_law_supply pm_law_supply an_law_supply cd_law_supply ct_law_supply), sl_law_supply⟩)
    (c_law_supply : PySem.W.codeIn K cd_law_supply "_law_supply" = true) (k_law_supply : PySem.W.keepIn K (.ref f_law_supply) = true)
    {f_is_overfull : Addr} {od_is_overfull an_is_overfull : Option Addr} {sl_is_overfull : Array (Option Value)} {oc_is_overfull dc_is_overfull pm_is_overfull cd_is_overfull ct_is_overfull : Value} {kV_is_overfull : Value}
    (g_is_overfull : PySem.W.nsIn K mainGlobals "is_overfull" = some (some (.ref f_is_overfull)))
    (l_is_overfull : K.lookup f_is_overfull = some ⟨oc_is_overfull, od_is_overfull, .func (PySem.W.fnOf "is_overfull" "is_overfull" (defArgs s_is_overfull) (defBody s_is_overfull) (defScope s_is_overfull) .none kV_is_overfull dc_is_overfull pm_is_overfull an_is_overfull cd_is_overfull ct_is_overfull), sl_is_overfull⟩)
    (c_is_overfull : PySem.W.codeIn K cd_is_overfull "is_overfull" = true) (k_is_overfull : PySem.W.keepIn K (.ref f_is_overfull) = true)
    {f_first_overfull : Addr} {od_first_overfull an_first_overfull : Option Addr} {sl_first_overfull : Array (Option Value)} {oc_first_overfull dc_first_overfull pm_first_overfull cd_first_overfull ct_first_overfull : Value} {kV_first_overfull : Value}
    (g_first_overfull : PySem.W.nsIn K mainGlobals "first_overfull" = some (some (.ref f_first_overfull)))
    (l_first_overfull : K.lookup f_first_overfull = some ⟨oc_first_overfull, od_first_overfull, .func (PySem.W.fnOf "first_overfull" "first_overfull" (defArgs s_first_overfull) (defBody s_first_overfull) (defScope s_first_overfull) .none kV_first_overfull dc_first_overfull pm_first_overfull an_first_overfull cd_first_overfull ct_first_overfull), sl_first_overfull⟩)
    (c_first_overfull : PySem.W.codeIn K cd_first_overfull "first_overfull" = true) (k_first_overfull : PySem.W.keepIn K (.ref f_first_overfull) = true)
    {f_law_is_pair : Addr} {od_law_is_pair an_law_is_pair : Option Addr} {sl_law_is_pair : Array (Option Value)} {oc_law_is_pair dc_law_is_pair pm_law_is_pair cd_law_is_pair ct_law_is_pair : Value} {kV_law_is_pair : Value}
    (g_law_is_pair : PySem.W.nsIn K mainGlobals "_law_is_pair" = some (some (.ref f_law_is_pair)))
    (l_law_is_pair : K.lookup f_law_is_pair = some ⟨oc_law_is_pair, od_law_is_pair, .func (PySem.W.fnOf "_law_is_pair" "_law_is_pair" (defArgs s_law_is_pair) (defBody s_law_is_pair) (defScope s_law_is_pair) .none kV_law_is_pair dc_law_is_pair pm_law_is_pair an_law_is_pair cd_law_is_pair ct_law_is_pair), sl_law_is_pair⟩)
    (c_law_is_pair : PySem.W.codeIn K cd_law_is_pair "_law_is_pair" = true) (k_law_is_pair : PySem.W.keepIn K (.ref f_law_is_pair) = true)
    {f_law_overfull : Addr} {od_law_overfull an_law_overfull : Option Addr} {sl_law_overfull : Array (Option Value)} {oc_law_overfull dc_law_overfull pm_law_overfull cd_law_overfull ct_law_overfull : Value} {kV_law_overfull : Value}
    (g_law_overfull : PySem.W.nsIn K mainGlobals "_law_overfull" = some (some (.ref f_law_overfull)))
    (l_law_overfull : K.lookup f_law_overfull = some ⟨oc_law_overfull, od_law_overfull, .func (PySem.W.fnOf "_law_overfull" "_law_overfull" (defArgs s_law_overfull) (defBody s_law_overfull) (defScope s_law_overfull) .none kV_law_overfull dc_law_overfull pm_law_overfull an_law_overfull cd_law_overfull ct_law_overfull), sl_law_overfull⟩)
    (c_law_overfull : PySem.W.codeIn K cd_law_overfull "_law_overfull" = true) (k_law_overfull : PySem.W.keepIn K (.ref f_law_overfull) = true)
    {f_law : Addr} {od_law an_law : Option Addr} {sl_law : Array (Option Value)} {oc_law dc_law pm_law cd_law ct_law : Value} {kV_law : Value}
    (g_law : PySem.W.nsIn K mainGlobals "law" = some (some (.ref f_law)))
    (l_law : K.lookup f_law = some ⟨oc_law, od_law, .func (PySem.W.fnOf "law" "law" (defArgs s_law) (defBody s_law) (defScope s_law) .none kV_law dc_law pm_law an_law cd_law ct_law), sl_law⟩)
    (c_law : PySem.W.codeIn K cd_law "law" = true) (k_law : PySem.W.keepIn K (.ref f_law) = true)
    : ∃ fd : FuncData, (∀ (s : Shared) (v : Value), BindsTo s fd ⟨[v], []⟩ [("script", v)]) ∧ ∀ base : Heap, K.In base → base.Ns mainGlobals mg → FnOk l.prog w K mg base CX0 10 fa fd ["script"] (spTrue K) := by
  have T : TX K mg := {
    n_abs := PySem.W.mg_none_of X G z_abs
    n_all := PySem.W.mg_none_of X G z_all
    n_bool := PySem.W.mg_none_of X G z_bool
    n_divmod := PySem.W.mg_none_of X G z_divmod
    n_enumerate := PySem.W.mg_none_of X G z_enumerate
    n_int := PySem.W.mg_none_of X G z_int
    n_isinstance := PySem.W.mg_none_of X G z_isinstance
    n_len := PySem.W.mg_none_of X G z_len
    n_list := PySem.W.mg_none_of X G z_list
    n_max := PySem.W.mg_none_of X G z_max
    n_min := PySem.W.mg_none_of X G z_min
    n_range := PySem.W.mg_none_of X G z_range
    n_set := PySem.W.mg_none_of X G z_set
    n_str := PySem.W.mg_none_of X G z_str
    n_sum := PySem.W.mg_none_of X G z_sum
    n_tuple := PySem.W.mg_none_of X G z_tuple
    n_zip := PySem.W.mg_none_of X G z_zip
    t_LONGEST_NAME := u_LONGEST_NAME
    c_LONGEST_NAME := PySem.W.mg_of X G z_LONGEST_NAME
    t_LONGEST_TABLE := u_LONGEST_TABLE
    c_LONGEST_TABLE := PySem.W.mg_of X G z_LONGEST_TABLE
    t_MOST_CAPACITY := u_MOST_CAPACITY
    c_MOST_CAPACITY := PySem.W.mg_of X G z_MOST_CAPACITY
    t_MOST_KINDS := u_MOST_KINDS
    c_MOST_KINDS := PySem.W.mg_of X G z_MOST_KINDS
    t_MOST_TASKS := u_MOST_TASKS
    c_MOST_TASKS := PySem.W.mg_of X G z_MOST_TASKS
    t_MOST_UNITS := u_MOST_UNITS
    c_MOST_UNITS := PySem.W.mg_of X G z_MOST_UNITS
    t_MOST_WAYS := u_MOST_WAYS
    c_MOST_WAYS := PySem.W.mg_of X G z_MOST_WAYS
    t_NAME_CHARACTERS := u_NAME_CHARACTERS
    c_NAME_CHARACTERS := PySem.W.mg_of X G z_NAME_CHARACTERS
    C_System := c_System
    q_System := PySem.W.mg_of X G gC_System
    cl_System := ⟨pg_System, hd_System, po_System, sa_System⟩
    na_System_tasks := na_System_tasks
    na_System_table := na_System_table
    C_Task := c_Task
    q_Task := PySem.W.mg_of X G gC_Task
    cl_Task := ⟨pg_Task, hd_Task, po_Task, sa_Task⟩
    na_Task_name := na_Task_name
    na_Task_kinds := na_Task_kinds
    na_Task_ways := na_Task_ways
    a_law_row := f_law_row
    d_law_row := _
    F_law_row := fun_mk (st := s_law_row) l_law_row c_law_row k_law_row
    k_law_row := k_law_row
    m_law_row := PySem.W.mg_of X G g_law_row
    b_law_row := (fun_mk (st := s_law_row) l_law_row c_law_row k_law_row).binds (ps := ["cell", "many"]) fun _ _ _ _ _ _ us hl => match us, hl with | [_, _], _ => rfl
    a_law_numbers := f_law_numbers
    d_law_numbers := _
    F_law_numbers := fun_mk (st := s_law_numbers) l_law_numbers c_law_numbers k_law_numbers
    k_law_numbers := k_law_numbers
    m_law_numbers := PySem.W.mg_of X G g_law_numbers
    b_law_numbers := (fun_mk (st := s_law_numbers) l_law_numbers c_law_numbers k_law_numbers).binds (ps := ["script", "many"]) fun _ _ _ _ _ _ us hl => match us, hl with | [_, _], _ => rfl
    a_is_integer := f_is_integer
    d_is_integer := _
    F_is_integer := fun_mk (st := s_is_integer) l_is_integer c_is_integer k_is_integer
    k_is_integer := k_is_integer
    m_is_integer := PySem.W.mg_of X G g_is_integer
    b_is_integer := (fun_mk (st := s_is_integer) l_is_integer c_is_integer k_is_integer).binds (ps := ["value", "low", "high"]) fun _ _ _ _ _ _ us hl => match us, hl with | [_, _, _], _ => rfl
    a_is_name := f_is_name
    d_is_name := _
    F_is_name := fun_mk (st := s_is_name) l_is_name c_is_name k_is_name
    k_is_name := k_is_name
    m_is_name := PySem.W.mg_of X G g_is_name
    b_is_name := (fun_mk (st := s_is_name) l_is_name c_is_name k_is_name).binds (ps := ["value"]) fun _ _ _ _ _ _ us hl => match us, hl with | [_], _ => rfl
    a_is_kind := f_is_kind
    d_is_kind := _
    F_is_kind := fun_mk (st := s_is_kind) l_is_kind c_is_kind k_is_kind
    k_is_kind := k_is_kind
    m_is_kind := PySem.W.mg_of X G g_is_kind
    b_is_kind := (fun_mk (st := s_is_kind) l_is_kind c_is_kind k_is_kind).binds (ps := ["value"]) fun _ _ _ _ _ _ us hl => match us, hl with | [_], _ => rfl
    a_is_way := f_is_way
    d_is_way := _
    F_is_way := fun_mk (st := s_is_way) l_is_way c_is_way k_is_way
    k_is_way := k_is_way
    m_is_way := PySem.W.mg_of X G g_is_way
    b_is_way := (fun_mk (st := s_is_way) l_is_way c_is_way k_is_way).binds (ps := ["value", "kind_names"]) fun _ _ _ _ _ _ us hl => match us, hl with | [_, _], _ => rfl
    a_are_different := f_are_different
    d_are_different := _
    F_are_different := fun_mk (st := s_are_different) l_are_different c_are_different k_are_different
    k_are_different := k_are_different
    m_are_different := PySem.W.mg_of X G g_are_different
    b_are_different := (fun_mk (st := s_are_different) l_are_different c_are_different k_are_different).binds (ps := ["names"]) fun _ _ _ _ _ _ us hl => match us, hl with | [_], _ => rfl
    a_are_kinds := f_are_kinds
    d_are_kinds := _
    F_are_kinds := fun_mk (st := s_are_kinds) l_are_kinds c_are_kinds k_are_kinds
    k_are_kinds := k_are_kinds
    m_are_kinds := PySem.W.mg_of X G g_are_kinds
    b_are_kinds := (fun_mk (st := s_are_kinds) l_are_kinds c_are_kinds k_are_kinds).binds (ps := ["kinds"]) fun _ _ _ _ _ _ us hl => match us, hl with | [_], _ => rfl
    a_are_ways := f_are_ways
    d_are_ways := _
    F_are_ways := fun_mk (st := s_are_ways) l_are_ways c_are_ways k_are_ways
    k_are_ways := k_are_ways
    m_are_ways := PySem.W.mg_of X G g_are_ways
    b_are_ways := (fun_mk (st := s_are_ways) l_are_ways c_are_ways k_are_ways).binds (ps := ["ways", "kinds"]) fun _ _ _ _ _ _ us hl => match us, hl with | [_, _], _ => rfl
    a_Task_init__ := f_Task_init__
    d_Task_init__ := _
    F_Task_init__ := fun_mk (st := s_Task_init__) l_Task_init__ c_Task_init__ k_Task_init__
    k_Task_init__ := k_Task_init__
    mk_Task_init__ := ⟨mk_Task, at_Task_init__, is_Task_init__, kc_Task⟩
    kb_Task_init___1_kinds_ways := kbn_all fun us ws l1 l2 => match us, ws, l1, l2 with | [_, _], [_, _], _, _ => rfl
    a_Task_kind_number := f_Task_kind_number
    d_Task_kind_number := _
    F_Task_kind_number := fun_mk (st := s_Task_kind_number) l_Task_kind_number c_Task_kind_number k_Task_kind_number
    k_Task_kind_number := k_Task_kind_number
    me_Task_kind_number := ⟨at_Task_kind_number, is_Task_kind_number, k_Task_kind_number⟩
    b_Task_kind_number := (fun_mk (st := s_Task_kind_number) l_Task_kind_number c_Task_kind_number k_Task_kind_number).binds (ps := ["self", "kind_name"]) fun _ _ _ _ _ _ us hl => match us, hl with | [_, _], _ => rfl
    a_Task_kind := f_Task_kind
    d_Task_kind := _
    F_Task_kind := fun_mk (st := s_Task_kind) l_Task_kind c_Task_kind k_Task_kind
    k_Task_kind := k_Task_kind
    me_Task_kind := ⟨at_Task_kind, is_Task_kind, k_Task_kind⟩
    b_Task_kind := (fun_mk (st := s_Task_kind) l_Task_kind c_Task_kind k_Task_kind).binds (ps := ["self", "kind_name"]) fun _ _ _ _ _ _ us hl => match us, hl with | [_, _], _ => rfl
    a_Task_ways_from := f_Task_ways_from
    d_Task_ways_from := _
    F_Task_ways_from := fun_mk (st := s_Task_ways_from) l_Task_ways_from c_Task_ways_from k_Task_ways_from
    k_Task_ways_from := k_Task_ways_from
    me_Task_ways_from := ⟨at_Task_ways_from, is_Task_ways_from, k_Task_ways_from⟩
    b_Task_ways_from := (fun_mk (st := s_Task_ways_from) l_Task_ways_from c_Task_ways_from k_Task_ways_from).binds (ps := ["self", "kind_name"]) fun _ _ _ _ _ _ us hl => match us, hl with | [_, _], _ => rfl
    a_Task_cost := f_Task_cost
    d_Task_cost := _
    F_Task_cost := fun_mk (st := s_Task_cost) l_Task_cost c_Task_cost k_Task_cost
    k_Task_cost := k_Task_cost
    me_Task_cost := ⟨at_Task_cost, is_Task_cost, k_Task_cost⟩
    b_Task_cost := (fun_mk (st := s_Task_cost) l_Task_cost c_Task_cost k_Task_cost).binds (ps := ["self", "kind_name"]) fun _ _ _ _ _ _ us hl => match us, hl with | [_, _], _ => rfl
    a_Task_deadline := f_Task_deadline
    d_Task_deadline := _
    F_Task_deadline := fun_mk (st := s_Task_deadline) l_Task_deadline c_Task_deadline k_Task_deadline
    k_Task_deadline := k_Task_deadline
    me_Task_deadline := ⟨at_Task_deadline, is_Task_deadline, k_Task_deadline⟩
    b_Task_deadline := (fun_mk (st := s_Task_deadline) l_Task_deadline c_Task_deadline k_Task_deadline).binds (ps := ["self", "kind_name"]) fun _ _ _ _ _ _ us hl => match us, hl with | [_, _], _ => rfl
    a_law_is_integer := f_law_is_integer
    d_law_is_integer := _
    F_law_is_integer := fun_mk (st := s_law_is_integer) l_law_is_integer c_law_is_integer k_law_is_integer
    k_law_is_integer := k_law_is_integer
    m_law_is_integer := PySem.W.mg_of X G g_law_is_integer
    b_law_is_integer := (fun_mk (st := s_law_is_integer) l_law_is_integer c_law_is_integer k_law_is_integer).binds (ps := ["actual"]) fun _ _ _ _ _ _ us hl => match us, hl with | [_], _ => rfl
    a_law_pick := f_law_pick
    d_law_pick := _
    F_law_pick := fun_mk (st := s_law_pick) l_law_pick c_law_pick k_law_pick
    k_law_pick := k_law_pick
    m_law_pick := PySem.W.mg_of X G g_law_pick
    b_law_pick := (fun_mk (st := s_law_pick) l_law_pick c_law_pick k_law_pick).binds (ps := ["numbers", "at", "count"]) fun _ _ _ _ _ _ us hl => match us, hl with | [_, _, _], _ => rfl
    a_law_scale := f_law_scale
    d_law_scale := _
    F_law_scale := fun_mk (st := s_law_scale) l_law_scale c_law_scale k_law_scale
    k_law_scale := k_law_scale
    m_law_scale := PySem.W.mg_of X G g_law_scale
    b_law_scale := (fun_mk (st := s_law_scale) l_law_scale c_law_scale k_law_scale).binds (ps := ["numbers"]) fun _ _ _ _ _ _ us hl => match us, hl with | [_], _ => rfl
    a_law_name := f_law_name
    d_law_name := _
    F_law_name := fun_mk (st := s_law_name) l_law_name c_law_name k_law_name
    k_law_name := k_law_name
    m_law_name := PySem.W.mg_of X G g_law_name
    b_law_name := (fun_mk (st := s_law_name) l_law_name c_law_name k_law_name).binds (ps := ["numbers", "k"]) fun _ _ _ _ _ _ us hl => match us, hl with | [_, _], _ => rfl
    a_law_kinds := f_law_kinds
    d_law_kinds := _
    F_law_kinds := fun_mk (st := s_law_kinds) l_law_kinds c_law_kinds k_law_kinds
    k_law_kinds := k_law_kinds
    m_law_kinds := PySem.W.mg_of X G g_law_kinds
    b_law_kinds := (fun_mk (st := s_law_kinds) l_law_kinds c_law_kinds k_law_kinds).binds (ps := ["numbers", "at", "most"]) fun _ _ _ _ _ _ us hl => match us, hl with | [_, _, _], _ => rfl
    a_law_ways := f_law_ways
    d_law_ways := _
    F_law_ways := fun_mk (st := s_law_ways) l_law_ways c_law_ways k_law_ways
    k_law_ways := k_law_ways
    m_law_ways := PySem.W.mg_of X G g_law_ways
    b_law_ways := (fun_mk (st := s_law_ways) l_law_ways c_law_ways k_law_ways).binds (ps := ["numbers", "at", "kinds", "most"]) fun _ _ _ _ _ _ us hl => match us, hl with | [_, _, _, _], _ => rfl
    a_law_number := f_law_number
    d_law_number := _
    F_law_number := fun_mk (st := s_law_number) l_law_number c_law_number k_law_number
    k_law_number := k_law_number
    m_law_number := PySem.W.mg_of X G g_law_number
    b_law_number := (fun_mk (st := s_law_number) l_law_number c_law_number k_law_number).binds (ps := ["kinds", "name"]) fun _ _ _ _ _ _ us hl => match us, hl with | [_, _], _ => rfl
    a_steps := f_steps
    d_steps := _
    F_steps := fun_mk (st := s_steps) l_steps c_steps k_steps
    k_steps := k_steps
    m_steps := PySem.W.mg_of X G g_steps
    b_steps := (fun_mk (st := s_steps) l_steps c_steps k_steps).binds (ps := ["task", "kind_name"]) fun _ _ _ _ _ _ us hl => match us, hl with | [_, _], _ => rfl
    a_best_step := f_best_step
    d_best_step := _
    F_best_step := fun_mk (st := s_best_step) l_best_step c_best_step k_best_step
    k_best_step := k_best_step
    m_best_step := PySem.W.mg_of X G g_best_step
    b_best_step := (fun_mk (st := s_best_step) l_best_step c_best_step k_best_step).binds (ps := ["steps", "found", "length"]) fun _ _ _ _ _ _ us hl => match us, hl with | [_, _, _], _ => rfl
    a_rows := f_rows
    d_rows := _
    F_rows := fun_mk (st := s_rows) l_rows c_rows k_rows
    k_rows := k_rows
    m_rows := PySem.W.mg_of X G g_rows
    b_rows := (fun_mk (st := s_rows) l_rows c_rows k_rows).binds (ps := ["task", "length"]) fun _ _ _ _ _ _ us hl => match us, hl with | [_, _], _ => rfl
    a_is_table := f_is_table
    d_is_table := _
    F_is_table := fun_mk (st := s_is_table) l_is_table c_is_table k_is_table
    k_is_table := k_is_table
    m_is_table := PySem.W.mg_of X G g_is_table
    b_is_table := (fun_mk (st := s_is_table) l_is_table c_is_table k_is_table).binds (ps := ["capacities"]) fun _ _ _ _ _ _ us hl => match us, hl with | [_], _ => rfl
    a_are_task_names := f_are_task_names
    d_are_task_names := _
    F_are_task_names := fun_mk (st := s_are_task_names) l_are_task_names c_are_task_names k_are_task_names
    k_are_task_names := k_are_task_names
    m_are_task_names := PySem.W.mg_of X G g_are_task_names
    b_are_task_names := (fun_mk (st := s_are_task_names) l_are_task_names c_are_task_names k_are_task_names).binds (ps := ["names"]) fun _ _ _ _ _ _ us hl => match us, hl with | [_], _ => rfl
    a_System_init__ := f_System_init__
    d_System_init__ := _
    F_System_init__ := fun_mk (st := s_System_init__) l_System_init__ c_System_init__ k_System_init__
    k_System_init__ := k_System_init__
    mk_System_init__ := ⟨mk_System, at_System_init__, is_System_init__, kc_System⟩
    kb_System_init___1_table := kbn_all fun us ws l1 l2 => match us, ws, l1, l2 with | [_, _], [_], _, _ => rfl
    a_demands := f_demands
    d_demands := _
    F_demands := fun_mk (st := s_demands) l_demands c_demands k_demands
    k_demands := k_demands
    m_demands := PySem.W.mg_of X G g_demands
    b_demands := (fun_mk (st := s_demands) l_demands c_demands k_demands).binds (ps := ["task", "length"]) fun _ _ _ _ _ _ us hl => match us, hl with | [_, _], _ => rfl
    a_joint_demands := f_joint_demands
    d_joint_demands := _
    F_joint_demands := fun_mk (st := s_joint_demands) l_joint_demands c_joint_demands k_joint_demands
    k_joint_demands := k_joint_demands
    m_joint_demands := PySem.W.mg_of X G g_joint_demands
    b_joint_demands := (fun_mk (st := s_joint_demands) l_joint_demands c_joint_demands k_joint_demands).binds (ps := ["tasks", "length"]) fun _ _ _ _ _ _ us hl => match us, hl with | [_, _], _ => rfl
    a_system_demands := f_system_demands
    d_system_demands := _
    F_system_demands := fun_mk (st := s_system_demands) l_system_demands c_system_demands k_system_demands
    k_system_demands := k_system_demands
    m_system_demands := PySem.W.mg_of X G g_system_demands
    b_system_demands := (fun_mk (st := s_system_demands) l_system_demands c_system_demands k_system_demands).binds (ps := ["system", "length"]) fun _ _ _ _ _ _ us hl => match us, hl with | [_, _], _ => rfl
    a_capacity := f_capacity
    d_capacity := _
    F_capacity := fun_mk (st := s_capacity) l_capacity c_capacity k_capacity
    k_capacity := k_capacity
    m_capacity := PySem.W.mg_of X G g_capacity
    b_capacity := (fun_mk (st := s_capacity) l_capacity c_capacity k_capacity).binds (ps := ["table", "slot"]) fun _ _ _ _ _ _ us hl => match us, hl with | [_, _], _ => rfl
    a_sums := f_sums
    d_sums := _
    F_sums := fun_mk (st := s_sums) l_sums c_sums k_sums
    k_sums := k_sums
    m_sums := PySem.W.mg_of X G g_sums
    b_sums := (fun_mk (st := s_sums) l_sums c_sums k_sums).binds (ps := ["table"]) fun _ _ _ _ _ _ us hl => match us, hl with | [_], _ => rfl
    a_supply := f_supply
    d_supply := _
    F_supply := fun_mk (st := s_supply) l_supply c_supply k_supply
    k_supply := k_supply
    m_supply := PySem.W.mg_of X G g_supply
    b_supply := (fun_mk (st := s_supply) l_supply c_supply k_supply).binds (ps := ["table", "start", "end"]) fun _ _ _ _ _ _ us hl => match us, hl with | [_, _, _], _ => rfl
    a_supplies := f_supplies
    d_supplies := _
    F_supplies := fun_mk (st := s_supplies) l_supplies c_supplies k_supplies
    k_supplies := k_supplies
    m_supplies := PySem.W.mg_of X G g_supplies
    b_supplies := (fun_mk (st := s_supplies) l_supplies c_supplies k_supplies).binds (ps := ["table", "slots"]) fun _ _ _ _ _ _ us hl => match us, hl with | [_, _], _ => rfl
    a_law_rows := f_law_rows
    d_law_rows := _
    F_law_rows := fun_mk (st := s_law_rows) l_law_rows c_law_rows k_law_rows
    k_law_rows := k_law_rows
    m_law_rows := PySem.W.mg_of X G g_law_rows
    b_law_rows := (fun_mk (st := s_law_rows) l_law_rows c_law_rows k_law_rows).binds (ps := ["kinds", "ways", "length"]) fun _ _ _ _ _ _ us hl => match us, hl with | [_, _, _], _ => rfl
    a_law_tasks := f_law_tasks
    d_law_tasks := _
    F_law_tasks := fun_mk (st := s_law_tasks) l_law_tasks c_law_tasks k_law_tasks
    k_law_tasks := k_law_tasks
    m_law_tasks := PySem.W.mg_of X G g_law_tasks
    b_law_tasks := (fun_mk (st := s_law_tasks) l_law_tasks c_law_tasks k_law_tasks).binds (ps := ["numbers", "at", "count"]) fun _ _ _ _ _ _ us hl => match us, hl with | [_, _, _], _ => rfl
    a_law_system := f_law_system
    d_law_system := _
    F_law_system := fun_mk (st := s_law_system) l_law_system c_law_system k_law_system
    k_law_system := k_law_system
    m_law_system := PySem.W.mg_of X G g_law_system
    b_law_system := (fun_mk (st := s_law_system) l_law_system c_law_system k_law_system).binds (ps := ["tasks", "table"]) fun _ _ _ _ _ _ us hl => match us, hl with | [_, _], _ => rfl
    a_law_demands := f_law_demands
    d_law_demands := _
    F_law_demands := fun_mk (st := s_law_demands) l_law_demands c_law_demands k_law_demands
    k_law_demands := k_law_demands
    m_law_demands := PySem.W.mg_of X G g_law_demands
    b_law_demands := (fun_mk (st := s_law_demands) l_law_demands c_law_demands k_law_demands).binds (ps := ["tasks", "length"]) fun _ _ _ _ _ _ us hl => match us, hl with | [_, _], _ => rfl
    a_law_table := f_law_table
    d_law_table := _
    F_law_table := fun_mk (st := s_law_table) l_law_table c_law_table k_law_table
    k_law_table := k_law_table
    m_law_table := PySem.W.mg_of X G g_law_table
    b_law_table := (fun_mk (st := s_law_table) l_law_table c_law_table k_law_table).binds (ps := ["numbers", "at"]) fun _ _ _ _ _ _ us hl => match us, hl with | [_, _], _ => rfl
    a_law_supply := f_law_supply
    d_law_supply := _
    F_law_supply := fun_mk (st := s_law_supply) l_law_supply c_law_supply k_law_supply
    k_law_supply := k_law_supply
    m_law_supply := PySem.W.mg_of X G g_law_supply
    b_law_supply := (fun_mk (st := s_law_supply) l_law_supply c_law_supply k_law_supply).binds (ps := ["table", "start", "end"]) fun _ _ _ _ _ _ us hl => match us, hl with | [_, _, _], _ => rfl
    a_is_overfull := f_is_overfull
    d_is_overfull := _
    F_is_overfull := fun_mk (st := s_is_overfull) l_is_overfull c_is_overfull k_is_overfull
    k_is_overfull := k_is_overfull
    m_is_overfull := PySem.W.mg_of X G g_is_overfull
    kb_is_overfull_1_start_length := kbn_all fun us ws l1 l2 => match us, ws, l1, l2 with | [_], [_, _], _, _ => rfl
    a_first_overfull := f_first_overfull
    d_first_overfull := _
    F_first_overfull := fun_mk (st := s_first_overfull) l_first_overfull c_first_overfull k_first_overfull
    k_first_overfull := k_first_overfull
    m_first_overfull := PySem.W.mg_of X G g_first_overfull
    kb_first_overfull_1_horizon := kbn_all fun us ws l1 l2 => match us, ws, l1, l2 with | [_], [_], _, _ => rfl
    a_law_is_pair := f_law_is_pair
    d_law_is_pair := _
    F_law_is_pair := fun_mk (st := s_law_is_pair) l_law_is_pair c_law_is_pair k_law_is_pair
    k_law_is_pair := k_law_is_pair
    m_law_is_pair := PySem.W.mg_of X G g_law_is_pair
    b_law_is_pair := (fun_mk (st := s_law_is_pair) l_law_is_pair c_law_is_pair k_law_is_pair).binds (ps := ["actual"]) fun _ _ _ _ _ _ us hl => match us, hl with | [_], _ => rfl
    a_law_overfull := f_law_overfull
    d_law_overfull := _
    F_law_overfull := fun_mk (st := s_law_overfull) l_law_overfull c_law_overfull k_law_overfull
    k_law_overfull := k_law_overfull
    m_law_overfull := PySem.W.mg_of X G g_law_overfull
    b_law_overfull := (fun_mk (st := s_law_overfull) l_law_overfull c_law_overfull k_law_overfull).binds (ps := ["tasks", "table", "horizon"]) fun _ _ _ _ _ _ us hl => match us, hl with | [_, _, _], _ => rfl
    a_law := f_law
    d_law := _
    F_law := fun_mk (st := s_law) l_law c_law k_law
    k_law := k_law
    m_law := PySem.W.mg_of X G g_law
    b_law := (fun_mk (st := s_law) l_law c_law k_law).binds (ps := ["script"]) fun _ _ _ _ _ _ us hl => match us, hl with | [_], _ => rfl
    e_law := fun s v => .of_eq rfl }
  have e : fa = T.a_law := Value.ref.inj (Option.some.inj (hfa.symm.trans T.m_law))
  subst e
  exact ⟨T.d_law, T.e_law, fun base _ _ => (ok_law (P := l.prog) (w := w) (base := base) T).imp fun vs H Q E h => spTrue_of law_true h⟩
theorem walk {l : PySem.W.OpenLaw} {q : Program} {loose : List Str} {XP : (Str → Option Value) → Heap → Prop} {YP : World → Heap → Prop} {d : DefRec} {K : Params → Frag} (hn : l.most = some 63) (hdf : d.params.defaults = [])
    (hY : ∀ (w : World) (h : Heap), YP w h → (K w.params).In h)
    (hF : ∀ (w : World) (mg : Mg) (fa : Addr) (h : Heap), (K w.params).In h → h.Ns mainGlobals mg → mg d.name = some (.ref fa) → ∃ fd : FuncData, (∀ (s : Shared) (u : Value), BindsTo s fd ⟨[u], []⟩ [("script", u)]) ∧
      ∀ base : Heap, (K w.params).In base → base.Ns mainGlobals mg → FnOk l.prog w (K w.params) mg base CX0 10 fa fd ["script"] (spTrue (K w.params))) : PySem.W.WalkO q loose XP YP l.row.toRowW d [] (fun f vs => PySem.call f vs) :=
  L2.walk_of (n := 63) (k := 10) (x := "script") (CX := fun _ => CX0) (sp := fun w => spTrue (K w.params)) hn (by decide) hdf ⟨rfl, by decide, by decide⟩ hY hF (fun _ _ a ns hl _ hS => ⟨a, ns, rfl, hS, hl, fun _ => rfl⟩) fun _ _ _ _ _ z => z
end
end My
open PySem PySem.W PyProof.Rows in
set_option maxRecDepth 100000 in
set_option maxHeartbeats 0 in
theorem PySem.Challenge.cw_neverlate_k47_overfull_windows_holds : PySem.Challenge.rw_neverlate_k47_overfull_windows.Holds := by
  w_on; o_law; k_head; (case hw => w_witness2)
  k_fill
  refine My.walk (l := PySem.Challenge.rw_neverlate_k47_overfull_windows) rfl rfl (fun w h Y => PySem.W.kIn_of Y) ?hF
  case hF =>
    intro w mg fa h KX G hmg
    refine' My.all_mk KX G hmg ?z_abs ?z_all ?z_bool ?z_divmod ?z_enumerate ?z_int ?z_isinstance ?z_len ?z_list ?z_max ?z_min ?z_range ?z_set ?z_str ?z_sum ?z_tuple ?z_zip ?z_LONGEST_NAME ?z_LONGEST_TABLE ?z_MOST_CAPACITY ?z_MOST_KINDS ?z_MOST_TASKS ?z_MOST_UNITS ?z_MOST_WAYS ?z_NAME_CHARACTERS ?gC_System ?pg_System ?hd_System ?po_System ?sa_System ?na_System_tasks ?na_System_table ?mk_System ?kc_System ?gC_Task ?pg_Task ?hd_Task ?po_Task ?sa_Task ?na_Task_name ?na_Task_kinds ?na_Task_ways ?mk_Task ?kc_Task ?g_law_row ?l_law_row ?c_law_row ?k_law_row ?g_law_numbers ?l_law_numbers ?c_law_numbers ?k_law_numbers ?g_is_integer ?l_is_integer ?c_is_integer ?k_is_integer ?g_is_name ?l_is_name ?c_is_name ?k_is_name ?g_is_kind ?l_is_kind ?c_is_kind ?k_is_kind ?g_is_way ?l_is_way ?c_is_way ?k_is_way ?g_are_different ?l_are_different ?c_are_different ?k_are_different ?g_are_kinds ?l_are_kinds ?c_are_kinds ?k_are_kinds ?g_are_ways ?l_are_ways ?c_are_ways ?k_are_ways ?at_Task_init__ ?is_Task_init__ ?l_Task_init__ ?c_Task_init__ ?k_Task_init__ ?at_Task_kind_number ?is_Task_kind_number ?l_Task_kind_number ?c_Task_kind_number ?k_Task_kind_number ?at_Task_kind ?is_Task_kind ?l_Task_kind ?c_Task_kind ?k_Task_kind ?at_Task_ways_from ?is_Task_ways_from ?l_Task_ways_from ?c_Task_ways_from ?k_Task_ways_from ?at_Task_cost ?is_Task_cost ?l_Task_cost ?c_Task_cost ?k_Task_cost ?at_Task_deadline ?is_Task_deadline ?l_Task_deadline ?c_Task_deadline ?k_Task_deadline ?g_law_is_integer ?l_law_is_integer ?c_law_is_integer ?k_law_is_integer ?g_law_pick ?l_law_pick ?c_law_pick ?k_law_pick ?g_law_scale ?l_law_scale ?c_law_scale ?k_law_scale ?g_law_name ?l_law_name ?c_law_name ?k_law_name ?g_law_kinds ?l_law_kinds ?c_law_kinds ?k_law_kinds ?g_law_ways ?l_law_ways ?c_law_ways ?k_law_ways ?g_law_number ?l_law_number ?c_law_number ?k_law_number ?g_steps ?l_steps ?c_steps ?k_steps ?g_best_step ?l_best_step ?c_best_step ?k_best_step ?g_rows ?l_rows ?c_rows ?k_rows ?g_is_table ?l_is_table ?c_is_table ?k_is_table ?g_are_task_names ?l_are_task_names ?c_are_task_names ?k_are_task_names ?at_System_init__ ?is_System_init__ ?l_System_init__ ?c_System_init__ ?k_System_init__ ?g_demands ?l_demands ?c_demands ?k_demands ?g_joint_demands ?l_joint_demands ?c_joint_demands ?k_joint_demands ?g_system_demands ?l_system_demands ?c_system_demands ?k_system_demands ?g_capacity ?l_capacity ?c_capacity ?k_capacity ?g_sums ?l_sums ?c_sums ?k_sums ?g_supply ?l_supply ?c_supply ?k_supply ?g_supplies ?l_supplies ?c_supplies ?k_supplies ?g_law_rows ?l_law_rows ?c_law_rows ?k_law_rows ?g_law_tasks ?l_law_tasks ?c_law_tasks ?k_law_tasks ?g_law_system ?l_law_system ?c_law_system ?k_law_system ?g_law_demands ?l_law_demands ?c_law_demands ?k_law_demands ?g_law_table ?l_law_table ?c_law_table ?k_law_table ?g_law_supply ?l_law_supply ?c_law_supply ?k_law_supply ?g_is_overfull ?l_is_overfull ?c_is_overfull ?k_is_overfull ?g_first_overfull ?l_first_overfull ?c_first_overfull ?k_first_overfull ?g_law_is_pair ?l_law_is_pair ?c_law_is_pair ?k_law_is_pair ?g_law_overfull ?l_law_overfull ?c_law_overfull ?k_law_overfull ?g_law ?l_law ?c_law ?k_law
    (case z_abs => k_is)
    (case z_all => k_is)
    (case z_bool => k_is)
    (case z_divmod => k_is)
    (case z_enumerate => k_is)
    (case z_int => k_is)
    (case z_isinstance => k_is)
    (case z_len => k_is)
    (case z_list => k_is)
    (case z_max => k_is)
    (case z_min => k_is)
    (case z_range => k_is)
    (case z_set => k_is)
    (case z_str => k_is)
    (case z_sum => k_is)
    (case z_tuple => k_is)
    (case z_zip => k_is)
    (case z_LONGEST_NAME => k_is)
    (case z_LONGEST_TABLE => k_is)
    (case z_MOST_CAPACITY => k_is)
    (case z_MOST_KINDS => k_is)
    (case z_MOST_TASKS => k_is)
    (case z_MOST_UNITS => k_is)
    (case z_MOST_WAYS => k_is)
    (case z_NAME_CHARACTERS => k_is)
    (case gC_System => k_is)
    (case pg_System => k_is)
    (case hd_System => k_is)
    (case po_System => k_is)
    (case sa_System => k_is)
    (case na_System_tasks => k_is)
    (case na_System_table => k_is)
    (case mk_System => k_is)
    (case kc_System => k_is)
    (case gC_Task => k_is)
    (case pg_Task => k_is)
    (case hd_Task => k_is)
    (case po_Task => k_is)
    (case sa_Task => k_is)
    (case na_Task_name => k_is)
    (case na_Task_kinds => k_is)
    (case na_Task_ways => k_is)
    (case mk_Task => k_is)
    (case kc_Task => k_is)
    (case g_law_row => k_is)
    (case l_law_row => k_is)
    (case c_law_row => k_is)
    (case k_law_row => k_is)
    (case g_law_numbers => k_is)
    (case l_law_numbers => k_is)
    (case c_law_numbers => k_is)
    (case k_law_numbers => k_is)
    (case g_is_integer => k_is)
    (case l_is_integer => k_is)
    (case c_is_integer => k_is)
    (case k_is_integer => k_is)
    (case g_is_name => k_is)
    (case l_is_name => k_is)
    (case c_is_name => k_is)
    (case k_is_name => k_is)
    (case g_is_kind => k_is)
    (case l_is_kind => k_is)
    (case c_is_kind => k_is)
    (case k_is_kind => k_is)
    (case g_is_way => k_is)
    (case l_is_way => k_is)
    (case c_is_way => k_is)
    (case k_is_way => k_is)
    (case g_are_different => k_is)
    (case l_are_different => k_is)
    (case c_are_different => k_is)
    (case k_are_different => k_is)
    (case g_are_kinds => k_is)
    (case l_are_kinds => k_is)
    (case c_are_kinds => k_is)
    (case k_are_kinds => k_is)
    (case g_are_ways => k_is)
    (case l_are_ways => k_is)
    (case c_are_ways => k_is)
    (case k_are_ways => k_is)
    (case at_Task_init__ => k_is)
    (case is_Task_init__ => k_is)
    (case l_Task_init__ => k_is)
    (case c_Task_init__ => k_is)
    (case k_Task_init__ => k_is)
    (case at_Task_kind_number => k_is)
    (case is_Task_kind_number => k_is)
    (case l_Task_kind_number => k_is)
    (case c_Task_kind_number => k_is)
    (case k_Task_kind_number => k_is)
    (case at_Task_kind => k_is)
    (case is_Task_kind => k_is)
    (case l_Task_kind => k_is)
    (case c_Task_kind => k_is)
    (case k_Task_kind => k_is)
    (case at_Task_ways_from => k_is)
    (case is_Task_ways_from => k_is)
    (case l_Task_ways_from => k_is)
    (case c_Task_ways_from => k_is)
    (case k_Task_ways_from => k_is)
    (case at_Task_cost => k_is)
    (case is_Task_cost => k_is)
    (case l_Task_cost => k_is)
    (case c_Task_cost => k_is)
    (case k_Task_cost => k_is)
    (case at_Task_deadline => k_is)
    (case is_Task_deadline => k_is)
    (case l_Task_deadline => k_is)
    (case c_Task_deadline => k_is)
    (case k_Task_deadline => k_is)
    (case g_law_is_integer => k_is)
    (case l_law_is_integer => k_is)
    (case c_law_is_integer => k_is)
    (case k_law_is_integer => k_is)
    (case g_law_pick => k_is)
    (case l_law_pick => k_is)
    (case c_law_pick => k_is)
    (case k_law_pick => k_is)
    (case g_law_scale => k_is)
    (case l_law_scale => k_is)
    (case c_law_scale => k_is)
    (case k_law_scale => k_is)
    (case g_law_name => k_is)
    (case l_law_name => k_is)
    (case c_law_name => k_is)
    (case k_law_name => k_is)
    (case g_law_kinds => k_is)
    (case l_law_kinds => k_is)
    (case c_law_kinds => k_is)
    (case k_law_kinds => k_is)
    (case g_law_ways => k_is)
    (case l_law_ways => k_is)
    (case c_law_ways => k_is)
    (case k_law_ways => k_is)
    (case g_law_number => k_is)
    (case l_law_number => k_is)
    (case c_law_number => k_is)
    (case k_law_number => k_is)
    (case g_steps => k_is)
    (case l_steps => k_is)
    (case c_steps => k_is)
    (case k_steps => k_is)
    (case g_best_step => k_is)
    (case l_best_step => k_is)
    (case c_best_step => k_is)
    (case k_best_step => k_is)
    (case g_rows => k_is)
    (case l_rows => k_is)
    (case c_rows => k_is)
    (case k_rows => k_is)
    (case g_is_table => k_is)
    (case l_is_table => k_is)
    (case c_is_table => k_is)
    (case k_is_table => k_is)
    (case g_are_task_names => k_is)
    (case l_are_task_names => k_is)
    (case c_are_task_names => k_is)
    (case k_are_task_names => k_is)
    (case at_System_init__ => k_is)
    (case is_System_init__ => k_is)
    (case l_System_init__ => k_is)
    (case c_System_init__ => k_is)
    (case k_System_init__ => k_is)
    (case g_demands => k_is)
    (case l_demands => k_is)
    (case c_demands => k_is)
    (case k_demands => k_is)
    (case g_joint_demands => k_is)
    (case l_joint_demands => k_is)
    (case c_joint_demands => k_is)
    (case k_joint_demands => k_is)
    (case g_system_demands => k_is)
    (case l_system_demands => k_is)
    (case c_system_demands => k_is)
    (case k_system_demands => k_is)
    (case g_capacity => k_is)
    (case l_capacity => k_is)
    (case c_capacity => k_is)
    (case k_capacity => k_is)
    (case g_sums => k_is)
    (case l_sums => k_is)
    (case c_sums => k_is)
    (case k_sums => k_is)
    (case g_supply => k_is)
    (case l_supply => k_is)
    (case c_supply => k_is)
    (case k_supply => k_is)
    (case g_supplies => k_is)
    (case l_supplies => k_is)
    (case c_supplies => k_is)
    (case k_supplies => k_is)
    (case g_law_rows => k_is)
    (case l_law_rows => k_is)
    (case c_law_rows => k_is)
    (case k_law_rows => k_is)
    (case g_law_tasks => k_is)
    (case l_law_tasks => k_is)
    (case c_law_tasks => k_is)
    (case k_law_tasks => k_is)
    (case g_law_system => k_is)
    (case l_law_system => k_is)
    (case c_law_system => k_is)
    (case k_law_system => k_is)
    (case g_law_demands => k_is)
    (case l_law_demands => k_is)
    (case c_law_demands => k_is)
    (case k_law_demands => k_is)
    (case g_law_table => k_is)
    (case l_law_table => k_is)
    (case c_law_table => k_is)
    (case k_law_table => k_is)
    (case g_law_supply => k_is)
    (case l_law_supply => k_is)
    (case c_law_supply => k_is)
    (case k_law_supply => k_is)
    (case g_is_overfull => k_is)
    (case l_is_overfull => k_is)
    (case c_is_overfull => k_is)
    (case k_is_overfull => k_is)
    (case g_first_overfull => k_is)
    (case l_first_overfull => k_is)
    (case c_first_overfull => k_is)
    (case k_first_overfull => k_is)
    (case g_law_is_pair => k_is)
    (case l_law_is_pair => k_is)
    (case c_law_is_pair => k_is)
    (case k_law_is_pair => k_is)
    (case g_law_overfull => k_is)
    (case l_law_overfull => k_is)
    (case c_law_overfull => k_is)
    (case k_law_overfull => k_is)
    (case g_law => k_is)
    (case l_law => k_is)
    (case c_law => k_is)
    (case k_law => k_is)

