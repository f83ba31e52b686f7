import PyProof.Rows.All
import Wide.All
import OpenK.AllK
import Wide.FinOn
import HandS.ForMost
import HandS.ForExc
import HandS.IsInst
import HandS.Gcd
import HandS.Wide
import HandS.Property
import HandS.MakeKw
import HandS.MakeKwOnly
import HandS.Iter
import HandS.Strs
import HandS.Text
import KE.GoesMore
import PyProof.EnumMake
import KE.DataEq
import HandS.Style
import KE.KTupSum
import KE.DatumOrd
import HandS.SortKw
import HandS.Defaults
import KE.KMathGC
import KE.GoesZip
import KE.GoesEnum
import KE.SortData
import KE.DataCmp
import HandS.CallSlots
import HandS.ExcIs
import HandS.ExcField
import HandS.ExcInit
import HandS.Nested
import HandS.FStr
import HandS.ExcSuper
import HandS.TryOnly
import KE.KExcSuper
import KE.KExcIs
import PyProof.FitsInt
import PyProof.StrBlock2
import HandS.RaiseMore
import HandS.StrMore
import PyProof.NoPylong
import PyProof.Rows.RuleDivmod
import PyProof.Rows.InDataRows
import PyProof.StrLawsIn
import KE.IntTextLaws
import PySem.Challenge.RW_neverlate_k25_all_circuits
set_option Elab.async false
set_option linter.all false
set_option maxRecDepth 100000
set_option maxHeartbeats 0
namespace Nz
open PySem PySem.Spec PyProof.Rows L2
/-- data that never changes any more -/
inductive D where
  | non | bl (b : Bool) | int (i : Int) | str (s : Str)
  | tup (xs : List D) | lst (xs : List D) | obj (c : Str) (fs : List (Str × D))
abbrev Frag := PySem.W.Frag
abbrev Mg := Str → Option Value
mutual
inductive Rep (K : Frag) (mg : Mg) (F : Hp) : D → V → Prop
  | non : Rep K mg F .non .non
  | bl (b : Bool) : Rep K mg F (.bl b) (.bl b)
  | int (i : Int) : Rep K mg F (.int i) (.int i)
  | str (s : Str) : Rep K mg F (.str s) (.str s)
  | tup {a : Addr} {ds : List D} {vs : List V} : SqT K F a vs → Reps K mg F ds vs → Rep K mg F (.tup ds) (.ref a)
  | lst {a : Addr} {ds : List D} {vs : List V} : SqL K F a vs → Reps K mg F ds vs → Rep K mg F (.lst ds) (.ref a)
  | obj {a dx C : Addr} {c : Str} {fs : List (Str × D)} {vs : List (Str × V)} : mg c = some (.ref C) → F a = some (.ins C dx vs) → F dx = some (.own a) →
      RepF K mg F fs vs → Rep K mg F (.obj c fs) (.ref a)
inductive Reps (K : Frag) (mg : Mg) (F : Hp) : List D → List V → Prop
  | nil : Reps K mg F [] []
  | cons {d : D} {v : V} {ds : List D} {vs : List V} : Rep K mg F d v → Reps K mg F ds vs → Reps K mg F (d :: ds) (v :: vs)
inductive RepF (K : Frag) (mg : Mg) (F : Hp) : List (Str × D) → List (Str × V) → Prop
  | nil : RepF K mg F [] []
  | cons {n : Str} {d : D} {v : V} {ds : List (Str × D)} {vs : List (Str × V)} : Rep K mg F d v → RepF K mg F ds vs → RepF K mg F ((n, d) :: ds) ((n, v) :: vs)
end
theorem _root_.L2.Same.seqT {K : Frag} {H H' : Hp} {a : Addr} {xs : List V} (e : Same H H') (h : SqT K H a xs) : SqT K H' a xs := by
  rcases h with (h | ⟨o, h⟩) | h
  · exact .inl (.inl (e _ _ h))
  · exact .inl (.inr ⟨o, e _ _ h⟩)
  · exact .inr h
section
variable {K : Frag} {mg : Mg} {F F' : Hp}
mutual
theorem Rep.mono (s : Same F F') : ∀ {d : D} {v : V}, Rep K mg F d v → Rep K mg F' d v
  | _, _, .non => .non
  | _, _, .bl b => .bl b
  | _, _, .int i => .int i
  | _, _, .str x => .str x
  | _, _, .tup h r => .tup (s.seqT h) (Reps.mono s r)
  | _, _, .lst h r => .lst (s.seq h) (Reps.mono s r)
  | _, _, .obj m h1 h2 r => .obj m (s _ _ h1) (s _ _ h2) (RepF.mono s r)
theorem Reps.mono (s : Same F F') : ∀ {d : List D} {v : List V}, Reps K mg F d v → Reps K mg F' d v
  | _, _, .nil => .nil
  | _, _, .cons h r => .cons (Rep.mono s h) (Reps.mono s r)
theorem RepF.mono (s : Same F F') : ∀ {d : List (Str × D)} {v : List (Str × V)}, RepF K mg F d v → RepF K mg F' d v
  | _, _, .nil => .nil
  | _, _, .cons h r => .cons (Rep.mono s h) (RepF.mono s r)
end
theorem Reps.length : ∀ {ds : List D} {vs : List V}, Reps K mg F ds vs → ds.length = vs.length
  | _, _, .nil => rfl
  | _, _, .cons _ r => congrArg (· + 1) (Reps.length r)
theorem Reps.get : ∀ {ds : List D} {vs : List V} {i : Nat} {d : D}, Reps K mg F ds vs → ds[i]? = some d → ∃ v, vs[i]? = some v ∧ Rep K mg F d v
  | _, _, _, _, .nil, h => by simp at h
  | _, _, 0, _, .cons h r, e => by simp at e; subst e; exact ⟨_, rfl, h⟩
  | _, _, i + 1, _, .cons h r, e => by
    obtain ⟨v, h1, h2⟩ := Reps.get (i := i) r (by simpa using e)
    exact ⟨v, by simpa using h1, h2⟩
theorem Reps.append : ∀ {ds es : List D} {vs us : List V}, Reps K mg F ds vs → Reps K mg F es us → Reps K mg F (ds ++ es) (vs ++ us)
  | _, _, _, _, .nil, s => s
  | _, _, _, _, .cons h r, s => .cons h (r.append s)
theorem Reps.ints : ∀ {ns : List Int}, Reps K mg F (ns.map D.int) (ns.map V.int)
  | [] => .nil
  | _ :: ns => .cons (.int _) (Reps.ints (ns := ns))
theorem Reps.set : ∀ {ds : List D} {vs : List V} (i : Nat) {d : D} {v : V}, Reps K mg F ds vs → Rep K mg F d v → Reps K mg F (ds.set i d) (vs.set i v)
  | _, _, _, _, _, .nil, _ => .nil
  | _, _, 0, _, _, .cons _ r, h => .cons h r
  | _, _, i + 1, _, _, .cons q r, h => .cons q (r.set i h)
theorem Reps.take : ∀ {ds : List D} {vs : List V} (i : Nat), Reps K mg F ds vs → Reps K mg F (ds.take i) (vs.take i)
  | _, _, 0, _ => by simpa using Reps.nil
  | _, _, _ + 1, .nil => .nil
  | _, _, i + 1, .cons q r => .cons q (r.take i)
theorem Reps.drop : ∀ {ds : List D} {vs : List V} (i : Nat), Reps K mg F ds vs → Reps K mg F (ds.drop i) (vs.drop i)
  | _, _, 0, r => r
  | _, _, _ + 1, .nil => .nil
  | _, _, i + 1, .cons _ r => r.drop i
theorem RepF.look : ∀ {ds : List (Str × D)} {vs : List (Str × V)} {n : Str} {d : D}, RepF K mg F ds vs → ds.lookup n = some d → ∃ v, vs.lookup n = some v ∧ Rep K mg F d v
  | _, _, _, _, .nil, h => by simp at h
  | _, _, n, d, .cons (n := m) h r, e => by
    rw [List.lookup_cons] at e ⊢
    cases q : (n == m) with
    | true => rw [q] at e; cases e; exact ⟨_, rfl, h⟩
    | false => rw [q] at e; exact RepF.look r e
end
/-- a cell: frozen data, or the live object of this name -/
inductive Ce where
  | fr (d : D) | ad (n : Nat) | xv (u : V)
/-- a live object -/
inductive LO where
  | fl (ds : List D)                    -- a list of frozen data
  | cl (cs : List Ce)                   -- a list of cells
  | ins (c : Str) (fs : List (Str × Ce)) -- an instance
  | dT (kvs : List (List Key × D))
  | dK (kvs : List (Key × Ce))
/-- a state: the slots, the live objects -/
structure S where
  ρ : List (Option Ce)
  L : List (Nat × LO)
def names (L : List (Nat × LO)) : List Nat := L.map (·.1)
def CRel (K : Frag) (mg : Mg) (F : Hp) (α : Nat → Addr) (L : List (Nat × LO)) (c : Ce) (v : V) : Prop :=
  match c with
  | .fr d => Rep K mg F d v
  | .ad n => n ∈ names L ∧ v = .ref (α n)
  | .xv u => v = u
inductive CRels (K : Frag) (mg : Mg) (F : Hp) (α : Nat → Addr) (L : List (Nat × LO)) : List Ce → List V → Prop
  | nil : CRels K mg F α L [] []
  | cons {c : Ce} {v : V} {cs : List Ce} {vs : List V} : CRel K mg F α L c v → CRels K mg F α L cs vs → CRels K mg F α L (c :: cs) (v :: vs)
inductive CRelF (K : Frag) (mg : Mg) (F : Hp) (α : Nat → Addr) (L : List (Nat × LO)) : List (Str × Ce) → List (Str × V) → Prop
  | nil : CRelF K mg F α L [] []
  | cons {n : Str} {c : Ce} {v : V} {cs : List (Str × Ce)} {vs : List (Str × V)} : CRel K mg F α L c v → CRelF K mg F α L cs vs → CRelF K mg F α L ((n, c) :: cs) ((n, v) :: vs)
inductive CRelK {κ : Type} (K : Frag) (mg : Mg) (F : Hp) (α : Nat → Addr) (L : List (Nat × LO)) : List (κ × Ce) → List (κ × V) → Prop
  | nil : CRelK K mg F α L [] []
  | cons {n : κ} {c : Ce} {v : V} {cs : List (κ × Ce)} {vs : List (κ × V)} : CRel K mg F α L c v → CRelK K mg F α L cs vs → CRelK K mg F α L ((n, c) :: cs) ((n, v) :: vs)
/-- the slots -/
inductive SlR (K : Frag) (mg : Mg) (F : Hp) (α : Nat → Addr) (L : List (Nat × LO)) : List (Option Ce) → L2.St → Prop
  | nil : SlR K mg F α L [] []
  | no {o : Option V} {cs : List (Option Ce)} {vs : L2.St} : SlR K mg F α L cs vs → SlR K mg F α L (none :: cs) (o :: vs)
  | so {c : Ce} {v : V} {cs : List (Option Ce)} {vs : L2.St} : CRel K mg F α L c v → SlR K mg F α L cs vs → SlR K mg F α L (some c :: cs) (some v :: vs)
/-- what a def was entered with: the frozen heap, the heap, what it may change -/
structure Bd where
  F0 : Hp
  H0 : Hp
  fp : Addr → Prop
  pa : Nat → Option Addr
  hpa : ∀ n, 100 ≤ n → pa n = none
/-- the live object o stands at a -/
def LAt (K : Frag) (mg : Mg) (B : Bd) (F : Hp) (α : Nat → Addr) (L : List (Nat × LO)) (H : Hp) (a : Addr) : LO → Prop
  | .fl ds => ∃ vs, H a = some (.lst vs) ∧ Reps K mg F ds vs
  | .cl cs => ∃ vs, H a = some (.lst vs) ∧ CRels K mg F α L cs vs
  | .ins c fs => ∃ C dx vs, mg c = some (.ref C) ∧ H a = some (.ins C dx vs) ∧ H dx = some (.own a) ∧ F dx = none ∧ (B.H0 dx = none ∨ B.fp dx) ∧ CRelF K mg F α L fs vs
  | .dT kvs => ∃ vs, H a = some (.dT vs) ∧ Paired (fun (p : List Key × D) (q : List Key × V) => p.1 = q.1 ∧ Rep K mg F p.2 q.2) kvs vs
  | .dK kvs => ∃ vs, H a = some (.dK vs) ∧ CRelK K mg F α L kvs vs
structure Rel (K : Frag) (mg : Mg) (B : Bd) (F : Hp) (α : Nat → Addr) (H : Hp) (σ : L2.St) (S : S) : Prop where
  sub : Same F H
  bF : Same B.F0 F
  nF : ∀ b o, F b = some o → B.F0 b = some o ∨ B.H0 b = none ∨ B.fp b
  frame : ∀ b o, B.H0 b = some o → ¬ B.fp b → H b = some o
  nd : (names S.L).Nodup
  inj : ∀ n m, n ∈ names S.L → m ∈ names S.L → α n = α m → n = m
  live : ∀ n o, (n, o) ∈ S.L → F (α n) = none ∧ (B.H0 (α n) = none ∨ B.fp (α n)) ∧ LAt K mg B F α S.L H (α n) o
  slots : SlR K mg F α S.L S.ρ σ
  fix : ∀ n a, B.pa n = some a → n ∈ names S.L → α n = a
/-- a step keeps what is frozen, and the names of what lives -/
structure Stp (F : Hp) (α : Nat → Addr) (L : List (Nat × LO)) (F' : Hp) (α' : Nat → Addr) : Prop where
  fro : Same F F'
  nm : ∀ n, n ∈ names L → α' n = α n
def wE (X : Cx) (e : Expr) (σ : L2.St) (H : Hp) (Q : VK) : Prop :=
  ∀ pins s, Inv X pins σ H s → wpAny (model X.prog X.w) X.A (eval e X.env) (EP X pins σ Q) X.xe s
def wT (X : Cx) (e : Expr) (σ : L2.St) (H : Hp) (Q : Bool → Hp → Prop) : Prop :=
  ∀ pins s, Inv X pins σ H s → wpAny (model X.prog X.w) X.A (isTrue e X.env (eval e X.env)) (TP X pins σ Q) X.xe s
def wA (X : Cx) (es : List Expr) (σ : L2.St) (H : Hp) (Q : List V → Hp → Prop) : Prop :=
  ∀ pos pins s, Inv X pins σ H s → wpAny (model X.prog X.w) X.A (spliced (backTo pos (starEach es X.env))) (AP X pins σ Q) X.xe s
def wS (X : Cx) (st : Stmt) (D : Ends) (σ : L2.St) (H : Hp) : Prop :=
  ∀ pins s, Inv X pins σ H s → wpAny (model X.prog X.w) X.A (exec st X.env) (SP X pins D) X.xe s
def wSs (X : Cx) (st : List Stmt) (D : Ends) (σ : L2.St) (H : Hp) : Prop :=
  ∀ pins s, Inv X pins σ H s → wpAny (model X.prog X.w) X.A (execs st X.env) (SP X pins D) X.xe s
theorem pe_w {X : Cx} {e : Expr} : PE X e (wE X e) := ⟨fun pins s σ H Q I h => h pins s I⟩
theorem pt_w {X : Cx} {e : Expr} : PT X e (wT X e) := ⟨fun pins s σ H Q I h => h pins s I⟩
theorem pa_w {X : Cx} {e : List Expr} : PA X e (wA X e) := ⟨fun pos pins s σ H Q I h => h pos pins s I⟩
theorem ps_w {X : Cx} {e : Stmt} : PS X e (wS X e) := ⟨fun pins s σ H Q I h => h pins s I⟩
theorem pss_w {X : Cx} {e : List Stmt} : PSs X e (wSs X e) := ⟨fun pins s σ H Q I h => h pins s I⟩
theorem wE.of {X : Cx} {e : Expr} {t : TE} {σ : L2.St} {H : Hp} {Q : VK} (h : PE X e t) (q : t σ H Q) : wE X e σ H Q := fun pins s I => h.run pins s σ H Q I q
theorem wT.of {X : Cx} {e : Expr} {t : TT} {σ : L2.St} {H : Hp} {Q : Bool → Hp → Prop} (h : PT X e t) (q : t σ H Q) : wT X e σ H Q := fun pins s I => h.run pins s σ H Q I q
theorem wA.of {X : Cx} {e : List Expr} {t : TA} {σ : L2.St} {H : Hp} {Q : List V → Hp → Prop} (h : PA X e t) (q : t σ H Q) : wA X e σ H Q := fun pos pins s I => h.run pos pins s σ H Q I q
theorem wS.of {X : Cx} {e : Stmt} {t : TS} {σ : L2.St} {H : Hp} {D : Ends} (h : PS X e t) (q : t D σ H) : wS X e D σ H := fun pins s I => h.run pins s σ H D I q
theorem wSs.of {X : Cx} {e : List Stmt} {t : TS} {σ : L2.St} {H : Hp} {D : Ends} (h : PSs X e t) (q : t D σ H) : wSs X e D σ H := fun pins s I => h.run pins s σ H D I q
abbrev RelX (X : Cx) := Rel X.K X.mg
abbrev CR (X : Cx) := CRel X.K X.mg
/-- e in the state S gives c and leaves S' -/
def Ev (X : Cx) (B : Bd) (e : Expr) (S : S) (c : Ce) (S' : Nz.S) : Prop :=
  ∀ F α H σ Q, RelX X B F α H σ S → (∀ F' α' v H', RelX X B F' α' H' σ S' → Stp F α S.L F' α' → CR X F' α' S'.L c v → Q v H') → wE X e σ H Q
def Et (X : Cx) (B : Bd) (e : Expr) (S : S) (b : Bool) (S' : Nz.S) : Prop :=
  ∀ F α H σ Q, RelX X B F α H σ S → (∀ F' α' H', RelX X B F' α' H' σ S' → Stp F α S.L F' α' → Q b H') → wT X e σ H Q
def Ea (X : Cx) (B : Bd) (es : List Expr) (S : S) (cs : List Ce) (S' : Nz.S) : Prop :=
  ∀ F α H σ Q, RelX X B F α H σ S → (∀ F' α' vs H', RelX X B F' α' H' σ S' → Stp F α S.L F' α' → CRels X.K X.mg F' α' S'.L cs vs → Q vs H') → wA X es σ H Q
/-- how a statement ends -/
inductive Out where
  | nx (S : S) | ret (c : Ce) (S : S) | bk (S : S) | ct (S : S)
structure OutOk (X : Cx) (B : Bd) (F : Hp) (K : Out → Prop) (D : Ends) : Prop where
  nx : ∀ S' F' α' H' σ', K (.nx S') → RelX X B F' α' H' σ' S' → Same F F' → D.nx σ' H'
  bk : ∀ S' F' α' H' σ', K (.bk S') → RelX X B F' α' H' σ' S' → Same F F' → D.bk σ' H'
  ct : ∀ S' F' α' H' σ', K (.ct S') → RelX X B F' α' H' σ' S' → Same F F' → D.ct σ' H'
  ret : ∀ c S' F' α' H' σ' v, K (.ret c S') → RelX X B F' α' H' σ' S' → Same F F' → CR X F' α' S'.L c v → D.rt v H'
theorem OutOk.mono {X : Cx} {B : Bd} {F F' : Hp} {K : Out → Prop} {D : Ends} (h : OutOk X B F K D) (s : Same F F') : OutOk X B F' K D :=
  ⟨fun S' F1 α' H' σ' k r q => h.nx _ _ _ _ _ k r (s.trans q), fun S' F1 α' H' σ' k r q => h.bk _ _ _ _ _ k r (s.trans q), fun S' F1 α' H' σ' k r q => h.ct _ _ _ _ _ k r (s.trans q),
    fun c S' F1 α' H' σ' v k r q z => h.ret _ _ _ _ _ _ _ k r (s.trans q) z⟩
def Ex (X : Cx) (B : Bd) (st : Stmt) (S : S) (K : Out → Prop) : Prop :=
  ∀ F α H σ D, RelX X B F α H σ S → OutOk X B F K D → wS X st D σ H
def Exs (X : Cx) (B : Bd) (st : List Stmt) (S : S) (K : Out → Prop) : Prop :=
  ∀ F α H σ D, RelX X B F α H σ S → OutOk X B F K D → wSs X st D σ H
end Nz
namespace Nz
open PySem PySem.Spec PyProof.Rows L2
def getL (n : Nat) : List (Nat × LO) → Option LO
  | [] => none
  | (m, o) :: r => if n = m then some o else getL n r
def setL (n : Nat) (o : LO) : List (Nat × LO) → List (Nat × LO)
  | [] => []
  | (m, u) :: r => if n = m then (m, o) :: r else (m, u) :: setL n o r
theorem getL_mem : ∀ {L : List (Nat × LO)} {n : Nat} {o : LO}, getL n L = some o → (n, o) ∈ L
  | (m, u) :: r, n, o, h => by
    unfold getL at h
    split at h
    · rename_i e; cases h; rw [e]; exact List.mem_cons_self
    · exact List.mem_cons_of_mem _ (getL_mem h)
theorem mem_names {L : List (Nat × LO)} {n : Nat} {o : LO} (h : (n, o) ∈ L) : n ∈ names L := List.mem_map.mpr ⟨_, h, rfl⟩
theorem names_setL : ∀ (L : List (Nat × LO)) (n : Nat) (o : LO), names (setL n o L) = names L
  | [], _, _ => rfl
  | (m, u) :: r, n, o => by
    unfold setL
    split
    · rfl
    · show m :: names (setL n o r) = m :: names r
      rw [names_setL r n o]
theorem mem_setL : ∀ {L : List (Nat × LO)} {n m : Nat} {o u : LO}, (names L).Nodup → (m, u) ∈ setL n o L → (m = n ∧ u = o) ∨ (m ≠ n ∧ (m, u) ∈ L)
  | (k, w) :: r, n, m, o, u, nd, h => by
    have nd' : k ∉ names r ∧ (names r).Nodup := List.nodup_cons.mp nd
    unfold setL at h
    split at h
    · rename_i e
      subst e
      rcases List.mem_cons.mp h with h | h
      · cases h; exact .inl ⟨rfl, rfl⟩
      · exact .inr ⟨fun q => nd'.1 (q ▸ mem_names h), List.mem_cons_of_mem _ h⟩
    · rename_i e
      rcases List.mem_cons.mp h with h | h
      · cases h; exact .inr ⟨fun q => e q.symm, List.mem_cons_self⟩
      · rcases mem_setL nd'.2 h with h | ⟨h1, h2⟩
        · exact .inl h
        · exact .inr ⟨h1, List.mem_cons_of_mem _ h2⟩
section
variable {K : Frag} {mg : Mg} {F F' : Hp} {α α' : Nat → Addr} {L L' : List (Nat × LO)}
theorem Stp.refl : Stp F α L F α := ⟨Same.refl _, fun _ _ => rfl⟩
theorem Stp.trans {F2 : Hp} {α2 : Nat → Addr} (a : Stp F α L F' α') (b : Stp F' α' L' F2 α2) (s : ∀ n, n ∈ names L → n ∈ names L') : Stp F α L F2 α2 :=
  ⟨a.fro.trans b.fro, fun n h => (b.nm n (s n h)).trans (a.nm n h)⟩
theorem CRel.step (st : Stp F α L F' α') (hs : ∀ n, n ∈ names L → n ∈ names L') : ∀ {c : Ce} {v : V}, CRel K mg F α L c v → CRel K mg F' α' L' c v
  | .fr _, _, h => Rep.mono st.fro h
  | .ad n, _, ⟨h1, h2⟩ => ⟨hs n h1, by rw [h2, st.nm n h1]⟩
  | .xv _, _, h => h
theorem CRels.step (st : Stp F α L F' α') (hs : ∀ n, n ∈ names L → n ∈ names L') : ∀ {c : List Ce} {v : List V}, CRels K mg F α L c v → CRels K mg F' α' L' c v
  | _, _, .nil => .nil
  | _, _, .cons h r => .cons (h.step st hs) (r.step st hs)
theorem CRelF.step (st : Stp F α L F' α') (hs : ∀ n, n ∈ names L → n ∈ names L') : ∀ {c : List (Str × Ce)} {v : List (Str × V)}, CRelF K mg F α L c v → CRelF K mg F' α' L' c v
  | _, _, .nil => .nil
  | _, _, .cons h r => .cons (h.step st hs) (r.step st hs)
theorem CRelK.step {κ : Type} (st : Stp F α L F' α') (hs : ∀ n, n ∈ names L → n ∈ names L') : ∀ {c : List (κ × Ce)} {v : List (κ × V)}, CRelK K mg F α L c v → CRelK K mg F' α' L' c v
  | _, _, .nil => .nil
  | _, _, .cons h r => .cons (h.step st hs) (r.step st hs)
theorem SlR.step (st : Stp F α L F' α') (hs : ∀ n, n ∈ names L → n ∈ names L') : ∀ {c : List (Option Ce)} {v : L2.St}, SlR K mg F α L c v → SlR K mg F' α' L' c v
  | _, _, .nil => .nil
  | _, _, .no r => .no (r.step st hs)
  | _, _, .so h r => .so (h.step st hs) (r.step st hs)
theorem SlR.get : ∀ {c : List (Option Ce)} {σ : L2.St} {i : Nat} {x : Ce}, SlR K mg F α L c σ → c[i]? = some (some x) → ∃ v, σ[i]? = some (some v) ∧ CRel K mg F α L x v
  | _, _, _, _, .nil, h => by simp at h
  | _, _, 0, _, .no _, h => by simp at h
  | _, _, 0, _, .so h _, e => by simp at e; subst e; exact ⟨_, rfl, h⟩
  | _, _, i + 1, _, .no r, e => by
    obtain ⟨v, h1, h2⟩ := SlR.get (i := i) r (by simpa using e)
    exact ⟨v, by simpa using h1, h2⟩
  | _, _, i + 1, _, .so _ r, e => by
    obtain ⟨v, h1, h2⟩ := SlR.get (i := i) r (by simpa using e)
    exact ⟨v, by simpa using h1, h2⟩
theorem SlR.set : ∀ {c : List (Option Ce)} {σ : L2.St} (i : Nat) {x : Ce} {v : V}, SlR K mg F α L c σ → CRel K mg F α L x v → SlR K mg F α L (c.set i (some x)) (σ.set i (some v))
  | _, _, _, _, _, .nil, _ => .nil
  | _, _, 0, _, _, .no r, h => .so h r
  | _, _, 0, _, _, .so _ r, h => .so h r
  | _, _, i + 1, _, _, .no r, h => .no (r.set i h)
  | _, _, i + 1, _, _, .so q r, h => .so q (r.set i h)
theorem CRels.fr : ∀ {ds : List D} {vs : List V}, CRels K mg F α L (ds.map Ce.fr) vs → Reps K mg F ds vs
  | [], _, .nil => .nil
  | _ :: _, _, .cons h r => .cons h (CRels.fr r)
theorem CRels.length : ∀ {c : List Ce} {v : List V}, CRels K mg F α L c v → c.length = v.length
  | _, _, .nil => rfl
  | _, _, .cons _ r => congrArg (· + 1) r.length
theorem CRels.append : ∀ {c c' : List Ce} {v v' : List V}, CRels K mg F α L c v → CRels K mg F α L c' v' → CRels K mg F α L (c ++ c') (v ++ v')
  | _, _, _, _, .nil, s => s
  | _, _, _, _, .cons h r, s => .cons h (r.append s)
theorem CRels.get : ∀ {ds : List Ce} {vs : List V} {i : Nat} {d : Ce}, CRels K mg F α L ds vs → ds[i]? = some d → ∃ v, vs[i]? = some v ∧ CRel K mg F α L d v
  | _, _, _, _, .nil, h => by simp at h
  | _, _, 0, _, .cons h r, e => by simp at e; subst e; exact ⟨_, rfl, h⟩
  | _, _, i + 1, _, .cons h r, e => by
    obtain ⟨v, h1, h2⟩ := CRels.get (i := i) r (by simpa using e)
    exact ⟨v, by simpa using h1, h2⟩
theorem CRelF.look : ∀ {ds : List (Str × Ce)} {vs : List (Str × V)} {n : Str} {d : Ce}, CRelF K mg F α L ds vs → ds.lookup n = some d → ∃ v, vs.lookup n = some v ∧ CRel K mg F α L d v
  | _, _, _, _, .nil, h => by simp at h
  | _, _, n, d, .cons (n := m) h r, e => by
    rw [List.lookup_cons] at e ⊢
    cases q : (n == m) with
    | true => rw [q] at e; cases e; exact ⟨_, rfl, h⟩
    | false => rw [q] at e; exact CRelF.look r e
variable {B : Bd} {H H' : Hp} {a : Addr}
theorem Paired.imp {κ μ : Type} {R R' : κ → μ → Prop} (h : ∀ a b, R a b → R' a b) : ∀ {xs : List κ} {ys : List μ}, Paired R xs ys → Paired R' xs ys
  | _, _, .nil => .nil
  | _, _, .cons r t => .cons (h _ _ r) (Paired.imp h t)
theorem LAt.step {o : LO} (st : Stp F α L F' α') (hs : ∀ n, n ∈ names L → n ∈ names L') (hH : ∀ b u, H b = some u → H' b = some u) (hF : ∀ b u, F' b = some u → F b = some u ∨ H b = none)
    (h : LAt K mg B F α L H a o) : LAt K mg B F' α' L' H' a o := by
  cases o with
  | fl ds => obtain ⟨vs, e, r⟩ := h; exact ⟨vs, hH _ _ e, r.mono st.fro⟩
  | cl cs => obtain ⟨vs, e, r⟩ := h; exact ⟨vs, hH _ _ e, r.step st hs⟩
  | ins c fs =>
    obtain ⟨C, dx, vs, m, e1, e2, e3, e4, r⟩ := h
    refine ⟨C, dx, vs, m, hH _ _ e1, hH _ _ e2, ?_, e4, r.step st hs⟩
    cases q : F' dx with
    | none => rfl
    | some u =>
      rcases hF _ _ q with z | z
      · rw [e3] at z; cases z
      · rw [e2] at z; cases z
  | dT kvs => obtain ⟨vs, e, r⟩ := h; exact ⟨vs, hH _ _ e, Paired.imp (fun _ _ z => ⟨z.1, z.2.mono st.fro⟩) r⟩
  | dK kvs => obtain ⟨vs, e, r⟩ := h; exact ⟨vs, hH _ _ e, r.step st hs⟩
theorem LAt.is {o : LO} (h : LAt K mg B F α L H a o) : ∃ u, H a = some u := by
  cases o with
  | fl ds => obtain ⟨vs, e, r⟩ := h; exact ⟨_, e⟩
  | cl cs => obtain ⟨vs, e, r⟩ := h; exact ⟨_, e⟩
  | ins c fs => obtain ⟨C, dx, vs, m, e1, _⟩ := h; exact ⟨_, e1⟩
  | dT kvs => obtain ⟨vs, e, r⟩ := h; exact ⟨_, e⟩
  | dK kvs => obtain ⟨vs, e, r⟩ := h; exact ⟨_, e⟩
variable {σ : L2.St} {S : Nz.S}
/-- the heap grows, and what is frozen by new things -/
theorem Rel.grow (R : Rel K mg B F α H σ S) (hF : Same F F') (hH : Same H H') (hs : Same F' H') (hn : ∀ b u, F' b = some u → F b = some u ∨ H b = none) : Rel K mg B F' α H' σ S := by
  have st : Stp F α S.L F' α := ⟨hF, fun _ _ => rfl⟩
  refine ⟨hs, R.bF.trans hF, fun b o e => ?_, fun b o e n => hH _ _ (R.frame b o e n), R.nd, R.inj, fun n o h => ?_, R.slots.step st fun _ z => z, R.fix⟩
  · rcases hn b o e with z | z
    · exact R.nF b o z
    · refine .inr ?_
      by_cases f : B.fp b
      · exact .inr f
      · refine .inl ?_
        cases q : B.H0 b with
        | none => rfl
        | some u => rw [R.frame b u q f] at z; cases z
  · obtain ⟨h1, h2, h3⟩ := R.live n o h
    refine ⟨?_, h2, h3.step st (fun _ z => z) hH hn⟩
    cases q : F' (α n) with
    | none => rfl
    | some u =>
      obtain ⟨w', hw⟩ := h3.is
      rcases hn _ _ q with z | z
      · rw [h1] at z; cases z
      · rw [hw] at z; cases z
theorem same_upd {H : Hp} {p : Addr} {o : HO} (h : H p = none) : Same H (upd H p o) := fun b u e => by rw [upd_ne (ne_of_none e h)]; exact e
theorem Rel.fresh (R : Rel K mg B F α H σ S) {p : Addr} (h : H p = none) : F p = none := R.sub.free h
/-- a new frozen thing -/
theorem Rel.allocF (R : Rel K mg B F α H σ S) {p : Addr} {o : HO} (h : H p = none) : Rel K mg B (upd F p o) α (upd H p o) σ S := by
  refine R.grow (same_upd (R.fresh h)) (same_upd h) (fun b u e => ?_) fun b u e => ?_
  · by_cases q : b = p
    · subst q; rw [upd_same] at e ⊢; exact e
    · rw [upd_ne q] at e ⊢; exact R.sub b u e
  · by_cases q : b = p
    · subst q; exact .inr h
    · rw [upd_ne q] at e; exact .inl e
theorem stp_allocF {p : Addr} {o : HO} (h : F p = none) : Stp F α L (upd F p o) α := ⟨same_upd h, fun _ _ => rfl⟩
def setα (α : Nat → Addr) (n : Nat) (p : Addr) : Nat → Addr := fun m => if m = n then p else α m
theorem stp_setα {n : Nat} {p : Addr} (h : n ∉ names L) : Stp F α L F (setα α n p) := ⟨Same.refl _, fun m hm => by show (if m = n then p else α m) = α m; rw [if_neg (show ¬ m = n from fun q => h (by rw [← q]; exact hm))]⟩
theorem names_append (L : List (Nat × LO)) (n : Nat) (o : LO) : names (L ++ [(n, o)]) = names L ++ [n] := by simp [names]
/-- a new live thing -/
theorem Rel.allocL (R : Rel K mg B F α H σ S) {p : Addr} {o : HO} {n : Nat} {u : LO} (h : H p = none) (hn : n ∉ names S.L) (h100 : 100 ≤ n)
    (new : LAt K mg B F (setα α n p) (S.L ++ [(n, u)]) (upd H p o) p u) : Rel K mg B F (setα α n p) (upd H p o) σ ⟨S.ρ, S.L ++ [(n, u)]⟩ := by
  have st : Stp F α S.L F (setα α n p) := stp_setα hn
  have hsub : ∀ m, m ∈ names S.L → m ∈ names (S.L ++ [(n, u)]) := fun m hm => by rw [names_append]; exact List.mem_append_left _ hm
  have hself : setα α n p n = p := by unfold setα; rw [if_pos rfl]
  have hp0 : B.H0 p = none ∨ B.fp p := by
    by_cases f : B.fp p
    · exact .inr f
    · refine .inl ?_
      cases q : B.H0 p with
      | none => rfl
      | some w' => rw [R.frame p w' q f] at h; cases h
  refine ⟨fun b w' e => same_upd h b w' (R.sub b w' e), R.bF, R.nF, fun b w' e f => same_upd h b w' (R.frame b w' e f), ?_, ?_, ?_, R.slots.step st hsub, fun m a e hm => ?_⟩
  · rw [names_append]
    exact List.nodup_append.mpr ⟨R.nd, by simp, fun a ha b hb => by
      have : b = n := by simpa using hb
      subst this
      exact fun q => hn (q ▸ ha)⟩
  · have key : ∀ m, m ∈ names S.L → setα α n p m ≠ p := fun m hm e => by
      rw [st.nm m hm] at e
      obtain ⟨⟨m', o'⟩, h1, h2⟩ := List.mem_map.mp hm
      cases h2
      obtain ⟨w', hw⟩ := (R.live _ _ h1).2.2.is
      rw [e, h] at hw; cases hw
    intro a b ha hb e
    rw [names_append] at ha hb
    rcases List.mem_append.mp ha with ha' | ha' <;> rcases List.mem_append.mp hb with hb' | hb'
    · rw [st.nm a ha', st.nm b hb'] at e; exact R.inj a b ha' hb' e
    · have h2 : b = n := by simpa using hb'
      rw [h2, hself] at e
      exact absurd e (key a ha')
    · have h2 : a = n := by simpa using ha'
      rw [h2, hself] at e
      exact absurd e.symm (key b hb')
    · have h1 : a = n := by simpa using ha'
      have h2 : b = n := by simpa using hb'
      rw [h1, h2]
  · intro m o' hm
    rcases List.mem_append.mp hm with hm | hm
    · obtain ⟨h1, h2, h3⟩ := R.live m o' hm
      have e : setα α n p m = α m := st.nm m (mem_names hm)
      rw [e]
      exact ⟨h1, h2, h3.step st hsub (same_upd h) fun b w' z => .inl z⟩
    · have e : (m, o') = (n, u) := by simpa using hm
      cases e
      rw [hself]
      exact ⟨R.fresh h, hp0, new⟩
  · have hm : m ∈ names (S.L ++ [(n, u)]) := hm
    rw [names_append] at hm
    rcases List.mem_append.mp hm with hm | hm
    · rw [st.nm m hm]; exact R.fix m a e hm
    · have : m = n := by simpa using hm
      rw [this, B.hpa n h100] at e; cases e
/-- a live thing is changed -/
theorem Rel.write (R : Rel K mg B F α H σ S) {n : Nat} {o u : LO} {o' : HO} (hn : (n, o) ∈ S.L)
    (no : ∀ b y, H b = some (.own y) → b ≠ α n) (new : LAt K mg B F α (setL n u S.L) (upd H (α n) o') (α n) u)
    (oth : ∀ m w', (m, w') ∈ S.L → m ≠ n → LAt K mg B F α S.L H (α m) w' → LAt K mg B F α (setL n u S.L) (upd H (α n) o') (α m) w') :
    Rel K mg B F α (upd H (α n) o') σ ⟨S.ρ, setL n u S.L⟩ := by
  obtain ⟨f0, f1, f2⟩ := R.live n o hn
  obtain ⟨w0, hw0⟩ := f2.is
  have st : Stp F α S.L F α := Stp.refl
  have hsub : ∀ m, m ∈ names S.L → m ∈ names (setL n u S.L) := fun m hm => by rw [names_setL]; exact hm
  refine ⟨fun b w' e => ?_, R.bF, R.nF, fun b w' e f => ?_, by rw [names_setL]; exact R.nd, fun a b ha hb e => R.inj a b (by rw [names_setL] at ha; exact ha) (by rw [names_setL] at hb; exact hb) e, fun m w' hm => ?_, R.slots.step st hsub, fun m a e hm => R.fix m a e (by rw [names_setL] at hm; exact hm)⟩
  · rw [upd_ne (fun q => by rw [q, f0] at e; cases e)]; exact R.sub b w' e
  · have hb : b ≠ α n := fun q => by
      subst q
      rcases f1 with z | z
      · rw [z] at e; cases e
      · exact f z
    rw [upd_ne hb]; exact R.frame b w' e f
  · rcases mem_setL R.nd hm with ⟨h1, h2⟩ | ⟨h1, h2⟩
    · subst h1; subst h2
      exact ⟨f0, f1, new⟩
    · obtain ⟨g0, g1, g2⟩ := R.live m w' h2
      exact ⟨g0, g1, oth m w' h2 h1 g2⟩
theorem LAt.other {o : LO} {p : Addr} {w' : HO} (ne : a ≠ p) (no : ∀ b, H b = some (.own a) → b ≠ p) (hs : ∀ n, n ∈ names L → n ∈ names L') (h : LAt K mg B F α L H a o) : LAt K mg B F α L' (upd H p w') a o := by
  have st : Stp F α L F α := Stp.refl
  cases o with
  | fl ds => obtain ⟨vs, e, r⟩ := h; exact ⟨vs, by rw [upd_ne ne]; exact e, r⟩
  | cl cs => obtain ⟨vs, e, r⟩ := h; exact ⟨vs, by rw [upd_ne ne]; exact e, r.step st hs⟩
  | ins c fs => obtain ⟨C, dx, vs, m, e1, e2, e3, e4, r⟩ := h; exact ⟨C, dx, vs, m, by rw [upd_ne ne]; exact e1, by rw [upd_ne (no _ e2)]; exact e2, e3, e4, r.step st hs⟩
  | dT kvs => obtain ⟨vs, e, r⟩ := h; exact ⟨vs, by rw [upd_ne ne]; exact e, r⟩
  | dK kvs => obtain ⟨vs, e, r⟩ := h; exact ⟨vs, by rw [upd_ne ne]; exact e, r.step st hs⟩
theorem LAt.notown {o : LO} (h : LAt K mg B F α L H a o) : ∀ b y, H b = some (.own y) → b ≠ a := fun b y e q => by
  subst q
  cases o with
  | fl ds => obtain ⟨vs, e1, r⟩ := h; rw [e] at e1; cases e1
  | cl cs => obtain ⟨vs, e1, r⟩ := h; rw [e] at e1; cases e1
  | ins c fs => obtain ⟨C, dx, vs, m, e1, _⟩ := h; rw [e] at e1; cases e1
  | dT kvs => obtain ⟨vs, e1, r⟩ := h; rw [e] at e1; cases e1
  | dK kvs => obtain ⟨vs, e1, r⟩ := h; rw [e] at e1; cases e1
/-- .. in short -/
theorem Rel.put (R : Rel K mg B F α H σ S) {n : Nat} {o u : LO} {o' : HO} (hn : (n, o) ∈ S.L) (new : LAt K mg B F α (setL n u S.L) (upd H (α n) o') (α n) u) : Rel K mg B F α (upd H (α n) o') σ ⟨S.ρ, setL n u S.L⟩ := by
  have no := LAt.notown (R.live n o hn).2.2
  refine R.write hn no new fun m w' hm ne h => h.other (fun q => ne (R.inj _ _ (mem_names hm) (mem_names hn) q)) (fun b e => no b _ e) fun k hk => by rw [names_setL]; exact hk
end
end Nz
namespace Nz
open PySem PySem.Spec PyProof.Rows L2
def Sub (L L' : List (Nat × LO)) : Prop := ∀ n, n ∈ names L → n ∈ names L'
theorem Sub.refl {L : List (Nat × LO)} : Sub L L := fun _ h => h
theorem Sub.app {L M : List (Nat × LO)} : Sub L (L ++ M) := fun n h => by rw [names, List.map_append]; exact List.mem_append_left _ h
/-- the cell c looks like the list ds, the tuple ds -/
def AsL (L : List (Nat × LO)) (c : Ce) (ds : List D) : Prop :=
  match c with
  | .fr d => d = .lst ds
  | .ad n => getL n L = some (.fl ds)
  | .xv _ => False
section
variable {X : Cx} {B : Bd} {F : Hp} {α : Nat → Addr} {H : Hp} {σ : L2.St} {S : Nz.S}
theorem Rel.asL (R : RelX X B F α H σ S) {c : Ce} {ds : List D} {v : V} (h : AsL S.L c ds) (r : CR X F α S.L c v) : ∃ a vs, v = .ref a ∧ SqL X.K H a vs ∧ Reps X.K X.mg F ds vs := by
  cases c with
  | fr d =>
    have e : d = .lst ds := h
    subst e
    have r' : Rep X.K X.mg F (.lst ds) v := r
    cases r' with
    | lst h1 h2 => exact ⟨_, _, rfl, R.sub.seq h1, h2⟩
  | ad n =>
    obtain ⟨_, rfl⟩ := r
    obtain ⟨_, _, vs, e, q⟩ := R.live n _ (getL_mem h)
    exact ⟨_, vs, rfl, SqL.of e, q⟩
  | xv u => exact False.elim h
theorem Rel.asT (R : RelX X B F α H σ S) {ds : List D} {v : V} (r : Rep X.K X.mg F (.tup ds) v) : ∃ a vs, v = .ref a ∧ SqT X.K H a vs ∧ Reps X.K X.mg F ds vs := by
  cases r with
  | tup h1 h2 => exact ⟨_, _, rfl, R.sub.seqT h1, h2⟩
end
def Op2 (X : Cx) (f : Value → Value → Sem Value) (d1 d2 d : D) : Prop :=
  ∀ B F α H σ (S : Nz.S) (Q : VK) x y, RelX X B F α H σ S → Rep X.K X.mg F d1 x → Rep X.K X.mg F d2 y → (∀ F' α' v H', RelX X B F' α' H' σ S → Stp F α S.L F' α' → Rep X.K X.mg F' d v → Q v H') →
    ∀ pins s v u, Inv X pins σ H s → RelV x v → RelV y u → wpAny (model X.prog X.w) X.A (f v u) (EP X pins σ Q) X.xe s
theorem Op2.pure {X : Cx} {f : Value → Value → Sem Value} {d1 d2 d : D} {r : R2} {v : V} (h : OpR X f r) (hd : ∀ F, Rep X.K X.mg F d v)
    (hr : ∀ F H (Q : VK) x y, Same F H → Rep X.K X.mg F d1 x → Rep X.K X.mg F d2 y → Q v H → r x y H Q) : Op2 X f d1 d2 d :=
  fun B F α H σ S Q x y R rx ry k pins s v' u I rv ru => h pins s σ H x y v' u Q I rv ru (hr F H Q x y R.sub rx ry (k F α v H R Stp.refl (hd F)))
section
variable {X : Cx}
theorem op2I {f : Value → Value → Sem Value} {C : Int → Int → Prop} {g : Int → Int → V} {i j : Int} {d : D} (h : OpR X f (rI C g)) (hc : C i j) (hd : ∀ F, Rep X.K X.mg F d (g i j)) : Op2 X f (.int i) (.int j) d :=
  .pure h hd fun F H Q x y _ rx ry q => by cases rx; cases ry; exact ⟨_, _, rfl, rfl, hc, q⟩
theorem op2I0 {f : Value → Value → Sem Value} {g : Int → Int → V} {i j : Int} {d : D} (h : OpR X f (rI0 g)) (hd : ∀ F, Rep X.K X.mg F d (g i j)) : Op2 X f (.int i) (.int j) d :=
  .pure h hd fun F H Q x y _ rx ry q => by cases rx; cases ry; exact ⟨_, _, rfl, rfl, q⟩
theorem o_add {i j : Int} : Op2 X (binaryOp .Add) (.int i) (.int j) (.int (i + j)) := op2I0 op_add fun _ => .int _
theorem o_sub {i j : Int} : Op2 X (binaryOp .Sub) (.int i) (.int j) (.int (i - j)) := op2I0 op_sub fun _ => .int _
theorem o_mul {i j : Int} (h : CMul i j) : Op2 X (binaryOp .Mult) (.int i) (.int j) (.int (i * j)) := op2I op_mul h fun _ => .int _
theorem o_div {i j : Int} (h : 0 < j) (h' : j < 1073741824) : Op2 X (binaryOp .FloorDiv) (.int i) (.int j) (.int (i / j)) := op2I op_fdiv ⟨h, h'⟩ fun _ => .int _
theorem o_mod {i j : Int} (h : 0 < j) : Op2 X (binaryOp .Mod) (.int i) (.int j) (.int (i % j)) := op2I op_mod h fun _ => .int _
theorem o_pow {i j : Int} (h : CPow i j) : Op2 X (binaryOp .Pow) (.int i) (.int j) (.int (i ^ j.toNat)) := op2I op_pow h fun _ => .int _
theorem o_adds {i j : Str} (h : i.length + j.length ≤ sizeLine) : Op2 X (binaryOp .Add) (.str i) (.str j) (.str (i ++ j)) :=
  .pure (v := .str (i ++ j)) op_add_str (fun _ => .str _) fun F H Q x y _ rx ry q => by cases rx; cases ry; exact ⟨_, _, rfl, rfl, h, q⟩
theorem o_lt {i j : Int} : Op2 X (compareOp .Lt) (.int i) (.int j) (.bl (decide (i < j))) := op2I0 op_lt fun _ => .bl _
theorem o_le {i j : Int} : Op2 X (compareOp .LtE) (.int i) (.int j) (.bl (decide (i ≤ j))) := op2I0 op_le fun _ => .bl _
theorem o_gt {i j : Int} : Op2 X (compareOp .Gt) (.int i) (.int j) (.bl (decide (j < i))) := op2I0 op_gt fun _ => .bl _
theorem o_ge {i j : Int} : Op2 X (compareOp .GtE) (.int i) (.int j) (.bl (decide (j ≤ i))) := op2I0 op_ge fun _ => .bl _
theorem o_eqi {i j : Int} : Op2 X (compareOp .Eq) (.int i) (.int j) (.bl (decide (i = j))) :=
  .pure (v := .bl (decide (V.int i = V.int j))) op_eq (fun _ => by rw [show decide (V.int i = V.int j) = decide (i = j) from by simp]; exact .bl _) fun F H Q x y _ rx ry q => by cases rx; cases ry; exact ⟨rfl, q⟩
theorem o_nei {i j : Int} : Op2 X (compareOp .NotEq) (.int i) (.int j) (.bl (!decide (i = j))) :=
  .pure (v := .bl (!decide (V.int i = V.int j))) op_ne (fun _ => by rw [show decide (V.int i = V.int j) = decide (i = j) from by simp]; exact .bl _) fun F H Q x y _ rx ry q => by cases rx; cases ry; exact ⟨rfl, q⟩
theorem o_eqs {i j : Str} : Op2 X (compareOp .Eq) (.str i) (.str j) (.bl (decide (i = j))) :=
  .pure (v := .bl (decide (V.str i = V.str j))) op_eq (fun _ => by rw [show decide (V.str i = V.str j) = decide (i = j) from by simp]; exact .bl _) fun F H Q x y _ rx ry q => by cases rx; cases ry; exact ⟨rfl, q⟩
theorem o_nes {i j : Str} : Op2 X (compareOp .NotEq) (.str i) (.str j) (.bl (!decide (i = j))) :=
  .pure (v := .bl (!decide (V.str i = V.str j))) op_ne (fun _ => by rw [show decide (V.str i = V.str j) = decide (i = j) from by simp]; exact .bl _) fun F H Q x y _ rx ry q => by cases rx; cases ry; exact ⟨rfl, q⟩
end
section
variable {X : Cx} {B : Bd} {S S1 S2 S3 : Nz.S} {a b c e : Expr} {es : List Expr} {pos p : Pos} {d d1 d2 d3 : D}
theorem ev_var (i : Nat) {x : Str} {c : Ce} (hN : X.N[i]? = some x) (hv : Vis X.env.scope x) (hρ : S.ρ[i]? = some (some c)) (hd : (x == ("__debug__" : Str)) = false := by decide) (hcd : (x == ("__classdict__" : Str)) = false := by decide) : Ev X B (.Name x pos) S c S :=
  fun F α H σ Q R k => wE.of (pe_var hN hv hd hcd) (by
    obtain ⟨v, e, r⟩ := R.slots.get hρ
    exact ⟨v, e, k F α v H R Stp.refl r⟩)
theorem ev_int {i : Int} {j pos} : Ev X B (.Constant (.int i) j pos) S (.fr (.int i)) S := fun F α H σ Q R k => wE.of pe_int (k F α _ H R Stp.refl (.int i))
theorem ev_bl {i : Bool} {j pos} : Ev X B (.Constant (.bool i) j pos) S (.fr (.bl i)) S := fun F α H σ Q R k => wE.of pe_bl (k F α _ H R Stp.refl (.bl i))
theorem ev_str {i : Str} {j pos} : Ev X B (.Constant (.str i) j pos) S (.fr (.str i)) S := fun F α H σ Q R k => wE.of pe_str (k F α _ H R Stp.refl (.str i))
theorem ev_gi {x : Str} {i : Int} {t : Tok} (hg : Gl X x) (hm : X.mg x = some (.int i t)) (hd : (x == ("__debug__" : Str)) = false := by decide) : Ev X B (.Name x pos) S (.fr (.int i)) S :=
  fun F α H σ Q R k => wE.of (pe_glob (v := .int i) hg hm ⟨t, rfl⟩ hd) (k F α _ H R Stp.refl (.int i))
theorem ev_gs {x : Str} {i : Str} {t : Tok} (hg : Gl X x) (hm : X.mg x = some (.str i t)) (hd : (x == ("__debug__" : Str)) = false := by decide) : Ev X B (.Name x pos) S (.fr (.str i)) S :=
  fun F α H σ Q R k => wE.of (pe_glob (v := .str i) hg hm ⟨t, rfl⟩ hd) (k F α _ H R Stp.refl (.str i))
theorem ev_bin {op : Operator} (ho : Op2 X (binaryOp op) d1 d2 d) (ha : Ev X B a S (.fr d1) S1) (hb : Ev X B b S1 (.fr d2) S2) (h1 : Sub S.L S1.L := by exact Sub.refl) (h2 : Sub S1.L S2.L := by exact Sub.refl) : Ev X B (.BinOp a op b pos) S (.fr d) S2 :=
  fun F α H σ Q R k pins s I => by
    refine wpAny_BinOp (thn (ha F α H σ _ R (fun F1 α1 v1 H1 R1 st1 r1 => hb F1 α1 H1 σ (fun v2 H2 => ∃ F2 α2, RelX X B F2 α2 H2 σ S2 ∧ Stp F α S.L F2 α2 ∧ Rep X.K X.mg F2 d1 v1 ∧ Rep X.K X.mg F2 d2 v2) R1 fun F2 α2 v2 H2 R2 st2 r2 =>
      ⟨F2, α2, R2, st1.trans st2 h1, Rep.mono st2.fro r1, r2⟩) pins s I) fun v s1 ⟨x, H1, I1, rv, q1⟩ => thn (q1 pins s1 I1) fun u s2 ⟨y, H2, I2, ru, F2, α2, R2, st, r1, r2⟩ => ?_)
    exact ho B F2 α2 H2 σ S2 Q x y R2 r1 r2 (fun F' α' v' H' R' st' r' => k F' α' v' H' R' (st.trans st' fun n h => h2 n (h1 n h)) r') pins s2 v u I2 rv ru
theorem ev_cmp {op : CmpOp} (ho : Op2 X (compareOp op) d1 d2 d) (ha : Ev X B a S (.fr d1) S1) (hb : Ev X B b S1 (.fr d2) S2) (hm : behindInMarks op b = false) (h1 : Sub S.L S1.L := by exact Sub.refl) (h2 : Sub S1.L S2.L := by exact Sub.refl) : Ev X B (.Compare a [op] [b] pos) S (.fr d) S2 :=
  fun F α H σ Q R k pins s I => by
    refine wpAny_Compare1 (thn (ha F α H σ _ R (fun F1 α1 v1 H1 R1 st1 r1 => hb F1 α1 H1 σ (fun v2 H2 => ∃ F2 α2, RelX X B F2 α2 H2 σ S2 ∧ Stp F α S.L F2 α2 ∧ Rep X.K X.mg F2 d1 v1 ∧ Rep X.K X.mg F2 d2 v2) R1 fun F2 α2 v2 H2 R2 st2 r2 =>
      ⟨F2, α2, R2, st1.trans st2 h1, Rep.mono st2.fro r1, r2⟩) pins s I) fun v s1 ⟨x, H1, I1, rv, q1⟩ => thn (q1 pins s1 I1) fun u s2 ⟨y, H2, I2, ru, F2, α2, R2, st, r1, r2⟩ => ?_) hm
    exact ho B F2 α2 H2 σ S2 Q x y R2 r1 r2 (fun F' α' v' H' R' st' r' => k F' α' v' H' R' (st.trans st' fun n h => h2 n (h1 n h)) r') pins s2 v u I2 rv ru
theorem ev_un {op : UnaryOp} {g : Int → V} {i : Int} (ho : UnR X (unaryOp op) (rU g)) (hd : ∀ F, Rep X.K X.mg F d (g i)) (ha : Ev X B a S (.fr (.int i)) S1) : Ev X B (.UnaryOp op a pos) S (.fr d) S1 :=
  fun F α H σ Q R k => wE.of (pe_un ho pe_w) (ha F α H σ _ R fun F1 α1 v1 H1 R1 st1 r1 => by cases r1; exact ⟨_, rfl, k F1 α1 _ H1 R1 st1 (hd F1)⟩)
theorem ev_neg {i : Int} (ha : Ev X B a S (.fr (.int i)) S1) : Ev X B (.UnaryOp .USub a pos) S (.fr (.int (-i))) S1 := ev_un un_neg (fun _ => .int _) ha
theorem ev_not {i : Bool} (ha : Ev X B a S (.fr (.bl i)) S1) : Ev X B (.UnaryOp .Not a pos) S (.fr (.bl (!i))) S1 :=
  fun F α H σ Q R k => wE.of (pe_not pe_w) (ha F α H σ _ R fun F1 α1 v1 H1 R1 st1 r1 => by cases r1; exact ⟨_, rfl, k F1 α1 _ H1 R1 st1 (.bl _)⟩)
theorem ev_one {op : BoolOp} {c : Ce} (ha : Ev X B a S c S1) : Ev X B (.BoolOp op [a] pos) S c S1 :=
  fun F α H σ Q R k => wE.of (pe_one pe_w) (ha F α H σ _ R k)
theorem ev_and {i j : Bool} (ha : Ev X B a S (.fr (.bl i)) S) (hb : i = true → Ev X B (.BoolOp .And (b :: es) pos) S (.fr (.bl j)) S) : Ev X B (.BoolOp .And (a :: b :: es) pos) S (.fr (.bl (i && j))) S :=
  fun F α H σ Q R k => wE.of (pe_and pe_w pe_w) (ha F α H σ _ R fun F1 α1 v1 H1 R1 st1 r1 => by
    cases r1
    refine ⟨i, rfl, ?_⟩
    cases i with
    | true => rw [if_pos rfl]; exact hb rfl F1 α1 H1 σ _ R1 fun F2 α2 v2 H2 R2 st2 r2 => k F2 α2 v2 H2 R2 (st1.trans st2 Sub.refl) (by simpa using r2)
    | false => rw [if_neg Bool.false_ne_true]; exact k F1 α1 _ H1 R1 st1 (.bl _))
/-- tests -/
theorem et_val {i : Bool} (ha : Ev X B a S (.fr (.bl i)) S1) (he : ∀ whole, isTrue a X.env whole = (do let v ← whole; standAt a.pos; holding [v] (truthy v)) := by intro _; rfl) : Et X B a S i S1 :=
  fun F α H σ Q R k => wT.of (pt_val pe_w he) (ha F α H σ _ R fun F1 α1 v1 H1 R1 st1 r1 => by cases r1; exact ⟨i, rfl, k F1 α1 H1 R1 st1⟩)
theorem et_cmp {op : CmpOp} {i : Bool} (ho : Op2 X (compareOp op) d1 d2 (.bl i)) (ha : Ev X B a S (.fr d1) S1) (hb : Ev X B b S1 (.fr d2) S2) (hm : behindInMarks op b = false) (h1 : Sub S.L S1.L := by exact Sub.refl) (h2 : Sub S1.L S2.L := by exact Sub.refl) : Et X B (.Compare a [op] [b] pos) S i S2 :=
  fun F α H σ Q R k pins s I => by
    refine wpAny_isTrue_Compare1 (thn (ha F α H σ _ R (fun F1 α1 v1 H1 R1 st1 r1 => hb F1 α1 H1 σ (fun v2 H2 => ∃ F2 α2, RelX X B F2 α2 H2 σ S2 ∧ Stp F α S.L F2 α2 ∧ Rep X.K X.mg F2 d1 v1 ∧ Rep X.K X.mg F2 d2 v2) R1 fun F2 α2 v2 H2 R2 st2 r2 =>
      ⟨F2, α2, R2, st1.trans st2 h1, Rep.mono st2.fro r1, r2⟩) pins s I) fun v s1 ⟨x, H1, I1, rv, q1⟩ => thn (q1 pins s1 I1) fun u s2 ⟨y, H2, I2, ru, F2, α2, R2, st, r1, r2⟩ => ?_) hm
    refine thn (ho B F2 α2 H2 σ S2 (fun v' H' => ∃ k, v' = .bl k ∧ Q k H') x y R2 r1 r2 (fun F' α' v' H' R' st' r' => by cases r'; exact ⟨i, rfl, k F' α' H' R' (st.trans st' fun n h => h2 n (h1 n h))⟩) pins s2 v u I2 rv ru) fun c s3 ⟨z, H3, I3, r3, k', e, q3⟩ => ?_
    subst e
    cases r3
    exact wpAny_truthy_bool ⟨H3, I3, q3⟩
theorem et_not {i : Bool} (ha : Et X B a S i S1) : Et X B (.UnaryOp .Not a pos) S (!i) S1 := fun F α H σ Q R k => wT.of (pt_not pt_w) (ha F α H σ _ R k)
/-- a chain of tests, whatever its whole -/
def Ew (X : Cx) (B : Bd) (e : Expr) (S : Nz.S) (b : Bool) : Prop :=
  ∀ F α H σ (Q : Bool → Hp → Prop), RelX X B F α H σ S → (∀ F' α' H', RelX X B F' α' H' σ S → Stp F α S.L F' α' → Q b H') → ∀ whole pins s, Inv X pins σ H s → wpAny (model X.prog X.w) X.A (isTrue e X.env whole) (TP X pins σ Q) X.xe s
def tW (X : Cx) (e : Expr) : TT := fun σ H Q => ∀ whole pins s, Inv X pins σ H s → wpAny (model X.prog X.w) X.A (isTrue e X.env whole) (TP X pins σ Q) X.xe s
theorem pw_w {e : Expr} : PW X e (tW X e) := ⟨fun whole pins s σ H Q I h => h whole pins s I⟩
theorem Ew.of {e : Expr} {t : TT} {i : Bool} (h : PW X e t) (q : ∀ F α H σ (Q : Bool → Hp → Prop), RelX X B F α H σ S → (∀ F' α' H', RelX X B F' α' H' σ S → Stp F α S.L F' α' → Q i H') → t σ H Q) : Ew X B e S i :=
  fun F α H σ Q R k whole pins s I => h.run whole pins s σ H Q I (q F α H σ Q R k)
theorem Ew.et {e : Expr} {i : Bool} (h : Ew X B e S i) : Et X B e S i S := fun F α H σ Q R k pins s I => h F α H σ Q R k _ pins s I
theorem ew_and1 {i : Bool} (ha : Et X B a S i S) : Ew X B (.BoolOp .And [a] pos) S i := .of (pw_and1 pt_w) fun F α H σ Q R k => ha F α H σ _ R k
theorem ew_or1 {i : Bool} (ha : Et X B a S i S) : Ew X B (.BoolOp .Or [a] pos) S i := .of (pw_or1 pt_w) fun F α H σ Q R k => ha F α H σ _ R k
theorem ew_and {i j : Bool} (ha : Et X B a S i S) (hb : i = true → Ew X B (.BoolOp .And (b :: es) pos) S j) : Ew X B (.BoolOp .And (a :: b :: es) pos) S (i && j) :=
  .of (pw_and pt_w pw_w) fun F α H σ Q R k => ha F α H σ _ R fun F1 α1 H1 R1 st1 => by
    cases i with
    | true => rw [if_pos rfl]; exact hb rfl F1 α1 H1 σ _ R1 fun F2 α2 H2 R2 st2 => by simpa using k F2 α2 H2 R2 (st1.trans st2 Sub.refl)
    | false => rw [if_neg Bool.false_ne_true]; simpa using k F1 α1 H1 R1 st1
theorem ew_or {i j : Bool} (ha : Et X B a S i S) (hb : i = false → Ew X B (.BoolOp .Or (b :: es) pos) S j) : Ew X B (.BoolOp .Or (a :: b :: es) pos) S (i || j) :=
  .of (pw_or pt_w pw_w) fun F α H σ Q R k => ha F α H σ _ R fun F1 α1 H1 R1 st1 => by
    cases i with
    | false => rw [if_neg Bool.false_ne_true]; exact hb rfl F1 α1 H1 σ _ R1 fun F2 α2 H2 R2 st2 => by simpa using k F2 α2 H2 R2 (st1.trans st2 Sub.refl)
    | true => rw [if_pos rfl]; simpa using k F1 α1 H1 R1 st1
theorem ea_nil : Ea X B [] S [] S := fun F α H σ Q R k => wA.of pa_nil (k F α _ H R Stp.refl .nil)
theorem ea_cons {c : Ce} {cs : List Ce} (ha : Ev X B a S c S1) (hr : Ea X B es S1 cs S2) (h1 : Sub S.L S1.L := by exact Sub.refl) (h2 : Sub S1.L S2.L := by exact Sub.refl) (hs : starEach (a :: es) X.env = (false, eval a X.env) :: starEach es X.env := by rfl) : Ea X B (a :: es) S (c :: cs) S2 :=
  fun F α H σ Q R k => wA.of (pa_cons pe_w pa_w hs) (ha F α H σ _ R fun F1 α1 v1 H1 R1 st1 r1 => hr F1 α1 H1 σ _ R1 fun F2 α2 vs H2 R2 st2 r2 => k F2 α2 _ H2 R2 (st1.trans st2 h1) (.cons (r1.step st2 h2) r2))
theorem ev_lst {ds : List D} (h : Ea X B es S (ds.map Ce.fr) S1) (hz : ds.length ≤ sizeLine) : Ev X B (.List es pos) S (.fr (.lst ds)) S1 :=
  fun F α H σ Q R k => wE.of (pe_lst pa_w) (h F α H σ _ R fun F1 α1 vs H1 R1 st1 r1 => by
    have r := r1.fr
    refine ⟨by rw [← r.length]; exact hz, fun p hp => ?_⟩
    have hf := R1.fresh hp
    exact k _ α1 _ _ (R1.allocF hp) ⟨st1.fro.trans (same_upd hf), st1.nm⟩ (Rep.lst (SqL.of upd_same) (r.mono (same_upd hf))))
theorem ev_tup {ds : List D} {k1} (h : Ea X B es S (ds.map Ce.fr) S1) (hz : ds.length ≤ sizeLine) : Ev X B (.Tuple es k1 pos) S (.fr (.tup ds)) S1 :=
  fun F α H σ Q R k => wE.of (pe_tup pa_w) (h F α H σ _ R fun F1 α1 vs H1 R1 st1 r1 => by
    have r := r1.fr
    refine ⟨by rw [← r.length]; exact hz, fun p hp => ?_⟩
    have hf := R1.fresh hp
    exact k _ α1 _ _ (R1.allocF hp) ⟨st1.fro.trans (same_upd hf), st1.nm⟩ (Rep.tup (SqT.of upd_same) (r.mono (same_upd hf))))
theorem ev_lstL (n : Nat) {ds : List D} (h : Ea X B es S (ds.map Ce.fr) S1) (hz : ds.length ≤ sizeLine) (hn : n ∉ names S1.L) (h100 : 100 ≤ n) (h1 : Sub S.L S1.L := by exact Sub.refl) : Ev X B (.List es pos) S (.ad n) ⟨S1.ρ, S1.L ++ [(n, .fl ds)]⟩ :=
  fun F α H σ Q R k => wE.of (pe_lst pa_w) (h F α H σ _ R fun F1 α1 vs H1 R1 st1 r1 => by
    have r := r1.fr
    refine ⟨by rw [← r.length]; exact hz, fun p hp => ?_⟩
    refine k F1 (setα α1 n p) _ _ (R1.allocL hp hn h100 ⟨vs, upd_same, r⟩) (st1.trans (stp_setα hn) h1) ⟨?_, ?_⟩
    · rw [names_append]; exact List.mem_append_right _ (List.mem_singleton.mpr rfl)
    · show V.ref p = V.ref (if n = n then p else α1 n)
      rw [if_pos rfl])
theorem ev_ixL {ca : Ce} {i : Int} {ds : List D} (ha : Ev X B a S ca S1) (hb : Ev X B b S1 (.fr (.int i)) S2) (hl : AsL S2.L ca ds) (hi : atI ds i = some d) (hs : PlainIx b := by exact fun _ _ => rfl) (h1 : Sub S.L S1.L := by exact Sub.refl) (h2 : Sub S1.L S2.L := by exact Sub.refl) :
    Ev X B (.Subscript a b pos) S (.fr d) S2 :=
  fun F α H σ Q R k => wE.of (pe_ix ix_list pe_w pe_w hs) (ha F α H σ _ R fun F1 α1 v1 H1 R1 st1 r1 => hb F1 α1 H1 σ _ R1 fun F2 α2 v2 H2 R2 st2 r2 => by
    obtain ⟨p, vs, rfl, hq, rs⟩ := R2.asL hl (r1.step st2 h2)
    cases r2
    obtain ⟨v, hv, rv⟩ : ∃ v, atI vs i = some v ∧ Rep X.K X.mg F2 d v := by
      unfold atI at hi ⊢
      rw [← rs.length]
      cases q : ixN ds.length i with
      | none => rw [q] at hi; cases hi
      | some j => rw [q] at hi; exact rs.get hi
    exact ⟨p, vs, i, v, rfl, rfl, hq, hv, k F2 α2 v H2 R2 (st1.trans st2 h1) rv⟩)
theorem ev_ixT {i : Int} {ds : List D} (ha : Ev X B a S (.fr (.tup ds)) S1) (hb : Ev X B b S1 (.fr (.int i)) S2) (hi : atI ds i = some d) (hs : PlainIx b := by exact fun _ _ => rfl) (h1 : Sub S.L S1.L := by exact Sub.refl) (h2 : Sub S1.L S2.L := by exact Sub.refl) :
    Ev X B (.Subscript a b pos) S (.fr d) S2 :=
  fun F α H σ Q R k => wE.of (pe_ix ix_tup pe_w pe_w hs) (ha F α H σ _ R fun F1 α1 v1 H1 R1 st1 r1 => hb F1 α1 H1 σ _ R1 fun F2 α2 v2 H2 R2 st2 r2 => by
    obtain ⟨p, vs, rfl, hq, rs⟩ := R2.asT (Rep.mono st2.fro r1)
    cases r2
    obtain ⟨v, hv, rv⟩ : ∃ v, atI vs i = some v ∧ Rep X.K X.mg F2 d v := by
      unfold atI at hi ⊢
      rw [← rs.length]
      cases q : ixN ds.length i with
      | none => rw [q] at hi; cases hi
      | some j => rw [q] at hi; exact rs.get hi
    exact ⟨p, vs, i, v, rfl, rfl, hq, hv, k F2 α2 v H2 R2 (st1.trans st2 h1) rv⟩)
end
end Nz
namespace Nz
open PySem PySem.Spec PyProof.Rows L2
def wI (X : Cx) (tg iter : Expr) (σ : L2.St) (H : Hp) (R : It → Hp → Prop) : Prop :=
  ∀ pins s, Inv X pins σ H s → wpAny (model X.prog X.w) X.A (eval iter X.env) (fun v s1 => wpAny (model X.prog X.w) X.A (pyIter v) (PIE X pins σ tg R) X.xe s1) X.xe s
theorem pi_w {X : Cx} {tg iter : Expr} : PI X tg iter (wI X tg iter) := ⟨fun pins s σ H R I h => h pins s I⟩
theorem wI.of {X : Cx} {tg iter : Expr} {t : TI} {σ : L2.St} {H : Hp} {R : It → Hp → Prop} (h : PI X tg iter t) (q : t σ H R) : wI X tg iter σ H R := fun pins s I => h.run pins s σ H R I q
structure JOk (K : Frag) (mg : Mg) (F : Hp) (J : It) (xs : List D) : Prop where
  go : ∀ (B : Bd) F' α H σ (S : Nz.S) (i : Nat) (d : D), Rel K mg B F' α H σ S → Same F F' → xs[i]? = some d → J.go i H ∧ ∀ x H', J.yld i H x H' → ∃ F2, Rel K mg B F2 α H' σ S ∧ Same F' F2 ∧ Rep K mg F2 d x
  stop : ∀ (B : Bd) F' α H σ (S : Nz.S) (i : Nat), Rel K mg B F' α H σ S → Same F F' → xs.length ≤ i → J.stop i H
def Src (X : Cx) (B : Bd) (tg iter : Expr) (S : Nz.S) (xs : List D) (S1 : Nz.S) : Prop :=
  ∀ F α H σ R, RelX X B F α H σ S → (∀ F' α' H' J, RelX X B F' α' H' σ S1 → Stp F α S.L F' α' → JOk X.K X.mg F' J xs → R J H') → wI X tg iter σ H R
section
variable {X : Cx} {B : Bd} {S S1 S2 S3 : Nz.S} {tg a b c e : Expr} {es : List Expr} {pos p : Pos} {d d1 d2 d3 : D} {xs : List D}
theorem src_list (h : Ev X B e S (.fr (.lst xs)) S1) : Src X B tg e S xs S1 := fun F α H σ R RR k => wI.of (pi_list pe_w) (h F α H σ _ RR fun F1 α1 v1 H1 R1 st1 r1 => by
  cases r1 with
  | lst h1 h2 =>
    rename_i a vs
    refine ⟨a, rfl, ⟨vs, R1.sub.seq h1⟩, k F1 α1 H1 _ R1 st1 ⟨fun B F' α H σ S i d R' hs hi => ?_, fun B F' α H σ S i R' hs hi => ⟨vs, R'.sub.seq (hs.seq h1), by rw [← h2.length]; exact hi⟩⟩⟩
    obtain ⟨v, hv, rv⟩ := h2.get hi
    refine ⟨⟨vs, v, R'.sub.seq (hs.seq h1), hv⟩, fun x H' y => ?_⟩
    obtain ⟨rfl, y⟩ := y
    have := y vs (R'.sub.seq (hs.seq h1))
    rw [hv] at this; cases this
    exact ⟨F', R', Same.refl _, rv.mono hs⟩)
theorem src_tup (h : Ev X B e S (.fr (.tup xs)) S1) : Src X B tg e S xs S1 := fun F α H σ R RR k => wI.of (pi_tup pe_w) (h F α H σ _ RR fun F1 α1 v1 H1 R1 st1 r1 => by
  cases r1 with
  | tup h1 h2 =>
    rename_i a vs
    refine ⟨a, rfl, ⟨vs, R1.sub.seqT h1⟩, k F1 α1 H1 _ R1 st1 ⟨fun B F' α H σ S i d R' hs hi => ?_, fun B F' α H σ S i R' hs hi => ⟨vs, R'.sub.seqT (hs.seqT h1), by rw [← h2.length]; exact hi⟩⟩⟩
    obtain ⟨v, hv, rv⟩ := h2.get hi
    refine ⟨⟨vs, v, R'.sub.seqT (hs.seqT h1), hv⟩, fun x H' y => ?_⟩
    obtain ⟨rfl, y⟩ := y
    have := y vs (R'.sub.seqT (hs.seqT h1))
    rw [hv] at this; cases this
    exact ⟨F', R', Same.refl _, rv.mono hs⟩)
/-- lo, lo + 1, .. -/
def rngD (lo : Int) (n : Nat) : List D := (List.range n).map fun (i : Nat) => D.int (lo + (i : Int))
theorem rngD_get {lo : Int} {n i : Nat} {d : D} (h : (rngD lo n)[i]? = some d) : i < n ∧ d = .int (lo + i) := by
  unfold rngD at h
  rw [List.getElem?_map] at h
  by_cases hi : i < n
  · rw [List.getElem?_range hi] at h
    exact ⟨hi, (Option.some.inj h).symm⟩
  · rw [List.getElem?_eq_none (by simpa using hi)] at h
    cases h
theorem rngD_len {lo : Int} {n : Nat} : (rngD lo n).length = n := by simp [rngD]
theorem jok_range {K : Frag} {mg : Mg} {F : Hp} {lo : Int} {n : Nat} : JOk K mg F (Itr lo n) (rngD lo n) :=
  ⟨fun B F' α H σ S i d R' hs hi => by
    obtain ⟨h1, rfl⟩ := rngD_get hi
    refine ⟨h1, fun x H' y => ?_⟩
    obtain ⟨rfl, rfl⟩ := y
    exact ⟨F', R', Same.refl _, .int _⟩, fun B F' α H σ S i R' hs hi => by rw [rngD_len] at hi; exact hi⟩
theorem src_range1 {j : Int} (h : Ea X B [a] S [.fr (.int j)] S1) (hg : Gl X "range") (hm : X.mg "range" = none) (h1 : -(2 ^ 62) ≤ j) (h2 : j < 2 ^ 62) (hs : starEach [a] X.env = [(false, eval a X.env)] := by rfl) : Src X B tg (.Call (.Name "range" p) [a] [] pos) S (rngD 0 j.toNat) S1 :=
  fun F α H σ R RR k => wI.of (pi_range1 hg hm pa_w hs) (h F α H σ _ RR fun F1 α1 vs H1 R1 st1 r1 => by
    cases r1 with
    | cons r1 r2 =>
      cases r2
      cases r1
      exact ⟨j, rfl, h1, h2, k F1 α1 H1 _ R1 st1 jok_range⟩)
def wG (X : Cx) (tg : Expr) (v : V) (σ : L2.St) (H : Hp) (Q : L2.St → Hp → Prop) : Prop :=
  ∀ pins s u, Inv X pins σ H s → RelV v u → wpAny (model X.prog X.w) X.A (assign tg X.env u) (fun _ s' => ∃ σ' H', Inv X pins σ' H' s' ∧ Q σ' H') X.xe s
theorem pg_w {tg : Expr} : PG X tg (fun v σ H Q => wG X tg v σ H Q) := ⟨fun pins s σ H v u Q I r h => h pins s u I r⟩
def Eg (X : Cx) (B : Bd) (tg : Expr) (c : Ce) (S S2 : Nz.S) : Prop :=
  ∀ F α H σ v Q, RelX X B F α H σ S → CR X F α S.L c v → (∀ σ' F' H', RelX X B F' α H' σ' S2 → Same F F' → Q σ' H') → wG X tg v σ H Q
def setS (S : Nz.S) (i : Nat) (c : Ce) : Nz.S := ⟨S.ρ.set i (some c), S.L⟩
theorem Rel.setS {K : Frag} {mg : Mg} {F : Hp} {α : Nat → Addr} {H : Hp} {σ : L2.St} (R : Rel K mg B F α H σ S) {i : Nat} {c : Ce} {v : V} (r : CRel K mg F α S.L c v) : Rel K mg B F α H (σ.set i (some v)) (setS S i c) :=
  ⟨R.sub, R.bF, R.nF, R.frame, R.nd, R.inj, R.live, R.slots.set i r, R.fix⟩
theorem eg_name (i : Nat) {x : Str} {c : Ce} (hN : X.N.Nodup) (hi : X.N[i]? = some x) (hx : Loc X.env.scope x) (hf : X.fn x = true ∨ X.env.scope.names.lookup x = some .local := by first | exact .inl rfl | exact .inr rfl | assumption) : Eg X B (.Name x pos) c S (setS S i c) :=
  fun F α H σ v Q R r k pins s u I ru => (pg_name hN hi hx hf).run pins s σ H v u Q I ru (k _ F H (R.setS r) (Same.refl _))
/-- several -/
def Egs (X : Cx) (B : Bd) (ts : List Expr) (cs : List D) (S S2 : Nz.S) : Prop :=
  ∀ F α H σ vs (Q : L2.St → Hp → Prop), RelX X B F α H σ S → Reps X.K X.mg F cs vs → (∀ σ' F' H', RelX X B F' α H' σ' S2 → Same F F' → Q σ' H') →
    ∀ pins s us, Inv X pins σ H s → Vals vs us → wpAny (model X.prog X.w) X.A (assignInOrder ((assignEach ts X.env).map (·.2)) us) (fun _ s' => ∃ σ' H', Inv X pins σ' H' s' ∧ Q σ' H') X.xe s
theorem egs_nil : Egs X B [] [] S S := fun F α H σ vs Q R r k pins s us I ru => by
  cases r
  cases ru
  exact assignInOrder_nil ⟨σ, H, I, k σ F H R (Same.refl _)⟩
theorem egs_cons {ds : List D} (h1 : Eg X B e (.fr d) S S1) (h2 : Egs X B es ds S1 S2) (hL : S1.L = S.L := by rfl) (hs : (assignEach (e :: es) X.env).map (·.2) = assign e X.env :: (assignEach es X.env).map (·.2) := by rfl) : Egs X B (e :: es) (d :: ds) S S2 :=
  fun F α H σ vs Q R r k pins s us I ru => by
    cases r with
    | cons r rr =>
      cases ru with
      | cons u uu =>
        rw [hs]
        refine assignInOrder_cons (thn (h1 F α H σ _ (fun σ1 H1 => ∃ F1, RelX X B F1 α H1 σ1 S1 ∧ Same F F1) R r (fun σ' F' H' R' s' => ⟨F', R', s'⟩) pins s _ I u) fun _ s1 ⟨σ1, H1, I1, F1, R1, sm⟩ => ?_)
        exact h2 F1 α H1 σ1 _ Q R1 (rr.mono sm) (fun σ' F' H' R' s' => k σ' F' H' R' (sm.trans s')) pins s1 _ I1 uu
theorem eg_tup {ds : List D} {k1} (hc : X.calm = true) (h : Egs X B es ds S S2) (hn : (assignEach es X.env).length = ds.length := by rfl) (hst : (assignEach es X.env).findIdx? (·.1) = none := by rfl) : Eg X B (.Tuple es k1 pos) (.fr (.tup ds)) S S2 :=
  fun F α H σ v Q R r k pins s u I ru => by
    cases (show Rep X.K X.mg F (.tup ds) v from r) with
    | tup hq hr =>
      have hq' := R.sub.seqT hq
      cases ru
      obtain ⟨its, rv, ht, hz⟩ := I.tuple hq'
      refine assign_Tuple_tuple (I.ok.hd hc) ht (by simp [hn, hr.length, rv.length]) hst fun h' hx => ?_
      have I1 : Inv X pins σ H { s with heap := h' } := I.kept (t' := s.toks) fun b o e => hx b o (Nat.ne_of_lt (Heap.lt_size e)) e
      exact h F α H σ _ Q R hr k pins _ _ I1 (by simpa using rv)
variable {K : Out → Prop} {st : Stmt} {sts body els : List Stmt}
def seqK (X : Cx) (B : Bd) (rest : List Stmt) (K : Out → Prop) : Out → Prop
  | .nx S => Exs X B rest S K
  | .ret c S => K (.ret c S)
  | .bk S => K (.bk S)
  | .ct S => K (.ct S)
theorem exs_nil (h : K (.nx S)) : Exs X B [] S K := fun F α H σ D R o => wSs.of pss_nil (o.nx S F α H σ h R (Same.refl _))
theorem exs_cons (h : Ex X B st S (seqK X B sts K)) : Exs X B (st :: sts) S K := fun F α H σ D R o => wSs.of (pss_cons ps_w pss_w) (h F α H σ _ R
  ⟨fun S' F' α' H' σ' k R' s' => k F' α' H' σ' D R' (o.mono s'), fun S' F' α' H' σ' k R' s' => o.bk S' F' α' H' σ' k R' s', fun S' F' α' H' σ' k R' s' => o.ct S' F' α' H' σ' k R' s',
    fun c S' F' α' H' σ' v k R' s' r => o.ret c S' F' α' H' σ' v k R' s' r⟩)
theorem exs_one (h : Ex X B st S K) : Exs X B [st] S K := fun F α H σ D R o => wSs.of (pss_one ps_w) (h F α H σ _ R o)
theorem ex_asg {cv : Ce} (he : Ev X B e S cv S1) (hg : Eg X B tg cv S1 S2) (k : K (.nx S2)) (hs : swapsWithSole [tg] e pos.line X.env = pure false := by rfl) (hw : swappedStores [tg] e X.env = pure none := by rfl)
    (h1 : (assignEach [tg] X.env).map (·.2) = [assign tg X.env] := by rfl) : Ex X B (.Assign [tg] e pos) S K := fun F α H σ D R o => wS.of (ps_asg pe_w pg_w hs hw h1) (he F α H σ _ R fun F1 α1 v1 H1 R1 st1 r1 =>
      hg F1 α1 H1 σ v1 _ R1 r1 fun σ' F' H' R' s' => o.nx S2 F' α1 H' σ' k R' (st1.fro.trans s'))
theorem ex_set (i : Nat) {x : Str} {c : Ce} {pos' : Pos} (he : Ev X B e S c S1) (k : K (.nx (setS S1 i c))) (hN : X.N.Nodup) (hi : X.N[i]? = some x) (hx : Loc X.env.scope x) (hs : swapsWith e (some (.Name x pos')) pos.line X.env = pure false := by rfl)
    (hf : X.fn x = true ∨ X.env.scope.names.lookup x = some .local := by first | exact .inl rfl | exact .inr rfl | assumption) : Ex X B (.Assign [.Name x pos'] e pos) S K :=
  fun F α H σ D R o => wS.of (ps_set hN hi hx pe_w hs hf) (he F α H σ _ R fun F1 α1 v1 H1 R1 st1 r1 => o.nx _ F1 α1 H1 _ k (R1.setS r1) st1.fro)
theorem ex_ret {c : Ce} (he : Ev X B e S c S1) (k : K (.ret c S1)) : Ex X B (.Return (some e) pos) S K := fun F α H σ D R o => wS.of (ps_ret pe_w) (he F α H σ _ R fun F1 α1 v1 H1 R1 st1 r1 => o.ret c S1 F1 α1 H1 σ v1 k R1 st1.fro r1)
theorem ex_expr {c : Ce} (he : Ev X B e S c S1) (k : K (.nx S1)) (hs : swapsWith e none pos.line X.env = pure false := by rfl) : Ex X B (.Expr e pos) S K := fun F α H σ D R o => wS.of (ps_expr pe_w hs) (he F α H σ _ R fun F1 α1 v1 H1 R1 st1 r1 => o.nx S1 F1 α1 H1 σ k R1 st1.fro)
theorem ex_cont (k : K (.ct S)) : Ex X B (.Continue pos) S K := fun F α H σ D R o => wS.of ps_continue (o.ct S F α H σ k R (Same.refl _))
theorem ex_if {i : Bool} (ht : Et X B e S i S1) (ha : i = true → Exs X B body S1 K) (hb : i = false → Exs X B els S1 K) : Ex X B (.If e body els pos) S K := fun F α H σ D R o => wS.of (ps_if pt_w pss_w pss_w) (ht F α H σ _ R fun F1 α1 H1 R1 st1 => by
  cases i with
  | true => rw [if_pos rfl]; exact ha rfl F1 α1 H1 σ D R1 (o.mono st1.fro)
  | false => rw [if_neg Bool.false_ne_true]; exact hb rfl F1 α1 H1 σ D R1 (o.mono st1.fro))
theorem Exs.mono {K' : Out → Prop} (h : Exs X B sts S K) (hk : ∀ o, K o → K' o) : Exs X B sts S K' := fun F α H σ D R o => h F α H σ D R
  ⟨fun S' F' α' H' σ' k => o.nx S' F' α' H' σ' (hk _ k), fun S' F' α' H' σ' k => o.bk S' F' α' H' σ' (hk _ k), fun S' F' α' H' σ' k => o.ct S' F' α' H' σ' (hk _ k), fun c S' F' α' H' σ' v k => o.ret c S' F' α' H' σ' v (hk _ k)⟩
theorem Ex.mono {K' : Out → Prop} (h : Ex X B st S K) (hk : ∀ o, K o → K' o) : Ex X B st S K' := fun F α H σ D R o => h F α H σ D R
  ⟨fun S' F' α' H' σ' k => o.nx S' F' α' H' σ' (hk _ k), fun S' F' α' H' σ' k => o.bk S' F' α' H' σ' (hk _ k), fun S' F' α' H' σ' k => o.ct S' F' α' H' σ' (hk _ k), fun c S' F' α' H' σ' v k => o.ret c S' F' α' H' σ' v (hk _ k)⟩
end
end Nz
namespace Nz
open PySem PySem.Spec PyProof.Rows L2
def delL (n : Nat) : List (Nat × LO) → List (Nat × LO)
  | [] => []
  | (m, o) :: r => if n = m then delL n r else (m, o) :: delL n r
def frC (n : Nat) (d : D) : Ce → Ce
  | .fr e => .fr e
  | .ad m => if n = m then .fr d else .ad m
  | .xv u => .xv u
def frO (n : Nat) (d : D) : LO → LO
  | .fl ds => .fl ds
  | .cl cs => .cl (cs.map (frC n d))
  | .ins c fs => .ins c (fs.map fun p => (p.1, frC n d p.2))
  | .dT kvs => .dT kvs
  | .dK kvs => .dK (kvs.map fun p => (p.1, frC n d p.2))
def frS (n : Nat) (d : D) (S : Nz.S) : Nz.S := ⟨S.ρ.map (Option.map (frC n d)), (delL n S.L).map fun p => (p.1, frO n d p.2)⟩
section
variable {K : Frag} {mg : Mg} {B : Bd} {F F' : Hp} {α α' : Nat → Addr} {L L' : List (Nat × LO)} {H H' : Hp} {σ : L2.St} {S : Nz.S}
theorem mem_delL : ∀ {L : List (Nat × LO)} {n m : Nat} {o : LO}, (m, o) ∈ delL n L ↔ m ≠ n ∧ (m, o) ∈ L
  | [], n, m, o => by simp [delL]
  | (k, u) :: r, n, m, o => by
    unfold delL
    by_cases q : n = k
    · subst q
      rw [if_pos rfl, mem_delL, List.mem_cons]
      constructor
      · rintro ⟨h1, h2⟩; exact ⟨h1, .inr h2⟩
      · rintro ⟨h1, h2 | h2⟩
        · cases h2; exact absurd rfl h1
        · exact ⟨h1, h2⟩
    · rw [if_neg q, List.mem_cons, mem_delL, List.mem_cons]
      constructor
      · rintro (h | ⟨h1, h2⟩)
        · cases h; exact ⟨fun z => q z.symm, .inl rfl⟩
        · exact ⟨h1, .inr h2⟩
      · rintro ⟨h1, h2 | h2⟩
        · exact .inl h2
        · exact .inr ⟨h1, h2⟩
theorem names_delL {n m : Nat} : m ∈ names (delL n L) ↔ m ≠ n ∧ m ∈ names L := by
  constructor
  · intro h
    obtain ⟨⟨a, o⟩, h1, h2⟩ := List.mem_map.mp h
    have h2 : a = m := h2
    subst h2
    obtain ⟨h3, h4⟩ := mem_delL.mp h1
    exact ⟨h3, mem_names h4⟩
  · rintro ⟨h1, h2⟩
    obtain ⟨⟨a, o⟩, h3, h4⟩ := List.mem_map.mp h2
    have h4 : a = m := h4
    subst h4
    exact mem_names (mem_delL.mpr ⟨h1, h3⟩)
theorem names_frS {n : Nat} {d : D} : names ((delL n L).map fun p => (p.1, frO n d p.2)) = names (delL n L) := by simp [names]
theorem nodup_delL {n : Nat} (h : (names L).Nodup) : (names (delL n L)).Nodup := by
  refine h.sublist (List.Sublist.map _ ?_)
  induction L with
  | nil => exact .slnil
  | cons p r ih =>
    obtain ⟨m, o⟩ := p
    have ih' := ih (List.nodup_cons.mp h).2
    unfold delL
    split
    · exact .cons _ ih'
    · exact .cons₂ _ ih'
theorem CRel.freeze {n : Nat} {d : D} (hF : Same F F') (hd : Rep K mg F' d (.ref (α n))) : ∀ {c : Ce} {v : V}, CRel K mg F α L c v → CRel K mg F' α ((delL n L).map fun p => (p.1, frO n d p.2)) (frC n d c) v
  | .fr e, v, h => Rep.mono hF h
  | .ad m, v, ⟨h1, h2⟩ => by
    subst h2
    show CRel K mg F' α _ (if n = m then .fr d else .ad m) _
    by_cases q : n = m
    · subst q; rw [if_pos rfl]; exact hd
    · rw [if_neg q]
      exact ⟨by rw [names_frS]; exact names_delL.mpr ⟨fun z => q z.symm, h1⟩, rfl⟩
  | .xv _, _, h => h
theorem CRels.freeze {n : Nat} {d : D} (hF : Same F F') (hd : Rep K mg F' d (.ref (α n))) : ∀ {c : List Ce} {v : List V}, CRels K mg F α L c v → CRels K mg F' α ((delL n L).map fun p => (p.1, frO n d p.2)) (c.map (frC n d)) v
  | _, _, .nil => .nil
  | _, _, .cons h r => .cons (h.freeze hF hd) (r.freeze hF hd)
theorem CRelF.freeze {n : Nat} {d : D} (hF : Same F F') (hd : Rep K mg F' d (.ref (α n))) : ∀ {c : List (Str × Ce)} {v : List (Str × V)}, CRelF K mg F α L c v → CRelF K mg F' α ((delL n L).map fun p => (p.1, frO n d p.2)) (c.map fun p => (p.1, frC n d p.2)) v
  | _, _, .nil => .nil
  | _, _, .cons h r => .cons (h.freeze hF hd) (r.freeze hF hd)
theorem CRelK.freeze {κ : Type} {n : Nat} {d : D} (hF : Same F F') (hd : Rep K mg F' d (.ref (α n))) : ∀ {c : List (κ × Ce)} {v : List (κ × V)}, CRelK K mg F α L c v → CRelK K mg F' α ((delL n L).map fun p => (p.1, frO n d p.2)) (c.map fun p => (p.1, frC n d p.2)) v
  | _, _, .nil => .nil
  | _, _, .cons h r => .cons (h.freeze hF hd) (r.freeze hF hd)
theorem SlR.freeze {n : Nat} {d : D} (hF : Same F F') (hd : Rep K mg F' d (.ref (α n))) : ∀ {c : List (Option Ce)} {v : L2.St}, SlR K mg F α L c v → SlR K mg F' α ((delL n L).map fun p => (p.1, frO n d p.2)) (c.map (Option.map (frC n d))) v
  | _, _, .nil => .nil
  | _, _, .no r => .no (r.freeze hF hd)
  | _, _, .so h r => .so (h.freeze hF hd) (r.freeze hF hd)
/-- a live list whose items are frozen is frozen -/
theorem Rel.freeze (R : Rel K mg B F α H σ S) {n : Nat} {ds : List D} (hn : getL n S.L = some (.fl ds)) :
    ∃ F', Rel K mg B F' α H σ (frS n (.lst ds) S) ∧ Stp F α S.L F' α ∧ Rep K mg F' (.lst ds) (.ref (α n)) ∧ ∀ c v, CRel K mg F α S.L c v → CRel K mg F' α (frS n (.lst ds) S).L (frC n (.lst ds) c) v := by
  obtain ⟨f0, f1, vs, e, r⟩ := R.live n _ (getL_mem hn)
  have hF : Same F (upd F (α n) (.lst vs)) := same_upd f0
  have hd : Rep K mg (upd F (α n) (.lst vs)) (.lst ds) (.ref (α n)) := .lst (SqL.of upd_same) (r.mono hF)
  refine ⟨upd F (α n) (.lst vs), ⟨fun b u q => ?_, R.bF.trans hF, fun b u q => ?_, R.frame, ?_, fun a b ha hb => ?_, fun m o hm => ?_, R.slots.freeze hF hd, fun m a e hm => R.fix m a e (names_delL.mp (by rw [← names_frS]; exact hm)).2⟩, ⟨hF, fun _ _ => rfl⟩, hd, fun c v h => h.freeze hF hd⟩
  · by_cases z : b = α n
    · subst z; rw [upd_same] at q; rw [e]; exact q
    · rw [upd_ne z] at q; exact R.sub b u q
  · by_cases z : b = α n
    · subst z; exact .inr f1
    · rw [upd_ne z] at q; exact R.nF b u q
  · show (names ((delL n S.L).map fun p => (p.1, frO n (.lst ds) p.2))).Nodup
    rw [names_frS]; exact nodup_delL R.nd
  · have ha : a ∈ names ((delL n S.L).map fun p => (p.1, frO n (.lst ds) p.2)) := ha
    have hb : b ∈ names ((delL n S.L).map fun p => (p.1, frO n (.lst ds) p.2)) := hb
    rw [names_frS] at ha hb
    exact R.inj a b (names_delL.mp ha).2 (names_delL.mp hb).2
  · obtain ⟨⟨m', o'⟩, h1, h2⟩ := List.mem_map.mp hm
    cases h2
    obtain ⟨h3, h4⟩ := mem_delL.mp h1
    obtain ⟨g0, g1, g2⟩ := R.live m' o' h4
    have ne : α m' ≠ α n := fun q => h3 (R.inj _ _ (mem_names h4) (mem_names (getL_mem hn)) q)
    refine ⟨(upd_ne ne).trans g0, g1, ?_⟩
    cases o' with
    | fl ds' => obtain ⟨us, e1, r1⟩ := g2; exact ⟨us, e1, r1.mono hF⟩
    | cl cs => obtain ⟨us, e1, r1⟩ := g2; exact ⟨us, e1, r1.freeze hF hd⟩
    | ins c fs =>
      obtain ⟨C, dx, us, m1, e1, e2, e3, e4, r1⟩ := g2
      exact ⟨C, dx, us, m1, e1, e2, by rw [upd_ne (fun q => by rw [q, e] at e2; cases e2)]; exact e3, e4, r1.freeze hF hd⟩
    | dT kvs => obtain ⟨us, e1, r1⟩ := g2; exact ⟨us, e1, Paired.imp (fun _ _ z => ⟨z.1, z.2.mono hF⟩) r1⟩
    | dK kvs => obtain ⟨us, e1, r1⟩ := g2; exact ⟨us, e1, r1.freeze hF hd⟩
/-- an object's cells speak of L alone -/
theorem CRel.res : ∀ {c : Ce} {v v1 : V} {F1 : Hp} {α1 : Nat → Addr} {mg1 : Mg}, CRel K mg F α L' c v → CRel K mg1 F1 α1 L c v1 → CRel K mg F α L c v
  | .fr _, _, _, _, _, _, h, _ => h
  | .ad n, _, _, _, _, _, ⟨_, h2⟩, ⟨h3, _⟩ => ⟨h3, h2⟩
  | .xv _, _, _, _, _, _, h, _ => h
theorem CRels.res : ∀ {c : List Ce} {v v1 : List V} {F1 : Hp} {α1 : Nat → Addr}, CRels K mg F α L' c v → CRels K mg F1 α1 L c v1 → CRels K mg F α L c v
  | _, _, _, _, _, .nil, .nil => .nil
  | _, _, _, _, _, .cons h r, .cons h' r' => .cons (h.res h') (r.res r')
theorem CRelF.res : ∀ {c : List (Str × Ce)} {v v1 : List (Str × V)} {F1 : Hp} {α1 : Nat → Addr}, CRelF K mg F α L' c v → CRelF K mg F1 α1 L c v1 → CRelF K mg F α L c v
  | _, _, _, _, _, .nil, .nil => .nil
  | _, _, _, _, _, .cons h r, .cons h' r' => .cons (h.res h') (r.res r')
theorem CRelK.res {κ : Type} : ∀ {c : List (κ × Ce)} {v v1 : List (κ × V)} {F1 : Hp} {α1 : Nat → Addr}, CRelK K mg F α L' c v → CRelK K mg F1 α1 L c v1 → CRelK K mg F α L c v
  | _, _, _, _, _, .nil, .nil => .nil
  | _, _, _, _, _, .cons h r, .cons h' r' => .cons (h.res h') (r.res r')
theorem LAt.res {a a1 : Addr} {o : LO} {F1 H1 : Hp} {α1 : Nat → Addr} (h : LAt K mg B F α L' H a o) (h1 : LAt K mg B F1 α1 L H1 a1 o) : LAt K mg B F α L H a o := by
  cases o with
  | fl ds => exact h
  | cl cs => obtain ⟨us, e1, r1⟩ := h; obtain ⟨_, _, q⟩ := h1; exact ⟨us, e1, r1.res q⟩
  | ins c fs => obtain ⟨C, dx, us, m1, e1, e2, e3, e4, r1⟩ := h; obtain ⟨_, _, _, _, _, _, _, _, q⟩ := h1; exact ⟨C, dx, us, m1, e1, e2, e3, e4, r1.res q⟩
  | dT kvs => exact h
  | dK kvs => obtain ⟨us, e1, r1⟩ := h; obtain ⟨_, _, q⟩ := h1; exact ⟨us, e1, r1.res q⟩
theorem LAt.frz {a p : Addr} {o : LO} {vs : List V} (f0 : F p = none) (e : H p = some (.lst vs)) (h : LAt K mg B F α L H a o) : LAt K mg B (upd F p (.lst vs)) α L H a o := by
  have hF : Same F (upd F p (.lst vs)) := same_upd f0
  have st : Stp F α L (upd F p (.lst vs)) α := ⟨hF, fun _ _ => rfl⟩
  cases o with
  | fl ds => obtain ⟨us, e1, r1⟩ := h; exact ⟨us, e1, r1.mono hF⟩
  | cl cs => obtain ⟨us, e1, r1⟩ := h; exact ⟨us, e1, r1.step st fun _ z => z⟩
  | ins c fs =>
    obtain ⟨C, dx, us, m1, e1, e2, e3, e4, r1⟩ := h
    exact ⟨C, dx, us, m1, e1, e2, by rw [upd_ne (fun q => by rw [q, e] at e2; cases e2)]; exact e3, e4, r1.step st fun _ z => z⟩
  | dT kvs => obtain ⟨us, e1, r1⟩ := h; exact ⟨us, e1, Paired.imp (fun _ _ z => ⟨z.1, z.2.mono hF⟩) r1⟩
  | dK kvs => obtain ⟨us, e1, r1⟩ := h; exact ⟨us, e1, r1.step st fun _ z => z⟩
/-- the last live list is frozen, the rest is as it was -/
theorem Rel.close {F1 H1 : Hp} {α1 : Nat → Addr} {σ1 : L2.St} {ρ ρ1 : List (Option Ce)} {n : Nat} {ds : List D} (R1 : Rel K mg B F1 α1 H1 σ1 ⟨ρ1, L⟩) (R : Rel K mg B F α H σ ⟨ρ, L ++ [(n, .fl ds)]⟩) (st : Stp F1 α1 L F α) (hn : n ∉ names L) :
    ∃ F', Rel K mg B F' α H σ1 ⟨ρ1, L⟩ ∧ Stp F1 α1 L F' α ∧ Rep K mg F' (.lst ds) (.ref (α n)) := by
  obtain ⟨f0, f1, vs, e, r⟩ := R.live n (.fl ds) (List.mem_append_right _ (List.mem_singleton.mpr rfl))
  have hF : Same F (upd F (α n) (.lst vs)) := same_upd f0
  have hd : Rep K mg (upd F (α n) (.lst vs)) (.lst ds) (.ref (α n)) := .lst (SqL.of upd_same) (r.mono hF)
  have st2 : Stp F1 α1 L (upd F (α n) (.lst vs)) α := ⟨st.fro.trans hF, st.nm⟩
  have nn : ∀ m, m ∈ names L → m ∈ names (L ++ [(n, LO.fl ds)]) := fun m h => Sub.app m h
  refine ⟨upd F (α n) (.lst vs), ⟨fun b u q => ?_, R.bF.trans hF, fun b u q => ?_, R.frame, R1.nd, fun a b ha hb => R.inj a b (nn a ha) (nn b hb), fun m o hm => ?_, R1.slots.step st2 fun _ z => z, fun m a e hm => R.fix m a e (nn m hm)⟩, st2, hd⟩
  · by_cases z : b = α n
    · subst z; rw [upd_same] at q; rw [e]; exact q
    · rw [upd_ne z] at q; exact R.sub b u q
  · by_cases z : b = α n
    · subst z; exact .inr f1
    · rw [upd_ne z] at q; exact R.nF b u q
  · have hm' : (m, o) ∈ L := hm
    obtain ⟨g0, g1, g2⟩ := R.live m o (List.mem_append_left _ hm')
    have ne : α m ≠ α n := fun q => hn (by rw [← R.inj _ _ (nn m (mem_names hm')) (by rw [names_append]; exact List.mem_append_right _ (List.mem_singleton.mpr rfl)) q]; exact mem_names hm')
    refine ⟨by rw [upd_ne ne]; exact g0, g1, ?_⟩
    have g3 : LAt K mg B (upd F (α n) (.lst vs)) α (L ++ [(n, .fl ds)]) H (α m) o := g2.frz f0 e
    exact g3.res (R1.live m o hm').2.2
end
end Nz
namespace Nz
open PySem PySem.Spec PyProof.Rows L2
def EgC (X : Cx) (B : Bd) (tg : Expr) (c : Ce) (S S2 : Nz.S) (vs : List Nat) : Prop :=
  ∀ F α H σ v Q, RelX X B F α H σ S → CR X F α S.L c v → (∀ σ' F' H', RelX X B F' α H' σ' S2 → Same F F' → wipe σ' vs = wipe σ vs → Q σ' H') → wG X tg v σ H Q
theorem wipe_set : ∀ {vs : List Nat} {σ : L2.St} {i : Nat} {x : Option V}, i ∈ vs → wipe (σ.set i x) vs = wipe σ vs
  | v :: vs, σ, i, x, h => by
    show (wipe (σ.set i x) vs).set v none = (wipe σ vs).set v none
    by_cases hi : i ∈ vs
    · rw [wipe_set hi]
    · have e : v = i := by
        rcases List.mem_cons.mp h with h | h
        · exact h.symm
        · exact absurd h hi
      subst e
      clear h
      have key : ∀ (vs : List Nat) (σ : L2.St), v ∉ vs → wipe (σ.set v x) vs = (wipe σ vs).set v x := by
        intro vs
        induction vs with
        | nil => intro σ _; rfl
        | cons u us ih =>
          intro σ hn
          show (wipe (σ.set v x) us).set u none = ((wipe σ us).set u none).set v x
          rw [ih σ (fun z => hn (List.mem_cons_of_mem _ z)), List.set_comm _ _ (fun z => hn (by rw [z]; exact List.mem_cons_self))]
      rw [key vs σ hi, List.set_set]
theorem wipe_idem {σ : L2.St} : ∀ {vs : List Nat}, wipe (wipe σ vs) vs = wipe σ vs
  | [] => rfl
  | v :: vs => by
    show (wipe ((wipe σ vs).set v none) vs).set v none = (wipe σ vs).set v none
    by_cases h : v ∈ vs
    · rw [wipe_set h, wipe_idem]
    · have key : ∀ (ws : List Nat) (τ : L2.St), v ∉ ws → wipe (τ.set v none) ws = (wipe τ ws).set v none := by
        intro ws
        induction ws with
        | nil => intro τ _; rfl
        | cons u us ih =>
          intro τ hn
          show (wipe (τ.set v none) us).set u none = ((wipe τ us).set u none).set v none
          rw [ih τ (fun z => hn (List.mem_cons_of_mem _ z)), List.set_comm _ _ (fun z => hn (by rw [z]; exact List.mem_cons_self))]
      rw [key vs _ h, wipe_idem, List.set_set]
theorem getL_app : ∀ {L : List (Nat × LO)} {n : Nat} {o : LO}, n ∉ names L → getL n (L ++ [(n, o)]) = some o
  | [], n, o, _ => by simp [getL]
  | (m, u) :: r, n, o, h => by
    show (if n = m then some u else getL n (r ++ [(n, o)])) = _
    rw [if_neg (fun z => h (by rw [z]; exact List.mem_cons_self)), getL_app (fun z => h (List.mem_cons_of_mem _ z))]
theorem setL_app : ∀ {L : List (Nat × LO)} {n : Nat} {o u : LO}, n ∉ names L → setL n u (L ++ [(n, o)]) = L ++ [(n, u)]
  | [], n, o, u, _ => by simp [setL]
  | (m, w) :: r, n, o, u, h => by
    show (if n = m then (m, u) :: (r ++ [(n, o)]) else (m, w) :: setL n u (r ++ [(n, o)])) = _
    rw [if_neg (fun z => h (by rw [z]; exact List.mem_cons_self)), setL_app (fun z => h (List.mem_cons_of_mem _ z))]
    rfl
theorem eg_nameC {X : Cx} {B : Bd} {S : Nz.S} {vs : List Nat} (i : Nat) {x : Str} {c : Ce} {pos : Pos} (hN : X.N.Nodup) (hi : X.N[i]? = some x) (hx : Loc X.env.scope x) (hv : i ∈ vs) (hf : X.fn x = true ∨ X.env.scope.names.lookup x = some .local) : EgC X B (.Name x pos) c S (setS S i c) vs :=
  fun F α H σ v Q R r k pins s u I ru => (pg_name hN hi hx hf).run pins s σ H v u Q I ru (k _ F H (R.setS r) (Same.refl _) (wipe_set hv))
def EgsC (X : Cx) (B : Bd) (ts : List Expr) (cs : List D) (S S2 : Nz.S) (ws : List Nat) : Prop :=
  ∀ F α H σ vs (Q : L2.St → Hp → Prop), RelX X B F α H σ S → Reps X.K X.mg F cs vs → (∀ σ' F' H', RelX X B F' α H' σ' S2 → Same F F' → wipe σ' ws = wipe σ ws → Q σ' H') →
    ∀ pins s us, Inv X pins σ H s → Vals vs us → wpAny (model X.prog X.w) X.A (assignInOrder ((assignEach ts X.env).map (·.2)) us) (fun _ s' => ∃ σ' H', Inv X pins σ' H' s' ∧ Q σ' H') X.xe s
section
variable {X : Cx} {B : Bd} {S S1 S2 : Nz.S} {ws : List Nat} {e : Expr} {es : List Expr} {d : D} {pos : Pos}
theorem egs_nilC : EgsC X B [] [] S S ws := fun F α H σ vs Q R r k pins s us I ru => by
  cases r
  cases ru
  exact assignInOrder_nil ⟨σ, H, I, k σ F H R (Same.refl _) rfl⟩
theorem egs_consC {ds : List D} (h1 : EgC X B e (.fr d) S S1 ws) (h2 : EgsC X B es ds S1 S2 ws) (hL : S1.L = S.L := by rfl) (hs : (assignEach (e :: es) X.env).map (·.2) = assign e X.env :: (assignEach es X.env).map (·.2) := by rfl) : EgsC X B (e :: es) (d :: ds) S S2 ws :=
  fun F α H σ vs Q R r k pins s us I ru => by
    cases r with
    | cons r rr =>
      cases ru with
      | cons u uu =>
        rw [hs]
        refine assignInOrder_cons (thn (h1 F α H σ _ (fun σ1 H1 => ∃ F1, RelX X B F1 α H1 σ1 S1 ∧ Same F F1 ∧ wipe σ1 ws = wipe σ ws) R r (fun σ' F' H' R' s' w' => ⟨F', R', s', w'⟩) pins s _ I u) fun _ s1 ⟨σ1, H1, I1, F1, R1, sm, w1⟩ => ?_)
        exact h2 F1 α H1 σ1 _ Q R1 (rr.mono sm) (fun σ' F' H' R' s' w' => k σ' F' H' R' (sm.trans s') (w'.trans w1)) pins s1 _ I1 uu
theorem eg_tupC {ds : List D} {k1} (hc : X.calm = true) (h : EgsC X B es ds S S2 ws) (hn : (assignEach es X.env).length = ds.length := by rfl) (hst : (assignEach es X.env).findIdx? (·.1) = none := by rfl) : EgC X B (.Tuple es k1 pos) (.fr (.tup ds)) S S2 ws :=
  fun F α H σ v Q R r k pins s u I ru => by
    cases (show Rep X.K X.mg F (.tup ds) v from r) with
    | tup hq hr =>
      have hq' := R.sub.seqT hq
      cases ru
      obtain ⟨its, rv, ht, hz⟩ := I.tuple hq'
      refine assign_Tuple_tuple (I.ok.hd hc) ht (by simp [hn, hr.length, rv.length]) hst fun h' hx => ?_
      have I1 : Inv X pins σ H { s with heap := h' } := I.kept (t' := s.toks) fun b o e => hx b o (Nat.ne_of_lt (Heap.lt_size e)) e
      exact h F α H σ _ Q R hr k pins _ _ I1 (by simpa using rv)
end
def wTs (X : Cx) (ifs : List Expr) (σ : L2.St) (H : Hp) (Q : Bool → Hp → Prop) : Prop :=
  ∀ pins s, Inv X pins σ H s → wpAny (model X.prog X.w) X.A (forIn ifs true fun c r => if r = true then do let ok ← isTrue c X.env (eval c X.env); pure (ForInStep.yield ok) else pure (ForInStep.yield r)) (TP X pins σ Q) X.xe s
def Ets (X : Cx) (B : Bd) (ifs : List Expr) (S : Nz.S) (b : Bool) : Prop :=
  ∀ F α H σ Q, RelX X B F α H σ S → (∀ F' α' H', RelX X B F' α' H' σ S → Stp F α S.L F' α' → Q b H') → wTs X ifs σ H Q
theorem ets_nil {X : Cx} {B : Bd} {S : Nz.S} : Ets X B [] S true := fun F α H σ Q R k pins s I => pts_nil.run pins s σ H Q I (k F α H R Stp.refl)
def wipeC (ρ : List (Option Ce)) : List Nat → List (Option Ce)
  | [] => ρ
  | v :: vs => (wipeC ρ vs).set v none
theorem SlR.setN {K : Frag} {mg : Mg} {F : Hp} {α : Nat → Addr} {L : List (Nat × LO)} : ∀ {c : List (Option Ce)} {σ : L2.St} (i : Nat) {o : Option V}, SlR K mg F α L c σ → SlR K mg F α L (c.set i none) (σ.set i o)
  | _, _, _, _, .nil => .nil
  | _, _, 0, _, .no r => .no r
  | _, _, 0, _, .so _ r => .no r
  | _, _, i + 1, _, .no r => .no (r.setN i)
  | _, _, i + 1, _, .so q r => .so q (r.setN i)
theorem SlR.wipe {K : Frag} {mg : Mg} {F : Hp} {α : Nat → Addr} {L : List (Nat × LO)} {c : List (Option Ce)} {σ : L2.St} (h : SlR K mg F α L c σ) : ∀ vs : List Nat, SlR K mg F α L (wipeC c vs) (L2.wipe σ vs)
  | [] => h
  | v :: vs => (h.wipe vs).setN v
/-- the context of a comprehension's block -/
abbrev Blk (X : Cx) (scope : Scope) (s : Shared) (H : Hp) (C : Addr) (cl : List (Str × Addr)) (fp : List Addr) : Cx := X.blk s H scope (compEnvC scope cl C X.env) fp
section
variable {X : Cx} {B : Bd} {S S1 : Nz.S} {elt tg iter : Expr} {ifs : List Expr} {scope : Scope} {own : List (Str × Nat)} {pos : Pos}
/-- [elt for tg in iter if ..] of data -/
theorem lc_reading {τ : Type} (nD : Nat) {ys : List τ} {enc : τ → D} (f : τ → D) (p : τ → Bool) (Sx : Nat → τ → List D → Nz.S)
    (hsrc : Src X B tg iter S (ys.map enc) S1) (hn : nD ∉ names S1.L) (h100 : 100 ≤ nD) (hz : ys.length ≤ sizeLine) (hL : ∀ i y acc, (Sx i y acc).L = S1.L ++ [(nD, .fl acc)])
    (hg : ∀ i y acc, ys[i]? = some y → ∀ s H0 C cl fp, EgC (Blk X scope s H0 C cl fp) B tg (.fr (enc y)) ⟨wipeC S1.ρ (own.map (·.2)), S1.L ++ [(nD, .fl acc)]⟩ (Sx i y acc) (own.map (·.2)))
    (ht : ∀ i y acc, ys[i]? = some y → ∀ s H0 C cl fp, Ets (Blk X scope s H0 C cl fp) B ifs (Sx i y acc) (p y))
    (he : ∀ i y acc, ys[i]? = some y → p y = true → ∀ s H0 C cl fp, Ev (Blk X scope s H0 C cl fp) B elt (Sx i y acc) (.fr (f y)) (Sx i y acc))
    (F : Hp) (α : Nat → Addr) (H : Hp) (σ : L2.St) (Q : VK) (R : RelX X B F α H σ S) (hS : Sub S.L S1.L)
    (k : ∀ F' α' v H', RelX X B F' α' H' σ S1 → Stp F α S.L F' α' → Rep X.K X.mg F' (.lst ((ys.filter p).map f)) v → Q v H') :
    tLc (wI X tg iter) (fun v σ H Q => ∀ s H0 C cl fp, wG (Blk X scope s H0 C cl fp) tg v σ H Q) (fun σ H Q => ∀ s H0 C cl fp, wTs (Blk X scope s H0 C cl fp) ifs σ H Q) (fun σ H Q => ∀ s H0 C cl fp, wE (Blk X scope s H0 C cl fp) elt σ H Q) (own.map (·.2)) σ H Q := by
  refine hsrc F α H σ _ R fun F1 α1 H1 J R1 st1 j => ?_
  intro D hD
  have Rn := R1.allocL (n := nD) (u := .fl []) (o := .lst []) hD hn h100 ⟨[], upd_same, .nil⟩
  have stn : Stp F1 α1 S1.L F1 (setα α1 nD D) := stp_setα hn
  have eD : setα α1 nD D nD = D := by unfold setα; rw [if_pos rfl]
  -- the state at turn i
  let W : Nat → Hp → Prop := fun i H => ∃ F' α', RelX X B F' α' H (L2.wipe σ (own.map (·.2))) ⟨wipeC S1.ρ (own.map (·.2)), S1.L ++ [(nD, .fl (((ys.take i).filter p).map f))]⟩ ∧ Stp F1 (setα α1 nD D) (S1.L ++ [(nD, .fl [])]) F' α'
  have w0 : W 0 (upd H1 D (.lst [])) := ⟨F1, setα α1 nD D, ⟨Rn.sub, Rn.bF, Rn.nF, Rn.frame, Rn.nd, Rn.inj, Rn.live, Rn.slots.wipe _, Rn.fix⟩, Stp.refl⟩
  refine ⟨fun i m H => m = ys.length - i ∧ i ≤ ys.length ∧ W i H, ⟨ys.length, by simp, Nat.zero_le _, w0⟩, ?_⟩
  rintro i m H' ⟨rfl, hi, F', α', R', st'⟩
  have sm : Same F1 F' := st'.fro
  have nmD : α' nD = D := by rw [st'.nm nD (by rw [names_append]; exact List.mem_append_right _ (List.mem_singleton.mpr rfl)), eD]
  by_cases hlt : i < ys.length
  · obtain ⟨y, hy⟩ : ∃ y, ys[i]? = some y := ⟨ys[i], by simp [hlt]⟩
    obtain ⟨g, yl⟩ := j.go B F' α' H' _ _ i (enc y) R' sm (by rw [List.getElem?_map, hy]; rfl)
    have tk : (ys.take (i + 1)) = ys.take i ++ [y] := by rw [List.take_succ, hy]; rfl
    refine .inr ⟨g, W (i + 1), fun H2 w2 => ⟨ys.length - (i + 1), by omega, rfl, hlt, w2⟩, fun x H2 yy => ?_⟩
    obtain ⟨F2, R2, s2, r2⟩ := yl x H2 yy
    intro sA HA CA clA fpA
    refine hg i y (((ys.take i).filter p).map f) hy sA HA CA clA fpA F2 α' H2 _ x _ R2 r2 fun σ3 F3 H3 R3 s3 w3 => ⟨w3.trans wipe_idem, ?_⟩
    intro sB HB CB clB fpB
    refine ht i y (((ys.take i).filter p).map f) hy sB HB CB clB fpB F3 α' H3 σ3 _ R3 fun F4 α4 H4 R4 st4 => ?_
    have hLL := hL i y (((ys.take i).filter p).map f)
    have full : ∀ {F5 : Hp} {α5 : Nat → Addr} {acc : List Nz.D}, Same F' F5 → (∀ n, n ∈ names (S1.L ++ [(nD, LO.fl (((ys.take i).filter p).map f))]) → α5 n = α' n) → Stp F1 (setα α1 nD D) (S1.L ++ [(nD, .fl [])]) F5 α5 := fun {F5 α5 acc} h1 h2 =>
      ⟨sm.trans h1, fun n hn' => by
        rw [h2 n (by rw [names_append] at hn' ⊢; exact hn'), st'.nm n hn']⟩
    have back : ∀ {F5 : Hp} {α5 : Nat → Addr} {H5 : Hp} {acc : List Nz.D}, RelX X B F5 α5 H5 σ3 ⟨(Sx i y (((ys.take i).filter p).map f)).ρ, S1.L ++ [(nD, .fl acc)]⟩ → SlR X.K X.mg F5 α5 (S1.L ++ [(nD, .fl acc)]) (wipeC S1.ρ (own.map (·.2))) (L2.wipe σ (own.map (·.2))) →
        RelX X B F5 α5 H5 (L2.wipe σ (own.map (·.2))) ⟨wipeC S1.ρ (own.map (·.2)), S1.L ++ [(nD, .fl acc)]⟩ := fun {F5 α5 H5 acc} Rr sl => ⟨Rr.sub, Rr.bF, Rr.nF, Rr.frame, Rr.nd, Rr.inj, Rr.live, sl, Rr.fix⟩
    have sl0 : SlR X.K X.mg F' α' (S1.L ++ [(nD, .fl (((ys.take i).filter p).map f))]) (wipeC S1.ρ (own.map (·.2))) (L2.wipe σ (own.map (·.2))) := R'.slots
    have st4' : Stp F' α' (S1.L ++ [(nD, .fl (((ys.take i).filter p).map f))]) F4 α4 := ⟨s2.trans (s3.trans st4.fro), fun n hn' => st4.nm n (by rw [hLL]; exact hn')⟩
    cases hp : p y with
    | false =>
      rw [if_neg Bool.false_ne_true]
      have e2 : ((ys.take (i + 1)).filter p).map f = ((ys.take i).filter p).map f := by rw [tk, List.filter_append]; simp [hp]
      refine ⟨F4, α4, ?_, full (acc := []) st4'.fro st4'.nm⟩
      rw [e2]
      have R4' : RelX X B F4 α4 H4 σ3 ⟨(Sx i y (((ys.take i).filter p).map f)).ρ, S1.L ++ [(nD, .fl (((ys.take i).filter p).map f))]⟩ := by rw [← hLL]; exact R4
      exact back R4' (sl0.step st4' fun _ z => z)
    | true =>
      rw [if_pos rfl]
      intro sC HC CC clC fpC
      refine he i y (((ys.take i).filter p).map f) hy hp sC HC CC clC fpC F4 α4 H4 σ3 _ R4 fun F5 α5 v5 H5 R5 st5 r5 => ?_
      have st5' : Stp F' α' (S1.L ++ [(nD, .fl (((ys.take i).filter p).map f))]) F5 α5 := st4'.trans ⟨st5.fro, fun n hn' => st5.nm n (by rw [hLL]; exact hn')⟩ fun _ z => z
      have R5' : RelX X B F5 α5 H5 σ3 ⟨(Sx i y (((ys.take i).filter p).map f)).ρ, S1.L ++ [(nD, .fl (((ys.take i).filter p).map f))]⟩ := by rw [← hLL]; exact R5
      obtain ⟨q0, q1, vs5, e5, rs5⟩ := R5'.live nD _ (List.mem_append_right _ (List.mem_singleton.mpr rfl))
      have nm5 : α5 nD = D := by rw [st5'.nm nD (by rw [names_append]; exact List.mem_append_right _ (List.mem_singleton.mpr rfl)), nmD]
      have gl := getL_app (o := .fl (((ys.take i).filter p).map f)) hn
      have sl : ∀ (acc : List Nz.D), setL nD (.fl acc) (S1.L ++ [(nD, LO.fl (((ys.take i).filter p).map f))]) = S1.L ++ [(nD, .fl acc)] := fun acc => setL_app hn
      rw [nm5] at e5
      have e2 : ((ys.take (i + 1)).filter p).map f = ((ys.take i).filter p).map f ++ [f y] := by rw [tk, List.filter_append, List.map_append]; simp [hp]
      have lenv : vs5.length < sizeLine := by
        rw [← rs5.length, List.length_map]
        have := List.length_filter_le p (ys.take i)
        rw [List.length_take] at this
        omega
      refine ⟨vs5, e5, lenv, F5, α5, ?_, full (acc := []) st5'.fro st5'.nm⟩
      have Rp := R5'.put (n := nD) (u := .fl (((ys.take i).filter p).map f ++ [f y])) (o' := .lst (vs5 ++ [v5])) (getL_mem gl) ⟨vs5 ++ [v5], upd_same, rs5.append (.cons r5 .nil)⟩
      rw [nm5] at Rp
      rw [e2]
      have Rp' : RelX X B F5 α5 (upd H5 D (.lst (vs5 ++ [v5]))) σ3 ⟨(Sx i y (((ys.take i).filter p).map f)).ρ, S1.L ++ [(nD, .fl (((ys.take i).filter p).map f ++ [f y]))]⟩ := by rw [← sl]; exact Rp
      refine back Rp' (sl0.step (L' := S1.L ++ [(nD, .fl (((ys.take i).filter p).map f ++ [f y]))]) st5' fun n hn' => by rw [names_append] at hn' ⊢; exact hn')
  · have e1 : i = ys.length := by omega
    subst e1
    refine .inl ⟨j.stop B F' α' H' _ _ _ R' sm (by rw [List.length_map]; exact Nat.le_refl _), ?_⟩
    rw [List.take_length] at R'
    have stA : Stp F1 α1 S1.L F' α' := stn.trans ⟨st'.fro, fun n hn' => st'.nm n (Sub.app n hn')⟩ fun _ z => z
    obtain ⟨F6, R6, st6, r6⟩ := Rel.close (L := S1.L) R1 R' stA hn
    rw [nmD] at r6
    exact k F6 α' (.ref D) H' R6 (st1.trans st6 hS) r6
section
variable {τ : Type} {ys : List τ} {enc : τ → D}
theorem ev_lc (nD : Nat) (ys : List τ) (enc : τ → D) (f : τ → D) (p : τ → Bool) (Sx : Nat → τ → List D → Nz.S) (hc : X.calm = true) (hN : X.N.Nodup) (ok : BlkOk X.N X.env.scope scope own)
    (hsrc : Src X B tg iter S (ys.map enc) S1) (hn : nD ∉ names S1.L) (h100 : 100 ≤ nD) (hz : ys.length ≤ sizeLine) (hL : ∀ i y acc, (Sx i y acc).L = S1.L ++ [(nD, .fl acc)])
    (hg : ∀ i y acc, ys[i]? = some y → ∀ s H0 C cl fp, EgC (Blk X scope s H0 C cl fp) B tg (.fr (enc y)) ⟨wipeC S1.ρ (own.map (·.2)), S1.L ++ [(nD, .fl acc)]⟩ (Sx i y acc) (own.map (·.2)))
    (ht : ∀ i y acc, ys[i]? = some y → ∀ s H0 C cl fp, Ets (Blk X scope s H0 C cl fp) B ifs (Sx i y acc) (p y))
    (he : ∀ i y acc, ys[i]? = some y → p y = true → ∀ s H0 C cl fp, Ev (Blk X scope s H0 C cl fp) B elt (Sx i y acc) (.fr (f y)) (Sx i y acc)) (hS : Sub S.L S1.L := by exact Sub.refl) (hs : ∀ x, foldedSetIterable iter X.env x = pure x := by intro _; rfl) :
    Ev X B (.ListComp elt [⟨tg, iter, ifs, 0⟩] scope pos) S (.fr (.lst ((ys.filter p).map f))) S1 :=
  fun F α H σ Q R k => wE.of (pe_lc hc hN pi_w ok (fun s H0 C cl fp => ⟨fun pins s1 σ1 H1 v u Q1 I r h => h s H0 C cl fp pins s1 u I r⟩) (fun s H0 C cl fp => ⟨fun pins s1 σ1 H1 Q1 I h => h s H0 C cl fp pins s1 I⟩) (fun s H0 C cl fp => ⟨fun pins s1 σ1 H1 Q1 I h => h s H0 C cl fp pins s1 I⟩) hs)
    (lc_reading nD f p Sx hsrc hn h100 hz hL hg ht he F α H σ Q R hS k)
theorem ex_setLc (i : Nat) {y : Str} {py spos : Pos} {K : Out → Prop} (nD : Nat) (ys : List τ) (enc : τ → D) (f : τ → D) (p : τ → Bool) (Sx : Nat → τ → List D → Nz.S) (hc : X.calm = true) (hN : X.N.Nodup) (hy : X.N[i]? = some y) (hyl : X.env.scope.names.lookup y = some .local)
    (hsw : swapsWith (.ListComp elt [⟨tg, iter, ifs, 0⟩] scope pos) (some (.Name y py)) spos.line X.env = pure true) (ok : BlkOk X.N X.env.scope scope own)
    (hsrc : Src X B tg iter S (ys.map enc) S1) (hn : nD ∉ names S1.L) (h100 : 100 ≤ nD) (hz : ys.length ≤ sizeLine) (hL : ∀ i y acc, (Sx i y acc).L = S1.L ++ [(nD, .fl acc)])
    (hg : ∀ i y acc, ys[i]? = some y → ∀ s H0 C cl fp, EgC (Blk X scope s H0 C cl fp) B tg (.fr (enc y)) ⟨wipeC S1.ρ (own.map (·.2)), S1.L ++ [(nD, .fl acc)]⟩ (Sx i y acc) (own.map (·.2)))
    (ht : ∀ i y acc, ys[i]? = some y → ∀ s H0 C cl fp, Ets (Blk X scope s H0 C cl fp) B ifs (Sx i y acc) (p y))
    (he : ∀ i y acc, ys[i]? = some y → p y = true → ∀ s H0 C cl fp, Ev (Blk X scope s H0 C cl fp) B elt (Sx i y acc) (.fr (f y)) (Sx i y acc))
    (k : K (.nx (setS S1 i (.fr (.lst ((ys.filter p).map f)))))) (hS : Sub S.L S1.L := by exact Sub.refl) (hs : ∀ x, foldedSetIterable iter X.env x = pure x := by intro _; rfl) :
    Ex X B (.Assign [.Name y py] (.ListComp elt [⟨tg, iter, ifs, 0⟩] scope pos) spos) S K :=
  fun F α H σ D R o => wS.of (ps_setLc hc hN hy hyl hsw pi_w ok (fun s H0 C cl fp => ⟨fun pins s1 σ1 H1 v u Q1 I r h => h s H0 C cl fp pins s1 u I r⟩) (fun s H0 C cl fp => ⟨fun pins s1 σ1 H1 Q1 I h => h s H0 C cl fp pins s1 I⟩) (fun s H0 C cl fp => ⟨fun pins s1 σ1 H1 Q1 I h => h s H0 C cl fp pins s1 I⟩) hs)
    (lc_reading nD f p Sx hsrc hn h100 hz hL hg ht he F α H σ _ R hS fun F' α' v H' R' st r => o.nx _ F' α' H' _ k (R'.setS r) st.fro)
end
end
def Cb (X : Cx) (f : Value) (ds : List D) (d : D) : Prop :=
  ∀ B F α H σ (S : Nz.S) (Q : VK) xs, RelX X B F α H σ S → Reps X.K X.mg F ds xs → (∀ F' α' v H', RelX X B F' α' H' σ S → Stp F α S.L F' α' → Rep X.K X.mg F' d v → Q v H') →
    ∀ pins s us, Inv X pins σ H s → Vals xs us → wpAny (model X.prog X.w) X.A (call f us) (EP X pins σ Q) X.xe s
theorem Cb.of {X : Cx} {f : Value} {ds : List D} {d : D} {r : List V → Hp → VK → Prop} (h : CallR X f r)
    (hr : ∀ B F α H σ (S : Nz.S) (Q : VK) xs, RelX X B F α H σ S → Reps X.K X.mg F ds xs → (∀ F' α' v H', RelX X B F' α' H' σ S → Stp F α S.L F' α' → Rep X.K X.mg F' d v → Q v H') → r xs H Q) : Cb X f ds d :=
  fun B F α H σ S Q xs R rx k pins s us I rv => h pins s σ H xs us Q I rv (hr B F α H σ S Q xs R rx k)
section
variable {X : Cx} {B : Bd} {S S1 : Nz.S} {a e : Expr} {es : List Expr} {pos p : Pos} {x : Str} {ds : List D} {d : D} {id T : String}
theorem ev_callB (hc : Cb X (.builtin id) ds d) (ha : Ea X B (e :: es) S (ds.map Ce.fr) S1) (hg : Gl X x) (hm : X.mg x = none) (hv : bootBuiltins x = some (.builtin id)) (h1 : Sub S.L S1.L := by exact Sub.refl) (hn : x ≠ "__name__" := by decide) (hdb : (x == ("__debug__" : Str)) = false := by decide)
    (he : starEach (e :: es) X.env = (false, eval e X.env) :: starEach es X.env := by rfl) (hpl : (backTo pos (starEach es X.env)).any (·.1) = false := by rfl) : Ev X B (.Call (.Name x p) (e :: es) [] pos) S (.fr d) S1 :=
  fun F α H σ Q R k pins s I => wpAny_Call_Name_kw (ld_blt I hg hm hv (PyProof.Rows.callWith_builtin1 (thn (ha F α H σ (fun vs H1 => ∃ F1 α1, RelX X B F1 α1 H1 σ S1 ∧ Stp F α S.L F1 α1 ∧ Reps X.K X.mg F1 ds vs) R
    (fun F1 α1 vs H1 R1 st1 r1 => ⟨F1, α1, R1, st1, r1.fr⟩) pos pins s I) fun us s1 ⟨vs, H1, I1, rv, F1, α1, R1, st1, r1⟩ =>
      hc B F1 α1 H1 σ S1 Q vs R1 r1 (fun F' α' v H' R' st' r' => k F' α' v H' R' (st1.trans st' h1) r') pins s1 us I1 rv) he hpl) hn hdb)
theorem ev_callTy (hc : Cb X (.type T) ds d) (ha : Ea X B (e :: es) S (ds.map Ce.fr) S1) (hg : Gl X x) (hm : X.mg x = none) (hv : bootBuiltins x = some (.type T)) (h1 : Sub S.L S1.L := by exact Sub.refl) (hn : x ≠ "__name__" := by decide) (hdb : (x == ("__debug__" : Str)) = false := by decide)
    (he : starEach (e :: es) X.env = (false, eval e X.env) :: starEach es X.env := by rfl) (hpl : (backTo pos (starEach es X.env)).any (·.1) = false := by rfl) : Ev X B (.Call (.Name x p) (e :: es) [] pos) S (.fr d) S1 :=
  fun F α H σ Q R k pins s I => wpAny_Call_Name_kw (ld_blt I hg hm hv (PyProof.Rows.callWith_type1 (thn (ha F α H σ (fun vs H1 => ∃ F1 α1, RelX X B F1 α1 H1 σ S1 ∧ Stp F α S.L F1 α1 ∧ Reps X.K X.mg F1 ds vs) R
    (fun F1 α1 vs H1 R1 st1 r1 => ⟨F1, α1, R1, st1, r1.fr⟩) pos pins s I) fun us s1 ⟨vs, H1, I1, rv, F1, α1, R1, st1, r1⟩ =>
      hc B F1 α1 H1 σ S1 Q vs R1 r1 (fun F' α' v H' R' st' r' => k F' α' v H' R' (st1.trans st' h1) r') pins s1 us I1 rv) he hpl) hn hdb)
theorem c_abs {i : Int} : Cb X (.builtin "abs") [.int i] (.int (if i < 0 then -i else i)) := .of call_abs fun B F α H σ S Q xs R rx k => by
  cases rx with | cons r rr => cases rr; cases r; exact ⟨i, rfl, k F α _ H R Stp.refl (.int _)⟩
theorem c_max2 {i j : Int} (hc : X.calm = true) : Cb X (.builtin "max") [.int i, .int j] (.int (if j > i then j else i)) := .of (call_max2 hc) fun B F α H σ S Q xs R rx k => by
  cases rx with | cons r rr => cases rr with | cons r2 rr => cases rr; cases r; cases r2; exact ⟨i, j, rfl, k F α _ H R Stp.refl (.int _)⟩
theorem c_int {i : Int} : Cb X (.type "int") [.int i] (.int i) := .of call_int1 fun B F α H σ S Q xs R rx k => by
  cases rx with | cons r rr => cases rr; cases r; exact .inl ⟨i, rfl, k F α _ H R Stp.refl (.int _)⟩
theorem c_lenT {xs : List D} : Cb X (.builtin "len") [.tup xs] (.int xs.length) := .of call_len_seq fun B F α H σ S Q vs R rx k => by
  cases rx with
  | cons r rr =>
    cases rr
    obtain ⟨a, us, rfl, hq, rs⟩ := R.asT r
    exact ⟨a, us, rfl, .inr hq, by rw [← rs.length]; exact k F α _ H R Stp.refl (.int _)⟩
theorem c_lenS {z : Str} (h : z.length ≤ sizeLine) : Cb X (.builtin "len") [.str z] (.int z.length) := .of call_len_str fun B F α H σ S Q vs R rx k => by
  cases rx with | cons r rr => cases rr; cases r; exact ⟨z, rfl, h, k F α _ H R Stp.refl (.int _)⟩
theorem c_list {xs : List D} : Cb X (.type "list") [.lst xs] (.lst xs) := .of call_list_of fun B F α H σ S Q vs R rx k => by
  cases rx with
  | cons r rr =>
    cases rr
    obtain ⟨a, us, rfl, hq, rs⟩ := R.asL (c := .fr (.lst xs)) rfl r
    exact ⟨a, us, rfl, .inl hq, fun l hl => k _ α _ _ (R.allocF hl) (stp_allocF (R.fresh hl)) (.lst (SqL.of upd_same) (rs.mono (same_upd (R.fresh hl))))⟩
theorem c_tuple {xs : List D} : Cb X (.type "tuple") [.lst xs] (.tup xs) := .of call_tuple_of fun B F α H σ S Q vs R rx k => by
  cases rx with
  | cons r rr =>
    cases rr
    obtain ⟨a, us, rfl, hq, rs⟩ := R.asL (c := .fr (.lst xs)) rfl r
    exact ⟨a, us, rfl, .inl ⟨hq, fun l hl => k _ α _ _ (R.allocF hl) (stp_allocF (R.fresh hl)) (.tup (SqT.of upd_same) (rs.mono (same_upd (R.fresh hl))))⟩⟩
/-- bools -/
theorem Reps.bls_eq {K : Frag} {mg : Mg} {F : Hp} : ∀ {ns : List Bool} {vs : List V}, Reps K mg F (ns.map D.bl) vs → vs = ns.map V.bl
  | [], _, .nil => rfl
  | _ :: ns, _, .cons h r => by
    cases h
    rw [Reps.bls_eq (ns := ns) r]; rfl
theorem c_all {bs : List Bool} (hc : X.calm = true) : Cb X (.builtin "all") [.lst (bs.map D.bl)] (.bl (bs.all fun b => b)) := .of (cr_all hc) fun B F α H σ S Q vs R rx k => by
  cases rx with
  | cons r rr =>
    cases rr
    obtain ⟨a, us, rfl, hq, rs⟩ := R.asL (c := .fr (.lst (bs.map D.bl))) rfl r
    exact ⟨a, bs, rfl, by rw [← Reps.bls_eq rs]; exact hq, k F α _ H R Stp.refl (.bl _)⟩
/-- len of what lives -/
theorem ev_lenL {ca : Ce} (ha : Ev X B e S ca S1) (hl : AsL S1.L ca ds) (hg : Gl X "len") (hm : X.mg "len" = none) (hs : starEach [e] X.env = (false, eval e X.env) :: starEach [] X.env := by rfl) (hpl : (backTo pos (starEach [] X.env)).any (·.1) = false := by rfl) : Ev X B (.Call (.Name "len" p) [e] [] pos) S (.fr (.int ds.length)) S1 :=
  fun F α H σ Q R k => wE.of (pe_callB call_len_seq hg hm PySem.boot_len (pa_cons pe_w pa_nil hs) (by decide) (by decide) hs hpl) (ha F α H σ _ R fun F1 α1 v1 H1 R1 st1 r1 => by
    obtain ⟨a, us, rfl, hq, rs⟩ := R1.asL hl r1
    exact ⟨a, us, rfl, .inl hq, by rw [← rs.length]; exact k F1 α1 _ H1 R1 st1 (.int _)⟩)
def tyOf : D → Option String
  | .non => some "NoneType" | .bl _ => some "bool" | .int _ => some "int" | .str _ => some "str" | .tup _ => some "tuple" | .lst _ => some "list" | .obj _ _ => none
end
end Nz
namespace Nz
open PySem PySem.Spec PyProof.Rows L2
section
variable {X : Cx} {B : Bd} {S S1 : Nz.S} {a e : Expr} {es : List Expr} {pos p q : Pos} {x : Str} {ds : List D} {d : D}
theorem tyX_lst {K : Frag} {H : Hp} {a : Addr} {vs : List V} (h : SqL K H a vs) : TyX K H (.ref a) (.type "list") := by
  rcases h with (h | ⟨o, h⟩) | ⟨o, its, n, h1, h2, _⟩
  · exact .base (.lst h)
  · exact .base (.frz h)
  · exact .kList h1 h2
theorem tyX_tup {K : Frag} {H : Hp} {a : Addr} {vs : List V} (h : SqT K H a vs) : TyX K H (.ref a) (.type "tuple") := by
  rcases h with (h | ⟨o, h⟩) | ⟨o, its, n, h1, h2, _⟩
  · exact .base (.tup h)
  · exact .fTuple h
  · exact .kTuple h1 h2
theorem Rel.tyX {F : Hp} {α : Nat → Addr} {H : Hp} {σ : L2.St} (R : RelX X B F α H σ S) {v : V} {t : String} (r : Rep X.K X.mg F d v) (h : tyOf d = some t) : TyX X.K H v (.type t) := by
  cases r with
  | non => cases h; exact .base .non
  | bl b => cases h; exact .base (.bl b)
  | int i => cases h; exact .base (.int i)
  | str z => cases h; exact .base (.str z)
  | tup h1 h2 => cases h; exact tyX_tup (R.sub.seqT h1)
  | lst h1 h2 => cases h; exact tyX_lst (R.sub.seq h1)
  | obj m h1 h2 h3 => cases h
/-- isinstance(a, T), T a built-in class -/
theorem ev_isi {T t : String} {b : Bool} {xT : Str} {p2 : Pos} (ha : Ev X B a S (.fr d) S1) (ht : tyOf d = some t) (hk : kitB t T = some b) (hg : Gl X "isinstance") (hm : X.mg "isinstance" = none) (hgT : Gl X xT) (hmT : X.mg xT = none) (hv : bootBuiltins xT = some (.type T))
    (hv2 : bootBuiltins "isinstance" = some (.builtin "isinstance") := by decide +kernel)
    (hn : xT ≠ "__name__" := by decide) (hd : (xT == ("__debug__" : Str)) = false := by decide)
    (he : starEach (a :: [.Name xT p2]) X.env = (false, eval a X.env) :: starEach [.Name xT p2] X.env := by rfl) (he2 : starEach (.Name xT p2 :: []) X.env = (false, eval (.Name xT p2) X.env) :: starEach [] X.env := by rfl) (hpl : (backTo pos (starEach [.Name xT p2] X.env)).any (·.1) = false := by rfl) :
    Ev X B (.Call (.Name "isinstance" p) [a, .Name xT p2] [] pos) S (.fr (.bl b)) S1 :=
  fun F α H σ Q R k => wE.of (pe_callB call_isi hg hm hv2 (pa_cons pe_w (pa_cons (pe_bltn (v := .ty T) hgT hmT hv rfl hn hd) pa_nil he2) he) (by decide) (by decide) he hpl) (ha F α H σ _ R fun F1 α1 v1 H1 R1 st1 r1 => by
    exact ⟨v1, .ty T, .type t, .type T, b, rfl, .ty T, R1.tyX r1 ht, kit_ty hk, k F1 α1 _ H1 R1 st1 (.bl _)⟩)
theorem ev_append {n : Nat} {o : Expr} {apos : Pos} (ho : Ev X B o S (.ad n) S) {ds0 : List D} (ha : Ev X B e S (.fr d) S1) (hn : getL n S1.L = some (.fl ds)) (hn0 : getL n S.L = some (.fl ds0)) (hz : ds.length < sizeLine) (h1 : Sub S.L S1.L := by exact Sub.refl)
    (hbase : attributeBase o "append" X.env (eval o X.env) = eval o X.env := by rfl)
    (hfew : ((backTo pos (starEach (e :: []) X.env)).all (fun x => !x.1) && (backToKw pos (keywordEach [] X.env)).all (fun x => x.1.isSome)
      && decide ((e :: ([] : List Expr)).length + ([] : List Keyword).length + (if ([] : List Keyword).isEmpty then 0 else 1) < 30)) = true := by rfl)
    (hline : (apos.endLine == pos.line) = true := by rfl) (hs : starEach (e :: []) X.env = (false, eval e X.env) :: starEach [] X.env := by rfl) (hplain : (backTo pos (starEach [] X.env)).any (·.1) = false := by rfl) :
    Ev X B (.Call (.Attribute o "append" apos) [e] [] pos) S (.fr .non) ⟨S1.ρ, setL n (.fl (ds ++ [d])) S1.L⟩ :=
  fun F α H σ Q R k => wE.of (pe_bm PySem.F.plainAttrs_list PySem.F.slot_list_append PySem.F.type_list_append mt_append pe_w (pa_cons pe_w pa_nil hs) hbase hfew hline hs hplain) (ho F α H σ _ R fun F1 α1 v1 H1 R1 st1 r1 => by
    obtain ⟨hm, rfl⟩ := r1
    refine ⟨?_, ha F1 α1 H1 σ _ R1 fun F2 α2 v2 H2 R2 st2 r2 => ?_⟩
    · -- it is a list already
      obtain ⟨_, _, vs, e1, rs⟩ := R1.live n _ (getL_mem hn0)
      exact .inl ⟨rfl, _, SqL.of e1⟩
    · have hmm := getL_mem hn
      obtain ⟨f0, f1, vs, e1, rs⟩ := R2.live n _ hmm
      have en : α2 n = α1 n := st2.nm n hm
      refine ⟨α1 n, vs, v2, rfl, rfl, by rw [← en]; exact e1, by rw [← rs.length]; exact hz, ?_⟩
      have Rp := R2.put (n := n) (u := .fl (ds ++ [d])) (o' := .lst (vs ++ [v2])) hmm ⟨vs ++ [v2], upd_same, rs.append (.cons r2 .nil)⟩
      rw [en] at Rp
      exact k F2 α2 .non _ Rp ((st1.trans st2 Sub.refl).trans Stp.refl h1) .non)
/-- what a def promises: of the arguments' cells, the live objects handed in, and what is wanted of the value and of what lives behind -/
abbrev SpN := List Ce → List (Nat × LO) → (Ce → List (Nat × LO) → Prop) → Prop
def bdOf (F H : Hp) (fp : Addr → Prop) (α : Nat → Addr) (L : List (Nat × LO)) : Bd := ⟨F, H, fp, fun n => if n < 100 then some (α n) else none, fun n h => by rw [if_neg (by omega)]⟩
def SpOf (K : Frag) (mg : Mg) (sp : SpN) : Sp := fun vs H Q _ => ∃ F α L cs fp, Rel K mg (bdOf F H fp α L) F α H (vs.map some) ⟨cs.map some, L⟩ ∧
  sp cs L fun c L' => ∀ F' α' v H' ρ' σ', Rel K mg (bdOf F H fp α L) F' α' H' σ' ⟨ρ', L'⟩ → CRel K mg F' α' L' c v → Q v H'
def retK (Kc : Ce → List (Nat × LO) → Prop) : Out → Prop
  | .ret c S => Kc c S.L
  | .nx S => Kc (.fr .non) S.L
  | _ => False
def startC (N : List Str) (cs : List Ce) : List (Option Ce) := cs.map some ++ List.replicate (N.length - cs.length) none
theorem slr_rep {K : Frag} {mg : Mg} {F : Hp} {α : Nat → Addr} {L : List (Nat × LO)} : ∀ n, SlR K mg F α L (List.replicate n none) (List.replicate n none)
  | 0 => .nil
  | n + 1 => .no (slr_rep n)
theorem SlR.append {K : Frag} {mg : Mg} {F : Hp} {α : Nat → Addr} {L : List (Nat × LO)} : ∀ {c c' : List (Option Ce)} {σ σ' : L2.St}, SlR K mg F α L c σ → SlR K mg F α L c' σ' → SlR K mg F α L (c ++ c') (σ ++ σ')
  | _, _, _, _, .nil, h => h
  | _, _, _, _, .no r, h => .no (r.append h)
  | _, _, _, _, .so q r, h => .so q (r.append h)
theorem SlR.length {K : Frag} {mg : Mg} {F : Hp} {α : Nat → Addr} {L : List (Nat × LO)} : ∀ {c : List (Option Ce)} {σ : L2.St}, SlR K mg F α L c σ → c.length = σ.length
  | _, _, .nil => rfl
  | _, _, .no r => congrArg (· + 1) r.length
  | _, _, .so _ r => congrArg (· + 1) r.length
theorem _root_.L2.Fun.okN {P : Program} {w : World} {K : Frag} {mg : Mg} {base : Heap} {x qual : Str} {st : Stmt} {f : Addr} {fd : FuncData} {N ps : List Str} {k : Nat} {sp : SpN} (F : Fun K x qual st f fd) (S : FnScope N ps (defScope st)) (len : ∀ cs L Kc, sp cs L Kc → cs.length = ps.length)
    (hbody : ∀ (cdv : Value) (A : Around) (outer : List Env) (s : Shared) (H : Hp) (E : XK) (B : Bd) (cs : List Ce) (L : List (Nat × LO)) (Kc : Ce → List (Nat × LO) → Prop), Room k (A.deeper (envOfC qual (defScope st) s.heap.objs.size f cdv)) → sp cs L Kc →
      Exs (cxOf CX0 P w K mg base N qual (defScope st) f cdv A outer s H E).nox B (defBody st) ⟨startC N cs, L⟩ (retK Kc)) : FnOk P w K mg base CX0 (k + 1) f fd ps (SpOf K mg sp) := by
  refine F.ok S (fun vs H Q E h => ?_) (fun cdv A outer s H vs Q E hr h => ?_)
  · obtain ⟨F', α, L, cs, fp, R, h⟩ := h
    have e1 := R.slots.length
    have e2 := len _ _ _ h
    simp only [List.length_map] at e1
    omega
  · obtain ⟨F', α, L, cs, fp, R, h⟩ := h
    have e1 : cs.length = vs.length := by have := R.slots.length; simpa using this
    refine ⟨_, pss_w, hbody cdv A outer s H E (bdOf F' H fp α L) cs L _ hr h F' α H _ _ (?_ : Rel _ _ _ _ _ _ _ _) ?_⟩
    · refine ⟨R.sub, R.bF, R.nF, R.frame, R.nd, R.inj, R.live, ?_, R.fix⟩
      show SlR _ _ _ _ _ (cs.map some ++ List.replicate (N.length - cs.length) none) (vs.map some ++ List.replicate (N.length - vs.length) none)
      rw [e1]
      exact R.slots.append (slr_rep _)
    · refine ⟨fun S' F1 α1 H1 σ1 k1 R1 s1 => k1 F1 α1 .non H1 S'.ρ σ1 R1 .non, fun S' F1 α1 H1 σ1 k1 R1 s1 => k1.elim, fun S' F1 α1 H1 σ1 k1 R1 s1 => k1.elim, fun c S' F1 α1 H1 σ1 v k1 R1 s1 r1 => k1 F1 α1 v H1 S'.ρ σ1 R1 r1⟩
theorem paired_slots {K : Frag} {mg : Mg} {F : Hp} {α : Nat → Addr} : ∀ {ds : List D} {vs : List V}, Reps K mg F ds vs → SlR K mg F α [] ((ds.map Ce.fr).map some) (vs.map some)
  | _, _, .nil => .nil
  | _, _, .cons h r => .so h (paired_slots r)
theorem Rel.call0 {K : Frag} {mg : Mg} {B : Bd} {F : Hp} {α : Nat → Addr} {H : Hp} {σ : L2.St} {S : Nz.S} {vs : List V} (R : Rel K mg B F α H σ S) (r : Reps K mg F ds vs) : Rel K mg (bdOf F H (fun _ => False) α []) F α H (vs.map some) ⟨(ds.map Ce.fr).map some, []⟩ :=
  ⟨R.sub, Same.refl _, fun b o e => .inl e, fun b o e _ => e, List.nodup_nil, fun n m h => absurd h (by simp [names]), fun n o h => absurd h (by simp), paired_slots r, fun n a h hn => absurd hn (by simp [names])⟩
/-- behind a call that was handed nothing that lives -/
theorem Rel.back0 {K : Frag} {mg : Mg} {B : Bd} {F F' : Hp} {α α' : Nat → Addr} {H H' : Hp} {σ σ' : L2.St} {S S' : Nz.S} (R : Rel K mg B F α H σ S) (R' : Rel K mg (bdOf F H (fun _ => False) α []) F' α' H' σ' S') : Rel K mg B F' α H' σ S :=
  R.grow R'.bF (fun b o e => R'.frame b o e fun z => z) R'.sub fun b u e => by
    rcases R'.nF b u e with z | z | z
    · exact .inl z
    · exact .inr z
    · exact z.elim
variable {CX : CXT} {f C : Addr} {fd : FuncData} {ps : List Str} {k : Nat} {sp : SpN} {dvs : List D}
/-- a value as the text has it, for a default -/
theorem ev_call {ds' : List D} {dvs : List V} {dfs : List Value} (F : FnOk X.prog X.w X.K X.mg X.base CX0 k f fd ps (SpOf X.K X.mg sp)) (hr : Room k X.A) (hm : X.mg x = some (.ref f)) (hk : PySem.W.keepIn X.K (.ref f) = true) (hb : Binds X.K fd ps dfs) (hd : Vals dvs dfs)
    (hdv : ∀ F', Reps X.K X.mg F' ds' dvs) (ha : Ea X B (e :: es) S (ds.map Ce.fr) S1) (hs : ∀ Kc : Ce → List (Nat × LO) → Prop, (∀ L', Kc (.fr d) L') → sp ((ds ++ ds').map Ce.fr) [] Kc) (hg : Gl X x) (h1 : Sub S.L S1.L := by exact Sub.refl) (hdb : (x == ("__debug__" : Str)) = false := by decide)
    (he : starEach (e :: es) X.env = (false, eval e X.env) :: starEach es X.env := by rfl) (hpl : (backTo pos (starEach es X.env)).any (·.1) = false := by rfl) : Ev X B (.Call (.Name x p) (e :: es) [] pos) S (.fr d) S1 :=
  fun F0 α H σ Q R k => wE.of (pe_call F hr hg hm hk hb hd pass0 pa_w hdb he hpl) (ha F0 α H σ _ R fun F1 α1 vs H1 R1 st1 r1 => by
    have r := Reps.append r1.fr (hdv F1)
    exact ⟨F1, α1, [], _, fun _ => False, R1.call0 r, hs _ fun L' F' α' v H' ρ' σ' R' r' => k F' α1 v H' (R1.back0 R') (st1.trans ⟨R'.bF, fun _ _ => rfl⟩ h1) r'⟩)
/-- c' forgets some of c -/
def Fg : List (Option Ce) → List (Option Ce) → Prop
  | [], [] => True
  | a :: as, b :: bs => (b = none ∨ b = a) ∧ Fg as bs
  | _, _ => False
theorem SlR.fg {K : Frag} {mg : Mg} {F : Hp} {α : Nat → Addr} {L : List (Nat × LO)} : ∀ {c c' : List (Option Ce)} {σ : L2.St}, Fg c c' → SlR K mg F α L c σ → SlR K mg F α L c' σ
  | _, [], _, h, .nil => .nil
  | _, b :: bs, _, h, .no r => by
    obtain ⟨h1 | h1, h2⟩ := h
    · subst h1; exact .no (SlR.fg h2 r)
    · subst h1; exact .no (SlR.fg h2 r)
  | _, b :: bs, _, h, .so q r => by
    obtain ⟨h1 | h1, h2⟩ := h
    · subst h1; exact .no (SlR.fg h2 r)
    · subst h1; exact .so q (SlR.fg h2 r)
  | _, [], _, h, .no r => False.elim h
  | _, [], _, h, .so q r => False.elim h
  | _, _ :: _, _, h, .nil => False.elim h
theorem exs_freeze {sts : List Stmt} {K : Out → Prop} (n : Nat) (hn : getL n S.L = some (.fl ds)) (h : Exs X B sts (frS n (.lst ds) S) K) : Exs X B sts S K := fun F α H σ D R o => by
  obtain ⟨F', R', st, _⟩ := R.freeze hn
  exact h F' α H σ D R' (o.mono st.fro)
end
end Nz
namespace Nz
open PySem PySem.Spec PyProof.Rows L2
section
variable {X : Cx} {B : Bd} {S S1 S2 S3 : Nz.S} {a b c e : Expr} {es : List Expr} {pos p q p2 : Pos} {x : Str} {ds : List D} {d d1 d2 : D}
theorem o_cat {xs ys : List D} (hz : xs.length + ys.length ≤ sizeLine) : Op2 X (binaryOp .Add) (.lst xs) (.lst ys) (.lst (xs ++ ys)) :=
  fun B F α H σ S Q x y R rx ry k pins s v u I rv ru => by
    obtain ⟨l1, vs, rfl, hq, rs⟩ := R.asL (c := .fr (.lst xs)) rfl rx
    obtain ⟨l2, us, rfl, hq2, rs2⟩ := R.asL (c := .fr (.lst ys)) rfl ry
    cases rv
    cases ru
    obtain ⟨its, r, ⟨⟨cl, od, dt, sl⟩, n, e1, c1, o1, t1⟩, z1⟩ := I.list hq
    obtain ⟨its2, r2, ⟨⟨cl2, od2, dt2, sl2⟩, n2, e2, c2, o2, t2⟩, z2⟩ := I.list hq2
    simp only at c1 o1 t1 c2 o2 t2
    subst c1 o1 t1 c2 o2 t2
    have hlen := r.length
    have hlen2 := r2.length
    have h1 := rs.length
    have h2 := rs2.length
    have ee : its.toArray ++ its2.toArray = (its ++ its2).toArray := by simp
    refine concat_meets ⟨_, e1, rfl⟩ ⟨_, e2, rfl⟩ noFill_list_add seq_list_add PySem.F.slot_list_add PySem.F.entry_list_add (PySem.F.args_list_add_2 _ _) (list_addW l1 l2 its.toArray its2.toArray n n2 none none sl sl2 (by simp only [List.size_toArray]; omega)) ⟨e1, e2, ?_⟩
    rw [ee]
    have hf := R.fresh I.fresh
    refine ⟨.ref _, _, I.lnew (t' := s.toks) (r.append r2) (by rw [List.length_append]; omega), rfl, k _ α _ _ (R.allocF I.fresh) (stp_allocF hf) (.lst (SqL.of upd_same) ((rs.append rs2).mono (same_upd hf)))⟩
def Eo (X : Cx) (B : Bd) (e : Option Expr) (S : Nz.S) (o : Option Int) : Prop :=
  ∀ F α H σ (Q : Option Int → Hp → Prop), RelX X B F α H σ S → (∀ F' α' H', RelX X B F' α' H' σ S → Stp F α S.L F' α' → Q o H') →
    ∀ pins s, Inv X pins σ H s → wpAny (model X.prog X.w) X.A (evalPart e X.env) (fun u s' => ∃ o H', Inv X pins σ H' s' ∧ IsPart u o ∧ Q o H') X.xe s
theorem eo_none : Eo X B none S none := fun F α H σ Q R k pins s I => po_none.run pins s σ H Q I (k F α H R Stp.refl)
theorem eo_some {i : Int} (h : Ev X B e S (.fr (.int i)) S) : Eo X B (some e) S (some i) := fun F α H σ Q R k pins s I => (po_some pe_w).run pins s σ H Q I (h F α H σ _ R fun F' α' v H' R' st r => by cases r; exact ⟨i, rfl, k F' α' H' R' st⟩)
def tO (X : Cx) (e : Option Expr) : TO := fun σ H Q => ∀ pins s, Inv X pins σ H s → wpAny (model X.prog X.w) X.A (evalPart e X.env) (fun u s' => ∃ o H', Inv X pins σ H' s' ∧ IsPart u o ∧ Q o H') X.xe s
theorem po_w {e : Option Expr} : PO X e (tO X e) := ⟨fun pins s σ H Q I h => h pins s I⟩
def slcD {τ : Type} (xs : List τ) (lo hi : Option Int) : List τ := (xs.drop (HT.sIx xs.length 0 lo)).take (HT.sIx xs.length xs.length hi - HT.sIx xs.length 0 lo)
theorem slcD_map {τ μ : Type} (f : τ → μ) (xs : List τ) (lo hi : Option Int) : slcD (xs.map f) lo hi = (slcD xs lo hi).map f := by
  unfold slcD
  rw [List.length_map, List.map_take, List.map_drop]
theorem ev_sliceL {ca : Ce} {lo hi : Option Expr} {ol oh : Option Int} (ha : Ev X B a S ca S1) (h1 : Eo X B lo S1 ol) (h2 : Eo X B hi S1 oh) (hl : AsL S1.L ca ds) (hS : Sub S.L S1.L := by exact Sub.refl) : Ev X B (.Subscript a (.Slice lo hi none p2) pos) S (.fr (.lst (slcD ds ol oh))) S1 :=
  fun F α H σ Q R k => wE.of (pe_slice sl_list pe_w po_w po_w) (ha F α H σ _ R fun F1 α1 v1 H1 R1 st1 r1 => h1 F1 α1 H1 σ _ R1 fun F2 α2 H2 R2 st2 => h2 F2 α2 H2 σ _ R2 fun F3 α3 H3 R3 st3 => by
    obtain ⟨pa, vs, rfl, hq, rs⟩ := R3.asL hl (r1.step (st2.trans st3 Sub.refl) Sub.refl)
    refine ⟨pa, vs, rfl, hq, fun l hl' => k _ α3 _ _ (R3.allocF hl') ⟨((st1.trans st2 hS).trans st3 hS).fro.trans (same_upd (R3.fresh hl')), ((st1.trans st2 hS).trans st3 hS).nm⟩ (.lst (SqL.of upd_same) (Reps.mono (same_upd (R3.fresh hl')) ?_))⟩
    unfold slcD cutV
    rw [rs.length]
    exact (rs.drop _).take _)
theorem ev_sliceS {z : Str} {lo hi : Option Expr} {ol oh : Option Int} (ha : Ev X B a S (.fr (.str z)) S1) (h1 : Eo X B lo S1 ol) (h2 : Eo X B hi S1 oh) (hz : z.length ≤ sizeLine) (hS : Sub S.L S1.L := by exact Sub.refl) : Ev X B (.Subscript a (.Slice lo hi none p2) pos) S (.fr (.str (cutS z ol oh))) S1 :=
  fun F α H σ Q R k => wE.of (pe_slice sl_str pe_w po_w po_w) (ha F α H σ _ R fun F1 α1 v1 H1 R1 st1 r1 => h1 F1 α1 H1 σ _ R1 fun F2 α2 H2 R2 st2 => h2 F2 α2 H2 σ _ R2 fun F3 α3 H3 R3 st3 => by
    cases r1
    exact ⟨z, rfl, hz, k F3 α3 _ H3 R3 ((st1.trans st2 hS).trans st3 hS) (.str _)⟩)
end
theorem at_map {τ : Type} [Inhabited τ] {enc : τ → D} {xs : List τ} {i : Int} (h0 : 0 ≤ i) (h1 : i < xs.length) : atI (xs.map enc) i = some (enc (xs.getD i.toNat default)) := by
  unfold atI ixN
  rw [if_pos h0, if_pos (by rw [List.length_map]; exact h1)]
  show (xs.map enc)[i.toNat]? = _
  rw [List.getElem?_map]
  have h2 : i.toNat < xs.length := by omega
  rw [List.getElem?_eq_getElem h2, List.getD_eq_getElem?_getD, List.getElem?_eq_getElem h2]
  rfl
theorem at_last {τ : Type} [Inhabited τ] {enc : τ → D} {xs : List τ} (h1 : xs ≠ []) : atI (xs.map enc) (-1) = some (enc (xs.getLastD default)) := by
  unfold atI ixN
  have hp : 0 < xs.length := List.length_pos_iff.mpr h1
  rw [if_neg (by decide), if_pos (by rw [List.length_map]; omega)]
  show (xs.map enc)[((-1 : Int) + ((xs.map enc).length : Int)).toNat]? = _
  rw [List.length_map, show ((-1 : Int) + (xs.length : Int)).toNat = xs.length - 1 by omega, List.getElem?_map, ← List.getLast?_eq_getElem?, List.getLast?_eq_some_getLast h1, List.getLastD_eq_getLast?, List.getLast?_eq_some_getLast h1]
  rfl
end Nz
namespace Nz
open PySem PySem.Spec PyProof.Rows L2
end Nz
namespace Nz
open PySem PySem.Spec PyProof.Rows L2
def Le (S S' : Nz.S) : Prop := Fg S.ρ S'.ρ ∧ S'.L = S.L
theorem fg_refl : ∀ ρ : List (Option Ce), Fg ρ ρ
  | [] => trivial
  | _ :: r => ⟨.inr rfl, fg_refl r⟩
theorem Le.refl {S : Nz.S} : Le S S := ⟨fg_refl _, rfl⟩
theorem Le.of {S S' : Nz.S} (h : S = S') : Le S S' := h ▸ Le.refl
theorem Rel.le {K : Frag} {mg : Mg} {B : Bd} {F : Hp} {α : Nat → Addr} {H : Hp} {σ : L2.St} {S S' : Nz.S} (R : Rel K mg B F α H σ S) (h : Le S S') : Rel K mg B F α H σ S' := by
  obtain ⟨ρ', L'⟩ := S'
  obtain ⟨h1, h2⟩ := h
  have h2 : L' = S.L := h2
  subst h2
  exact ⟨R.sub, R.bF, R.nF, R.frame, R.nd, R.inj, R.live, R.slots.fg h1, R.fix⟩
def loopS (st : Nat → Nz.S) (P : Nat → Prop) (K : Out → Prop) (i : Nat) : Out → Prop
  | .nx S => Le S (st (i + 1)) ∧ P (i + 1)
  | .ct S => Le S (st (i + 1)) ∧ P (i + 1)
  | .bk S => K (.nx S)
  | .ret c S => K (.ret c S)
section
variable {X : Cx} {B : Bd} {S S1 S2 S3 : Nz.S} {tg a b c e : Expr} {es : List Expr} {pos p q p2 : Pos} {K : Out → Prop} {body : List Stmt}
theorem ex_forT {τ : Type} {ys : List τ} {enc : τ → D} (hp : PassesOwn (model X.prog X.w) X.A X.env X.xe) (hc : X.calm = true) (st : Nat → Nz.S) (P : Nat → Prop) (hsrc : Src X B tg e S (ys.map enc) S1) (h0 : Le S1 (st 0)) (p0 : P 0)
    (hs : ∀ i y, ys[i]? = some y → P i → ∃ S2, Eg X B tg (.fr (enc y)) (st i) S2 ∧ Exs X B body S2 (loopS st P K i)) (hd : P ys.length → K (.nx (st ys.length))) (hf : ∀ x, foldedSetIterable e X.env x = pure x := by intro _; rfl) : Ex X B (.For tg e body [] pos) S K :=
  fun F α H σ D R o => wS.of (ps_for hp hc pi_w pg_w pss_w hf) (hsrc F α H σ _ R fun F1 α1 H1 J R1 st1 j => by
    have o1 := o.mono st1.fro
    refine ⟨fun i m σ' H' => m = ys.length - i ∧ i ≤ ys.length ∧ ∃ F' α', RelX X B F' α' H' σ' (st i) ∧ Same F1 F' ∧ P i, ⟨ys.length, by simp, Nat.zero_le _, F1, α1, R1.le h0, Same.refl _, p0⟩, ?_⟩
    rintro i m σ' H' ⟨rfl, hi, F', α', R', sm, q⟩
    by_cases hlt : i < ys.length
    · have e1 : ys[i]? = some ys[i] := by simp [hlt]
      obtain ⟨g, y⟩ := j.go B F' α' H' σ' (st i) i (enc ys[i]) R' sm (by rw [List.getElem?_map, e1]; rfl)
      obtain ⟨S2, hg, hb⟩ := hs i _ e1 q
      refine .inr ⟨g, fun σ2 H2 => ∃ F2 α2, RelX X B F2 α2 H2 σ2 (st (i + 1)) ∧ Same F1 F2 ∧ P (i + 1), fun σ2 H2 ⟨F2, α2, R2, s2, q2⟩ => ⟨ys.length - (i + 1), by omega, rfl, hlt, F2, α2, R2, s2, q2⟩, fun x H2 yy => ?_⟩
      obtain ⟨F2, R2, s2, r2⟩ := y x H2 yy
      refine hg F2 α' H2 σ' x _ R2 r2 fun σ3 F3 H3 R3 s3 => hb F3 α' H3 σ3 _ R3 ?_
      have sall : Same F1 F3 := sm.trans (s2.trans s3)
      refine ⟨fun S4 F4 α4 H4 σ4 k4 R4 s4 => ⟨F4, α4, R4.le k4.1, sall.trans s4, k4.2⟩, fun S4 F4 α4 H4 σ4 k4 R4 s4 => o1.nx S4 F4 α4 H4 σ4 k4 R4 (sall.trans s4), fun S4 F4 α4 H4 σ4 k4 R4 s4 => ⟨F4, α4, R4.le k4.1, sall.trans s4, k4.2⟩,
        fun c S4 F4 α4 H4 σ4 v k4 R4 s4 r4 => o1.ret c S4 F4 α4 H4 σ4 v k4 R4 (sall.trans s4) r4⟩
    · have e1 : i = ys.length := by omega
      subst e1
      exact .inl ⟨j.stop B F' α' H' σ' _ _ R' sm (by rw [List.length_map]; exact Nat.le_refl _), o1.nx _ F' α' H' σ' (hd q) R' sm⟩)
inductive Ix (L : List (Nat × LO)) : Ce → Int → D → Prop
  | l {c : Ce} {ds : List D} {i : Int} {d : D} (h : AsL L c ds) (h2 : atI ds i = some d) : Ix L c i d
  | t {ds : List D} {i : Int} {d : D} (h2 : atI ds i = some d) : Ix L (.fr (.tup ds)) i d
theorem ev_ix {ca : Ce} {i : Int} {d : D} (hx : Ix S2.L ca i d) (ha : Ev X B a S ca S1) (hb : Ev X B b S1 (.fr (.int i)) S2) (hs : PlainIx b := by exact fun _ _ => rfl) (h1 : Sub S.L S1.L := by exact Sub.refl) (h2 : Sub S1.L S2.L := by exact Sub.refl) :
    Ev X B (.Subscript a b pos) S (.fr d) S2 := by
  cases hx with
  | l h h2' => exact ev_ixL ha hb h h2' hs h1 h2
  | t h2' => exact ev_ixT ha hb h2' hs h1 h2
inductive Ln (L : List (Nat × LO)) : Ce → Nat → Prop
  | l {c : Ce} {ds : List D} (h : AsL L c ds) : Ln L c ds.length
  | t {ds : List D} : Ln L (.fr (.tup ds)) ds.length
  | s {z : Str} (h : z.length ≤ sizeLine) : Ln L (.fr (.str z)) z.length
theorem ev_len {ca : Ce} {n : Nat} (hx : Ln S1.L ca n) (ha : Ev X B e S ca S1) (hg : Gl X "len") (hm : X.mg "len" = none) (h1 : Sub S.L S1.L := by exact Sub.refl) (hs : starEach [e] X.env = (false, eval e X.env) :: starEach [] X.env := by rfl) (hpl : (backTo pos (starEach [] X.env)).any (·.1) = false := by rfl) :
    Ev X B (.Call (.Name "len" p) [e] [] pos) S (.fr (.int n)) S1 := by
  cases hx with
  | l h => exact ev_lenL ha h hg hm hs hpl
  | t => exact ev_callB c_lenT (ea_cons ha ea_nil h1 Sub.refl hs) hg hm PySem.boot_len h1 (by decide) (by decide) hs hpl
  | s h => exact ev_callB (c_lenS h) (ea_cons ha ea_nil h1 Sub.refl hs) hg hm PySem.boot_len h1 (by decide) (by decide) hs hpl
end
theorem seq_range {n i y : Nat} (h : (List.range n)[i]? = some y) : i < n ∧ y = i := by
  by_cases hi : i < n
  · rw [List.getElem?_range hi] at h; exact ⟨hi, (Option.some.inj h).symm⟩
  · rw [List.getElem?_eq_none (by simpa using hi)] at h; cases h
theorem take_snoc {τ : Type} {ys : List τ} {i : Nat} {y : τ} (h : ys[i]? = some y) : ys.take (i + 1) = ys.take i ++ [y] := by rw [List.take_succ, h]; rfl
theorem foldl_snoc {τ β : Type} {ys : List τ} {i : Nat} {y : τ} (f : β → τ → β) (b : β) (h : ys[i]? = some y) : (ys.take (i + 1)).foldl f b = f ((ys.take i).foldl f b) y := by rw [take_snoc h, List.foldl_append]; rfl
end Nz
namespace Nz
open PySem PySem.Spec PyProof.Rows L2
abbrev eL {τ : Type} (e : τ → D) (xs : List τ) : D := .lst (xs.map e)
abbrev eU {τ : Type} (e : τ → D) (xs : List τ) : D := .tup (xs.map e)
abbrev eT2 {τ μ : Type} (e : τ → D) (f : μ → D) (p : τ × μ) : D := .tup [e p.1, f p.2]
abbrev eT3 {τ μ ν : Type} (e : τ → D) (f : μ → D) (g : ν → D) (p : τ × μ × ν) : D := .tup [e p.1, f p.2.1, g p.2.2]
section
variable {X : Cx} {B : Bd} {S S1 S2 S3 : Nz.S} {tg a b c e : Expr} {es : List Expr} {pos p q p2 : Pos} {K : Out → Prop} {τ : Type} {enc : τ → D}
theorem o_catT {xs ys : List τ} (hz : xs.length + ys.length ≤ sizeLine) : Op2 X (binaryOp .Add) (eL enc xs) (eL enc ys) (eL enc (xs ++ ys)) := by
  have h := o_cat (X := X) (xs := xs.map enc) (ys := ys.map enc) (by simpa using hz)
  rwa [← List.map_append] at h
theorem ix_L [Inhabited τ] {L : List (Nat × LO)} {xs : List τ} {c : Ce} {i : Int} (h : AsL L c (xs.map enc)) (h0 : 0 ≤ i) (h1 : i < xs.length) : Ix L c i (enc (xs.getD i.toNat default)) := .l h (at_map h0 h1)
theorem ix_last [Inhabited τ] {L : List (Nat × LO)} {xs : List τ} {c : Ce} (h : AsL L c (xs.map enc)) (h1 : xs ≠ []) : Ix L c (-1) (enc (xs.getLastD default)) := .l h (at_last h1)
theorem ln_L {L : List (Nat × LO)} {xs : List τ} {c : Ce} (h : AsL L c (xs.map enc)) : Ln L c xs.length := by
  have := Ln.l h
  rwa [List.length_map] at this
theorem ln_U {L : List (Nat × LO)} {xs : List τ} : Ln L (.fr (eU enc xs)) xs.length := by
  have := Ln.t (L := L) (ds := xs.map enc)
  rwa [List.length_map] at this
theorem ev_sliceT {ca : Ce} {xs : List τ} {lo hi : Option Expr} {ol oh : Option Int} (hl : AsL S1.L ca (xs.map enc)) (ha : Ev X B a S ca S1) (h1 : Eo X B lo S1 ol) (h2 : Eo X B hi S1 oh) (hS : Sub S.L S1.L := by exact Sub.refl) : Ev X B (.Subscript a (.Slice lo hi none p2) pos) S (.fr (eL enc (slcD xs ol oh))) S1 := by
  have := ev_sliceL (pos := pos) (p2 := p2) ha h1 h2 hl hS
  rwa [slcD_map] at this
/-- [..] that lives, by its data -/
theorem ev_lstN (n : Nat) (xs : List τ) {ds : List D} (h : Ea X B es S (ds.map Ce.fr) S1) (hd : ds = xs.map enc) (hz : xs.length ≤ sizeLine) (hn : n ∉ names S1.L) (h100 : 100 ≤ n) (h1 : Sub S.L S1.L := by exact Sub.refl) : Ev X B (.List es pos) S (.ad n) ⟨S1.ρ, S1.L ++ [(n, .fl (xs.map enc))]⟩ := by
  subst hd
  exact ev_lstL n h (by rw [List.length_map]; exact hz) hn h100 h1
theorem ev_appendT {n : Nat} {o : Expr} {apos : Pos} {xs xs0 : List τ} (x : τ) {d : D} (hd : d = enc x) (hn : getL n S1.L = some (.fl (xs.map enc))) (hn0 : getL n S.L = some (.fl (xs0.map enc))) (hz : xs.length < sizeLine) (ho : Ev X B o S (.ad n) S) (ha : Ev X B e S (.fr d) S1) (h1 : Sub S.L S1.L := by exact Sub.refl)
    (hbase : attributeBase o "append" X.env (eval o X.env) = eval o X.env := by rfl)
    (hfew : ((backTo pos (starEach (e :: []) X.env)).all (fun x => !x.1) && (backToKw pos (keywordEach [] X.env)).all (fun x => x.1.isSome)
      && decide ((e :: ([] : List Expr)).length + ([] : List Keyword).length + (if ([] : List Keyword).isEmpty then 0 else 1) < 30)) = true := by rfl)
    (hline : (apos.endLine == pos.line) = true := by rfl) (hs : starEach (e :: []) X.env = (false, eval e X.env) :: starEach [] X.env := by rfl) (hplain : (backTo pos (starEach [] X.env)).any (·.1) = false := by rfl) :
    Ev X B (.Call (.Attribute o "append" apos) [e] [] pos) S (.fr .non) ⟨S1.ρ, setL n (.fl ((xs ++ [x]).map enc)) S1.L⟩ := by
  subst hd
  have := ev_append (pos := pos) (apos := apos) ho ha hn hn0 (by rw [List.length_map]; exact hz) h1 hbase hfew hline hs hplain
  rwa [show xs.map enc ++ [enc x] = (xs ++ [x]).map enc by simp] at this
theorem c_listL {xs : List τ} : Cb X (.type "list") [eL enc xs] (eL enc xs) := c_list
theorem src_listT {xs : List τ} (h : Ev X B e S (.fr (eL enc xs)) S1) : Src X B tg e S (xs.map enc) S1 := src_list h
theorem src_tupT {xs : List τ} (h : Ev X B e S (.fr (eU enc xs)) S1) : Src X B tg e S (xs.map enc) S1 := src_tup h
theorem exs_freezeT {sts : List Stmt} (n : Nat) {xs : List τ} (hn : getL n S.L = some (.fl (xs.map enc))) (h : Exs X B sts (frS n (eL enc xs) S) K) : Exs X B sts S K := exs_freeze n hn h
end
theorem PassesOwn.nox {P : Program} {w : World} {A : Around} {env : Env} : PassesOwn (model P w) A env (fun _ _ => False) := PassesOwn.never
end Nz
namespace Nz
open PySem PySem.Spec PyProof.Rows L2
theorem lm_map {τ μ : Type} (ys : List τ) (g : τ → μ) (enc2 : μ → D) : ((ys.filter fun _ => true).map fun y => enc2 (g y)) = (ys.map g).map enc2 := by
  rw [List.filter_eq_self.mpr (fun _ _ => rfl), List.map_map]; rfl
theorem bd_d {p : Prop} [Decidable p] : decide p = true ↔ p := decide_eq_true_iff
theorem bd_and {a b : Bool} {p q : Prop} (h1 : a = true ↔ p) (h2 : b = true ↔ q) : (a && b) = true ↔ (p ∧ q) := by rw [Bool.and_eq_true, h1, h2]
theorem bd_or {a b : Bool} {p q : Prop} (h1 : a = true ↔ p) (h2 : b = true ↔ q) : (a || b) = true ↔ (p ∨ q) := by rw [Bool.or_eq_true, h1, h2]
theorem bd_not {a : Bool} {p : Prop} (h1 : a = true ↔ p) : (!a) = true ↔ ¬ p := by rw [← h1]; cases a <;> simp
theorem bd_n {p : Prop} [Decidable p] : (!decide p) = true ↔ ¬ p := bd_not bd_d
section
variable {X : Cx} {B : Bd} {S S1 S2 S3 : Nz.S} {tg a b c e : Expr} {es : List Expr} {pos p q p2 : Pos} {K : Out → Prop} {body els : List Stmt}
theorem ex_ifP {i : Bool} {P : Prop} (h : i = true ↔ P) (ht : Et X B e S i S1) (ha : P → Exs X B body S1 K) (hb : ¬ P → Exs X B els S1 K) : Ex X B (.If e body els pos) S K :=
  ex_if ht (fun z => ha (h.mp z)) fun z => hb fun w => by rw [h.mpr w] at z; cases z
theorem ev_andP {i j : Bool} {P : Prop} (h : i = true ↔ P) (ha : Ev X B a S (.fr (.bl i)) S) (hb : P → Ev X B (.BoolOp .And (b :: es) pos) S (.fr (.bl j)) S) : Ev X B (.BoolOp .And (a :: b :: es) pos) S (.fr (.bl (i && j))) S := ev_and ha fun z => hb (h.mp z)
theorem ew_andP {i j : Bool} {P : Prop} (h : i = true ↔ P) (ha : Et X B a S i S) (hb : P → Ew X B (.BoolOp .And (b :: es) pos) S j) : Ew X B (.BoolOp .And (a :: b :: es) pos) S (i && j) := ew_and ha fun z => hb (h.mp z)
theorem ew_orP {i j : Bool} {P : Prop} (h : i = true ↔ P) (ha : Et X B a S i S) (hb : ¬ P → Ew X B (.BoolOp .Or (b :: es) pos) S j) : Ew X B (.BoolOp .Or (a :: b :: es) pos) S (i || j) := ew_or ha fun z => hb fun w => by rw [h.mpr w] at z; cases z
/-- a op b op' c -/
theorem ev_chain {op op' : CmpOp} {d1 d2 d3 : D} {i j : Bool} {P : Prop} (h : i = true ↔ P) (ho : Op2 X (compareOp op) d1 d2 (.bl i)) (ho' : Op2 X (compareOp op') d2 d3 (.bl j)) (ha : Ev X B a S (.fr d1) S) (hb : Ev X B b S (.fr d2) S) (hc : P → Ev X B c S (.fr d3) S)
    (hm : lastMarks [op, op'] [b, c] = false := by with_unfolding_all rfl) : Ev X B (.Compare a [op, op'] [b, c] pos) S (.fr (.bl (i && j))) S := fun F α H σ Q R k => by
  intro pins s I
  refine Compare_chain (thn (ha F α H σ _ R (fun F1 α1 v1 H1 R1 st1 r1 => hb F1 α1 H1 σ (fun v2 H2 => ∃ F2 α2, RelX X B F2 α2 H2 σ S ∧ Stp F α S.L F2 α2 ∧ Rep X.K X.mg F2 d1 v1 ∧ Rep X.K X.mg F2 d2 v2) R1 fun F2 α2 v2 H2 R2 st2 r2 => ⟨F2, α2, R2, st1.trans st2 Sub.refl, Rep.mono st2.fro r1, r2⟩) pins s I)
    fun v s1 ⟨x, H1, I1, rv, q1⟩ => chain_link (thn (q1 pins s1 I1) fun u s2 ⟨y, H2, I2, ru, F2, α2, R2, st, r1, r2⟩ =>
    thn (ho B F2 α2 H2 σ S (fun v' H' => ∃ F3 α3, v' = .bl i ∧ RelX X B F3 α3 H' σ S ∧ Stp F2 α2 S.L F3 α3) x y R2 r1 r2 (fun F3 α3 v' H3 R3 st3 r3 => by cases r3; exact ⟨F3, α3, rfl, R3, st3⟩) pins s2 v u I2 rv ru) fun d s3 ⟨z, H3, I3, r3, F3, α3, e, R3, st3⟩ => ?_)) hm
  subst e
  cases r3
  refine wpAny_truthy_bool ?_
  have stA : Stp F α S.L F3 α3 := st.trans st3 Sub.refl
  cases i with
  | false => exact ite_ff ⟨.bl false, H3, I3, rfl, k F3 α3 (.bl false) H3 R3 stA (show Rep X.K X.mg F3 (.bl (false && j)) (.bl false) from .bl false)⟩
  | true =>
    refine ite_tt (chain_last (thn (hc (h.mp rfl) F3 α3 H3 σ (fun v3 H4 => ∃ F4 α4, RelX X B F4 α4 H4 σ S ∧ Stp F α S.L F4 α4 ∧ Rep X.K X.mg F4 d2 y ∧ Rep X.K X.mg F4 d3 v3) R3 (fun F4 α4 v4 H4 R4 st4 r4 => ⟨F4, α4, R4, stA.trans st4 Sub.refl, Rep.mono (st3.fro.trans st4.fro) r2, r4⟩) pins s3 I3)
      fun w' s4 ⟨z', H4, I4, r4, F4, α4, R4, st4, q2, q3⟩ => ?_))
    exact ho' B F4 α4 H4 σ S Q y z' R4 q2 q3 (fun F5 α5 v5 H5 R5 st5 r5 => k F5 α5 v5 H5 R5 (st4.trans st5 Sub.refl) (show Rep X.K X.mg F5 (.bl (true && j)) v5 from r5)) pins s4 u w' I4 ru r4
/-- .. as a test -/
theorem et_chain {op op' : CmpOp} {d1 d2 d3 : D} {i j : Bool} {P : Prop} (h : i = true ↔ P) (ho : Op2 X (compareOp op) d1 d2 (.bl i)) (ho' : Op2 X (compareOp op') d2 d3 (.bl j)) (ha : Ev X B a S (.fr d1) S) (hb : Ev X B b S (.fr d2) S) (hc : P → Ev X B c S (.fr d3) S)
    (hm : lastMarks [op, op'] [b, c] = false := by with_unfolding_all rfl) : Et X B (.Compare a [op, op'] [b, c] pos) S (i && j) S := fun F α H σ Q R k => by
  intro pins s I
  refine isTrue_chain (thn (ha F α H σ _ R (fun F1 α1 v1 H1 R1 st1 r1 => hb F1 α1 H1 σ (fun v2 H2 => ∃ F2 α2, RelX X B F2 α2 H2 σ S ∧ Stp F α S.L F2 α2 ∧ Rep X.K X.mg F2 d1 v1 ∧ Rep X.K X.mg F2 d2 v2) R1 fun F2 α2 v2 H2 R2 st2 r2 => ⟨F2, α2, R2, st1.trans st2 Sub.refl, Rep.mono st2.fro r1, r2⟩) pins s I)
    fun v s1 ⟨x, H1, I1, rv, q1⟩ => test_link (thn (q1 pins s1 I1) fun u s2 ⟨y, H2, I2, ru, F2, α2, R2, st, r1, r2⟩ =>
    thn (ho B F2 α2 H2 σ S (fun v' H' => ∃ F3 α3, v' = .bl i ∧ RelX X B F3 α3 H' σ S ∧ Stp F2 α2 S.L F3 α3) x y R2 r1 r2 (fun F3 α3 v' H3 R3 st3 r3 => by cases r3; exact ⟨F3, α3, rfl, R3, st3⟩) pins s2 v u I2 rv ru) fun d s3 ⟨z, H3, I3, r3, F3, α3, e, R3, st3⟩ => ?_)) hm
  subst e
  cases r3
  refine wpAny_truthy_bool ?_
  have stA : Stp F α S.L F3 α3 := st.trans st3 Sub.refl
  cases i with
  | false => exact ite_ff ⟨H3, I3, by simpa using k F3 α3 H3 R3 stA⟩
  | true =>
    refine ite_tt (test_last (thn (hc (h.mp rfl) F3 α3 H3 σ (fun v3 H4 => ∃ F4 α4, RelX X B F4 α4 H4 σ S ∧ Stp F α S.L F4 α4 ∧ Rep X.K X.mg F4 d2 y ∧ Rep X.K X.mg F4 d3 v3) R3 (fun F4 α4 v4 H4 R4 st4 r4 => ⟨F4, α4, R4, stA.trans st4 Sub.refl, Rep.mono (st3.fro.trans st4.fro) r2, r4⟩) pins s3 I3)
      fun w' s4 ⟨z', H4, I4, r4, F4, α4, R4, st4, q2, q3⟩ => thn (ho' B F4 α4 H4 σ S (fun v' H' => v' = .bl j ∧ ∃ F5 α5, RelX X B F5 α5 H' σ S ∧ Stp F4 α4 S.L F5 α5) y z' R4 q2 q3 (fun F5 α5 v5 H5 R5 st5 r5 => by cases r5; exact ⟨rfl, F5, α5, R5, st5⟩) pins s4 u w' I4 ru r4) fun d' s5 ⟨z2, H5, I5, r5, e2, F5, α5, R5, st5⟩ => ?_))
    subst e2
    cases r5
    exact wpAny_truthy_bool ⟨H5, I5, by simpa using k F5 α5 H5 R5 (st4.trans st5 Sub.refl)⟩
variable {elt iter : Expr} {ifs : List Expr} {scope : Scope} {own : List (Str × Nat)} {τ μ : Type} {ys : List τ} {enc : τ → D} {enc2 : μ → D}
/-- [g y for y in ys], typed -/
theorem ev_lcM (nD : Nat) (g : τ → μ) (Sx : Nat → τ → List D → Nz.S) (hc : X.calm = true) (hN : X.N.Nodup) (ok : BlkOk X.N X.env.scope scope own)
    (hsrc : Src X B tg iter S (ys.map enc) S1) (hn : nD ∉ names S1.L) (h100 : 100 ≤ nD) (hz : ys.length ≤ sizeLine)
    (hg : ∀ i y acc, ys[i]? = some y → ∀ s H0 C cl fp, EgC (Blk X scope s H0 C cl fp) B tg (.fr (enc y)) ⟨wipeC S1.ρ (own.map (·.2)), S1.L ++ [(nD, .fl acc)]⟩ (Sx i y acc) (own.map (·.2)))
    (he : ∀ i y acc, ys[i]? = some y → ∀ s H0 C cl fp, Ev (Blk X scope s H0 C cl fp) B elt (Sx i y acc) (.fr (enc2 (g y))) (Sx i y acc)) (hL : ∀ i y acc, (Sx i y acc).L = S1.L ++ [(nD, .fl acc)] := by exact fun _ _ _ => rfl) (hS : Sub S.L S1.L := by exact Sub.refl) (hs : ∀ x, foldedSetIterable iter X.env x = pure x := by intro _; rfl) :
    Ev X B (.ListComp elt [⟨tg, iter, [], 0⟩] scope pos) S (.fr (eL enc2 (ys.map g))) S1 := by
  have := ev_lc (pos := pos) nD ys enc (fun y => enc2 (g y)) (fun _ => true) Sx hc hN ok hsrc hn h100 hz hL hg (fun _ _ _ _ _ _ _ _ _ => ets_nil) (fun i y acc h1 _ => he i y acc h1) hS hs
  rwa [lm_map] at this
theorem ex_setLcM (i : Nat) {y : Str} {py spos : Pos} (nD : Nat) (g : τ → μ) (Sx : Nat → τ → List D → Nz.S) (hc : X.calm = true) (hN : X.N.Nodup) (hy : X.N[i]? = some y) (hyl : X.env.scope.names.lookup y = some .local)
    (hsw : swapsWith (.ListComp elt [⟨tg, iter, [], 0⟩] scope pos) (some (.Name y py)) spos.line X.env = pure true) (ok : BlkOk X.N X.env.scope scope own)
    (hsrc : Src X B tg iter S (ys.map enc) S1) (hn : nD ∉ names S1.L) (h100 : 100 ≤ nD) (hz : ys.length ≤ sizeLine)
    (hg : ∀ i y acc, ys[i]? = some y → ∀ s H0 C cl fp, EgC (Blk X scope s H0 C cl fp) B tg (.fr (enc y)) ⟨wipeC S1.ρ (own.map (·.2)), S1.L ++ [(nD, .fl acc)]⟩ (Sx i y acc) (own.map (·.2)))
    (he : ∀ i y acc, ys[i]? = some y → ∀ s H0 C cl fp, Ev (Blk X scope s H0 C cl fp) B elt (Sx i y acc) (.fr (enc2 (g y))) (Sx i y acc))
    (k : K (.nx (setS S1 i (.fr (eL enc2 (ys.map g)))))) (hL : ∀ i y acc, (Sx i y acc).L = S1.L ++ [(nD, .fl acc)] := by exact fun _ _ _ => rfl) (hS : Sub S.L S1.L := by exact Sub.refl) (hs : ∀ x, foldedSetIterable iter X.env x = pure x := by intro _; rfl) :
    Ex X B (.Assign [.Name y py] (.ListComp elt [⟨tg, iter, [], 0⟩] scope pos) spos) S K :=
  ex_setLc i nD ys enc (fun y => enc2 (g y)) (fun _ => true) Sx hc hN hy hyl hsw ok hsrc hn h100 hz hL hg (fun _ _ _ _ _ _ _ _ _ => ets_nil) (fun i y acc h1 _ => he i y acc h1) (by
    rw [lm_map]; exact k) hS hs
end
end Nz
namespace Nz
open PySem PySem.Spec PyProof.Rows L2
def loopF (Sn : Nz.S) (q : Prop) : Out → Prop
  | .nx S => Le S Sn ∧ q
  | .ct S => Le S Sn ∧ q
  | _ => False
def runE {τ σ ρ : Type} (step : σ → τ → Except ρ σ) : List τ → σ → Except ρ σ
  | [], s => .ok s
  | y :: ys, s => match step s y with
    | .error r => .error r
    | .ok s' => runE step ys s'
def loopE {σ ρ : Type} (stF : σ → Nz.S) (o : Except ρ σ) (Q : σ → Prop) (R : ρ → Ce → Nz.S → Prop) : Out → Prop
  | .nx S => ∃ s', o = .ok s' ∧ Le S (stF s') ∧ Q s'
  | .ct S => ∃ s', o = .ok s' ∧ Le S (stF s') ∧ Q s'
  | .ret c S => ∃ r, o = .error r ∧ R r c S
  | _ => False
section
variable {X : Cx} {B : Bd} {S S1 S2 S3 : Nz.S} {tg a b c e : Expr} {es : List Expr} {pos p q p2 : Pos} {K : Out → Prop} {body : List Stmt} {τ σ ρ : Type} {ys : List τ} {enc : τ → D}
theorem take_foldl {step : σ → τ → σ} {s0 : σ} {i : Nat} {y : τ} (h : ys[i]? = some y) : (ys.take (i + 1)).foldl step s0 = step ((ys.take i).foldl step s0) y := foldl_snoc step s0 h
theorem ex_forF (stF : σ → Nz.S) (step : σ → τ → σ) (s0 : σ) (Q : Nat → σ → Prop) (hsrc : Src X B tg e S (ys.map enc) S1) (h0 : Le S1 (stF s0)) (q0 : Q 0 s0)
    (hs : ∀ i y s, ys[i]? = some y → Q i s → ∃ S2, Eg X B tg (.fr (enc y)) (stF s) S2 ∧ Exs X B body S2 (loopF (stF (step s y)) (Q (i + 1) (step s y)))) (hd : Q ys.length (ys.foldl step s0) → K (.nx (stF (ys.foldl step s0))))
    (hp : PassesOwn (model X.prog X.w) X.A X.env X.xe) (hc : X.calm = true) (hf : ∀ x, foldedSetIterable e X.env x = pure x := by intro _; rfl) : Ex X B (.For tg e body [] pos) S K := by
  refine ex_forT hp hc (fun i => stF ((ys.take i).foldl step s0)) (fun i => Q i ((ys.take i).foldl step s0)) hsrc h0 q0 (fun i y hy hP => ?_) (fun hP => ?_) hf
  · obtain ⟨S2, h1, h2⟩ := hs i y _ hy hP
    refine ⟨S2, h1, h2.mono fun o ho => ?_⟩
    cases o with
    | nx S => show Le S (stF ((ys.take (i + 1)).foldl step s0)) ∧ Q (i + 1) ((ys.take (i + 1)).foldl step s0); rw [take_foldl hy]; exact ho
    | ct S => show Le S (stF ((ys.take (i + 1)).foldl step s0)) ∧ Q (i + 1) ((ys.take (i + 1)).foldl step s0); rw [take_foldl hy]; exact ho
    | bk S => exact False.elim ho
    | ret c S => exact False.elim ho
  · rw [List.take_length] at hP ⊢
    exact hd hP
theorem runE_cons {step : σ → τ → Except ρ σ} {x : τ} {xs : List τ} {s : σ} : runE step (x :: xs) s = (match step s x with | .error r => Except.error r | .ok s' => runE step xs s') := rfl
theorem runE_append {step : σ → τ → Except ρ σ} : ∀ {xs ys : List τ} {s : σ}, runE step (xs ++ ys) s = (match runE step xs s with | .error r => .error r | .ok s' => runE step ys s')
  | [], _, _ => rfl
  | x :: xs, ys, s => by
    rw [List.cons_append, runE_cons, runE_cons]
    cases step s x with
    | error r => rfl
    | ok s' => exact runE_append
theorem runE_split {step : σ → τ → Except ρ σ} {i : Nat} {y : τ} {s0 s : σ} (h : ys[i]? = some y) (hs : runE step (ys.take i) s0 = .ok s) : runE step (ys.take (i + 1)) s0 = step s y := by
  rw [take_snoc h, runE_append, hs]
  show runE step [y] s = step s y
  unfold runE
  cases step s y <;> rfl
theorem runE_err {step : σ → τ → Except ρ σ} {i : Nat} {y : τ} {s0 s : σ} {r : ρ} (h : ys[i]? = some y) (hs : runE step (ys.take i) s0 = .ok s) (hr : step s y = .error r) : runE step ys s0 = .error r := by
  have e : ys = ys.take (i + 1) ++ ys.drop (i + 1) := (List.take_append_drop _ _).symm
  rw [e, runE_append, runE_split h hs, hr]
/-- a loop that may return -/
theorem ex_forE (stF : σ → Nz.S) (step : σ → τ → Except ρ σ) (s0 : σ) (Q : Nat → σ → Prop) (R : ρ → Ce → Nz.S → Prop) (hsrc : Src X B tg e S (ys.map enc) S1) (h0 : Le S1 (stF s0)) (q0 : Q 0 s0)
    (hs : ∀ i y s, ys[i]? = some y → runE step (ys.take i) s0 = .ok s → Q i s → ∃ S2, Eg X B tg (.fr (enc y)) (stF s) S2 ∧ Exs X B body S2 (loopE stF (step s y) (Q (i + 1)) R))
    (hr : ∀ r c S', runE step ys s0 = .error r → R r c S' → K (.ret c S')) (hd : ∀ s, runE step ys s0 = .ok s → Q ys.length s → K (.nx (stF s)))
    (hp : PassesOwn (model X.prog X.w) X.A X.env X.xe) (hc : X.calm = true) (hf : ∀ x, foldedSetIterable e X.env x = pure x := by intro _; rfl) : Ex X B (.For tg e body [] pos) S K := by
  let sI : Nat → σ := fun i => match runE step (ys.take i) s0 with | .ok s => s | .error _ => s0
  refine ex_forT hp hc (fun i => stF (sI i)) (fun i => runE step (ys.take i) s0 = .ok (sI i) ∧ Q i (sI i)) hsrc h0 ⟨rfl, q0⟩ (fun i y hy hP => ?_) (fun hP => ?_) hf
  · obtain ⟨S2, h1, h2⟩ := hs i y _ hy hP.1 hP.2
    refine ⟨S2, h1, h2.mono fun o ho => ?_⟩
    have nx : ∀ s', step (sI i) y = .ok s' → sI (i + 1) = s' ∧ runE step (ys.take (i + 1)) s0 = .ok s' := fun s' e => by
      have := runE_split hy hP.1
      rw [e] at this
      refine ⟨?_, this⟩
      show (match runE step (ys.take (i + 1)) s0 with | .ok s => s | .error _ => s0) = s'
      rw [this]
    cases o with
    | nx S =>
      obtain ⟨s', e, l, q⟩ := ho
      obtain ⟨e1, e2⟩ := nx s' e
      show Le S (stF (sI (i + 1))) ∧ runE step (ys.take (i + 1)) s0 = .ok (sI (i + 1)) ∧ Q (i + 1) (sI (i + 1))
      rw [e1]; exact ⟨l, e2, q⟩
    | ct S =>
      obtain ⟨s', e, l, q⟩ := ho
      obtain ⟨e1, e2⟩ := nx s' e
      show Le S (stF (sI (i + 1))) ∧ runE step (ys.take (i + 1)) s0 = .ok (sI (i + 1)) ∧ Q (i + 1) (sI (i + 1))
      rw [e1]; exact ⟨l, e2, q⟩
    | bk S => exact False.elim ho
    | ret c S =>
      obtain ⟨r, e, l⟩ := ho
      exact hr r c S (runE_err hy hP.1 e) l
  · obtain ⟨h1, h2⟩ := hP
    rw [List.take_length] at h1
    exact hd _ h1 h2
end
end Nz
namespace Nz
open PySem PySem.Spec PyProof.Rows L2
section
variable {X : Cx} {B : Bd} {S S1 : Nz.S} {es : List Expr} {pos : Pos} {τ : Type} {enc : τ → D}
theorem ev_lstF (xs : List τ) {ds : List D} (h : Ea X B es S (ds.map Ce.fr) S1) (hd : ds = xs.map enc) (hz : xs.length ≤ sizeLine) : Ev X B (.List es pos) S (.fr (eL enc xs)) S1 := by
  subst hd
  exact ev_lst h (by rw [List.length_map]; exact hz)
end
end Nz
namespace Nz
open PySem PySem.Spec PyProof.Rows L2
mutual
def toP : D → PyData
  | .non => .none
  | .bl b => .bool b
  | .int i => .int i
  | .str s => .str s
  | .tup xs => .tuple (toPs xs)
  | .lst xs => .list (toPs xs)
  | .obj _ _ => .none
def toPs : List D → List PyData
  | [] => []
  | x :: xs => toP x :: toPs xs
end
mutual
def dataOk : D → Bool
  | .obj _ _ => false
  | .tup xs => datasOk xs
  | .lst xs => datasOk xs
  | _ => true
def datasOk : List D → Bool
  | [] => true
  | x :: xs => dataOk x && datasOk xs
end
mutual
theorem plain_toP : ∀ d : D, (toP d).plain = true
  | .non => rfl
  | .bl b => rfl
  | .int i => rfl
  | .str s => rfl
  | .tup xs => by simp only [toP, PyData.plain]; exact plain_toPs xs
  | .lst xs => by simp only [toP, PyData.plain]; exact plain_toPs xs
  | .obj _ _ => rfl
theorem plain_toPs : ∀ ds : List D, PyData.plainAll (toPs ds) = true
  | [] => rfl
  | x :: xs => by simp only [toPs, PyData.plainAll, plain_toP x, plain_toPs xs, Bool.and_self]
end
section
variable {K : Frag} {mg : Mg} {F H : Hp}
mutual
theorem dp_of (s : Same F H) : ∀ (d : D) (v : V), Rep K mg F d v → dataOk d = true → Dp K H v (toP d)
  | .non, _, r, h => by cases r; exact .non
  | .bl b, _, r, h => by cases r; exact .bl b
  | .int i, _, r, h => by cases r; exact .int i
  | .str z, _, r, h => by cases r; exact .str z
  | .tup xs, _, r, h => by
    cases r with
    | tup h1 h2 => exact .tup (s.seqT h1) (dps_of s xs _ h2 (by simpa [dataOk] using h))
  | .lst xs, _, r, h => by
    cases r with
    | lst h1 h2 => exact .lst (s.seq h1) (dps_of s xs _ h2 (by simpa [dataOk] using h))
  | .obj _ _, _, r, h => by simp [dataOk] at h
theorem dps_of (s : Same F H) : ∀ (ds : List D) (vs : List V), Reps K mg F ds vs → datasOk ds = true → DpAll K H vs (toPs ds)
  | [], _, r, h => by cases r; exact .nil
  | x :: xs, _, r, h => by
    cases r with
    | cons h1 h2 =>
      simp only [datasOk, Bool.and_eq_true] at h
      exact .cons (dp_of s x _ h1 h.1) (dps_of s xs _ h2 h.2)
end
end
/-- an encoding that == reads as = -/
structure EqEnc {τ : Type} [DecidableEq τ] (n : Nat) (e : τ → D) : Prop where
  ok : ∀ x, dataOk (e x) = true
  eqv : ∀ x y, PyData.eqv (toP (e x)) (toP (e y)) = decide (x = y)
  dep : ∀ x, (toP (e x)).depth ≤ n
theorem ee_int : EqEnc 0 D.int := ⟨fun _ => rfl, fun x y => by simp only [toP, PyData.eqv]; rw [Bool.eq_iff_iff]; simp, fun _ => Nat.zero_le _⟩
theorem ee_str : EqEnc 0 D.str := ⟨fun _ => rfl, fun x y => by simp only [toP, PyData.eqv]; rw [Bool.eq_iff_iff]; simp, fun _ => Nat.zero_le _⟩
section
variable {τ μ ν κ ι : Type} [DecidableEq τ] [DecidableEq μ] [DecidableEq ν] [DecidableEq κ] [DecidableEq ι] {a b c d f n : Nat} {e : τ → D} {e2 : μ → D} {e3 : ν → D} {e4 : κ → D} {e5 : ι → D}
theorem ees_ok (h : EqEnc n e) : ∀ xs : List τ, datasOk (xs.map e) = true
  | [] => rfl
  | x :: xs => by simp only [List.map_cons, datasOk, h.ok, ees_ok h xs, Bool.and_self]
theorem ees_eqv (h : EqEnc n e) : ∀ xs ys : List τ, PyData.eqvAll (toPs (xs.map e)) (toPs (ys.map e)) = decide (xs = ys)
  | [], [] => by simp [toPs, PyData.eqvAll]
  | [], _ :: _ => by simp [toPs, PyData.eqvAll]
  | _ :: _, [] => by simp [toPs, PyData.eqvAll]
  | x :: xs, y :: ys => by
    simp only [List.map_cons, toPs, PyData.eqvAll, h.eqv, ees_eqv h xs ys]
    rw [Bool.eq_iff_iff]; simp
theorem ees_dep (h : EqEnc n e) : ∀ xs : List τ, PyData.depthAll (toPs (xs.map e)) ≤ n
  | [] => by simp [toPs, PyData.depthAll]
  | x :: xs => by
    simp only [List.map_cons, toPs, PyData.depthAll]
    have h1 := h.dep x
    have h2 := ees_dep h xs
    omega
theorem ee_L (h : EqEnc n e) : EqEnc (n + 1) (eL e) := ⟨fun xs => by simp only [dataOk]; exact ees_ok h xs, fun xs ys => by simp only [toP, PyData.eqv]; exact ees_eqv h xs ys, fun xs => by simp only [toP, PyData.depth]; have := ees_dep h xs; omega⟩
theorem ee_T2 (h1 : EqEnc a e) (h2 : EqEnc b e2) : EqEnc (a + b + 1) (eT2 e e2) := ⟨fun x => by simp [dataOk, datasOk, h1.ok, h2.ok], fun x y => by
    simp only [toP, toPs, PyData.eqv, PyData.eqvAll, h1.eqv, h2.eqv]
    rw [Bool.eq_iff_iff]; simp [Prod.ext_iff], fun x => by simp only [toP, toPs, PyData.depth, PyData.depthAll]; have := h1.dep x.1; have := h2.dep x.2; omega⟩
variable {X : Cx}
theorem o_eqD (hu : X.A.units + 64 < cLine) (h : EqEnc n e) {x y : τ} (hn : n ≤ 60 := by decide) : Op2 X (compareOp .Eq) (e x) (e y) (.bl (decide (x = y))) :=
  fun B F α H σ S Q v1 v2 R r1 r2 k pins s u1 u2 I q1 q2 => by
    obtain ⟨as, ra⟩ := Dp.reads I _ _ _ (dp_of R.sub _ _ r1 (h.ok x)) q1
    obtain ⟨bs, rb⟩ := Dp.reads I _ _ _ (dp_of R.sub _ _ r2 (h.ok y)) q2
    refine PySem.SeqAt.eq_plain ra rb (plain_toP _) (plain_toP _) ?_ ?_
    · have := h.dep x; have := Nat.min_le_left (toP (e x)).depth (toP (e y)).depth; omega
    · rw [h.eqv]; exact ⟨.bl _, H, I, rfl, k F α _ H R Stp.refl (.bl _)⟩
theorem o_neD (hu : X.A.units + 64 < cLine) (h : EqEnc n e) {x y : τ} (hn : n ≤ 60 := by decide) : Op2 X (compareOp .NotEq) (e x) (e y) (.bl (!decide (x = y))) :=
  fun B F α H σ S Q v1 v2 R r1 r2 k pins s u1 u2 I q1 q2 => by
    obtain ⟨as, ra⟩ := Dp.reads I _ _ _ (dp_of R.sub _ _ r1 (h.ok x)) q1
    obtain ⟨bs, rb⟩ := Dp.reads I _ _ _ (dp_of R.sub _ _ r2 (h.ok y)) q2
    refine PySem.SeqAt.ne_plain ra rb (plain_toP _) (plain_toP _) ?_ ?_
    · have := h.dep x; have := Nat.min_le_left (toP (e x)).depth (toP (e y)).depth; omega
    · rw [h.eqv]; exact ⟨.bl _, H, I, rfl, k F α _ H R Stp.refl (.bl _)⟩
theorem toPs_any (h : EqEnc n e) (x : τ) : ∀ ys : List τ, ((toPs (ys.map e)).any fun y => PyData.eqv y (toP (e x))) = decide (x ∈ ys)
  | [] => by simp [toPs]
  | y :: ys => by
    rw [List.map_cons]
    show (PyData.eqv (toP (e y)) (toP (e x)) || (toPs (ys.map e)).any fun y => PyData.eqv y (toP (e x))) = _
    rw [h.eqv, toPs_any h x ys, Bool.eq_iff_iff, Bool.or_eq_true, decide_eq_true_iff, decide_eq_true_iff, decide_eq_true_iff, List.mem_cons]
    exact or_congr eq_comm Iff.rfl
theorem o_inL (hu : X.A.units + 64 < cLine) (h : EqEnc n e) {x : τ} {ys : List τ} (hn : n ≤ 60 := by decide) : Op2 X (compareOp .In) (e x) (eL e ys) (.bl (decide (x ∈ ys))) :=
  fun B F α H σ S Q v1 v2 R r1 r2 k pins s u1 u2 I q1 q2 => by
    obtain ⟨as, ra⟩ := Dp.reads I _ _ _ (dp_of R.sub _ _ r1 (h.ok x)) q1
    obtain ⟨bs, rb⟩ := Dp.reads I _ _ _ (dp_of R.sub _ _ r2 ((ee_L h).ok ys)) q2
    refine PySem.SeqAt.in_list_data (xs := toPs (ys.map e)) rb ra (plain_toPs _) (plain_toP _) ?_ ?_
    · have := h.dep x; have := Nat.min_le_right (PyData.depthAll (toPs (ys.map e))) (toP (e x)).depth; omega
    · rw [toPs_any h]; exact ⟨.bl _, H, I, rfl, k F α _ H R Stp.refl (.bl _)⟩
theorem o_ninL (hu : X.A.units + 64 < cLine) (h : EqEnc n e) {x : τ} {ys : List τ} (hn : n ≤ 60 := by decide) : Op2 X (compareOp .NotIn) (e x) (eL e ys) (.bl (!decide (x ∈ ys))) :=
  fun B F α H σ S Q v1 v2 R r1 r2 k pins s u1 u2 I q1 q2 => by
    obtain ⟨as, ra⟩ := Dp.reads I _ _ _ (dp_of R.sub _ _ r1 (h.ok x)) q1
    obtain ⟨bs, rb⟩ := Dp.reads I _ _ _ (dp_of R.sub _ _ r2 ((ee_L h).ok ys)) q2
    refine PySem.SeqAt.notIn_list_data (xs := toPs (ys.map e)) rb ra (plain_toPs _) (plain_toP _) ?_ ?_
    · have := h.dep x; have := Nat.min_le_right (PyData.depthAll (toPs (ys.map e))) (toP (e x)).depth; omega
    · rw [toPs_any h]; exact ⟨.bl _, H, I, rfl, k F α _ H R Stp.refl (.bl _)⟩
end
def iterW {σ : Type} (c : σ → Bool) (f : σ → σ) : Nat → σ → σ
  | 0, s => s
  | n + 1, s => if c s = true then iterW c f n (f s) else s
theorem iterW_stop {σ : Type} {c : σ → Bool} {f : σ → σ} {s : σ} (h : c s = false) : ∀ n, iterW c f n s = s
  | 0 => rfl
  | n + 1 => by unfold iterW; rw [h, if_neg Bool.false_ne_true]
section
variable {X : Cx} {B : Bd} {S : Nz.S} {e : Expr} {pos : Pos} {K : Out → Prop} {body : List Stmt} {σ : Type}
theorem ex_whileF (stF : σ → Nz.S) (c : σ → Bool) (f : σ → σ) (s0 : σ) (n : Nat) (Q : σ → Prop) (μ : σ → Nat) (h0 : Le S (stF s0)) (q0 : Q s0) (hn : μ s0 ≤ n) (hm : ∀ s, Q s → c s = true → Q (f s) ∧ μ (f s) < μ s)
    (ht : ∀ s, Q s → Et X B e (stF s) (c s) (stF s)) (hs : ∀ s, Q s → c s = true → Exs X B body (stF s) (loopF (stF (f s)) True))
    (hd : Q (iterW c f n s0) → c (iterW c f n s0) = false → K (.nx (stF (iterW c f n s0)))) (hp : PassesOwn (model X.prog X.w) X.A X.env X.xe) : Ex X B (.While e body [] pos) S K :=
  fun F α H τ D R o => wS.of (ps_while hp pt_w pss_w) (by
    refine ⟨fun m σ' H' => ∃ s k F' α', m = μ s ∧ Q s ∧ μ s ≤ k ∧ iterW c f k s = iterW c f n s0 ∧ RelX X B F' α' H' σ' (stF s) ∧ Same F F', ⟨μ s0, s0, n, F, α, rfl, q0, hn, rfl, R.le h0, Same.refl _⟩, ?_⟩
    rintro m σ' H' ⟨s, k, F', α', rfl, q, hk, he, R', sm⟩
    refine ht s q F' α' H' σ' _ R' fun F1 α1 H1 R1 st1 => ?_
    have sall : Same F F1 := sm.trans st1.fro
    cases hc : c s with
    | true =>
      obtain ⟨q', l⟩ := hm s q hc
      rw [if_pos rfl]
      refine ⟨fun σ2 H2 => ∃ F2 α2, RelX X B F2 α2 H2 σ2 (stF (f s)) ∧ Same F F2, fun σ2 H2 ⟨F2, α2, R2, s2⟩ => ⟨μ (f s), l, f s, k - 1, F2, α2, rfl, q', by omega, ?_, R2, s2⟩, hs s q hc F1 α1 H1 σ' _ R1 ?_⟩
      · rw [← he]
        obtain ⟨k', rfl⟩ : ∃ k', k = k' + 1 := ⟨k - 1, by omega⟩
        show iterW c f k' (f s) = if c s = true then iterW c f k' (f s) else s
        rw [if_pos hc]
      · exact ⟨fun S4 F4 α4 H4 σ4 k4 R4 s4 => ⟨F4, α4, R4.le k4.1, sall.trans s4⟩, fun S4 F4 α4 H4 σ4 k4 R4 s4 => k4.elim, fun S4 F4 α4 H4 σ4 k4 R4 s4 => ⟨F4, α4, R4.le k4.1, sall.trans s4⟩, fun c S4 F4 α4 H4 σ4 v k4 R4 s4 r4 => k4.elim⟩
    | false =>
      rw [if_neg Bool.false_ne_true]
      rw [iterW_stop hc] at he
      exact o.nx _ F1 α1 H1 σ' (by rw [he]; exact hd (by rw [← he]; exact q) (by rw [← he]; exact hc)) R1 sall)
end
end Nz
namespace Nz
open PySem PySem.Spec PyProof.Rows L2
/-- the law's promise in the layer's own words -/
def spTrue (K : Frag) : Sp := fun vs H Q _ => ∃ (a : Addr) (ns : List Int), vs = [.ref a] ∧ SqL K H a (ns.map V.int) ∧ ns.length ≤ 63 ∧ ∀ H', Q (.bl true) H'
theorem spTrue_of {K : Frag} {mg : Mg} {mir : List Int → Bool} (hm : ∀ ns : List Int, ns.length ≤ 63 → mir ns = true) {vs : List V} {H : Hp} {Q : VK} {E : XK} (h : spTrue K vs H Q E) :
    SpOf K mg (fun cs L Kc => ∃ script : List Int, cs = [.fr (eL D.int script)] ∧ L = [] ∧ script.length ≤ 63 ∧ ∀ L', Kc (.fr (D.bl (mir script))) L') vs H Q E := by
  obtain ⟨a, ns, rfl, hs, hl, q⟩ := h
  refine ⟨H, fun _ => 0, [], [.fr (eL D.int ns)], fun _ => False, ⟨Same.refl _, Same.refl _, fun b o e => .inl e, fun b o e _ => e, List.nodup_nil, fun n m h => absurd h (by simp [names]), fun n o h => absurd h (by simp), .so (Rep.lst hs Reps.ints) .nil, fun n a h hn => absurd hn (by simp [names])⟩, ns, rfl, rfl, hl, fun L' F' α' v H' ρ' σ' R' r' => ?_⟩
  rw [hm ns hl] at r'
  cases (show Rep K mg F' (.bl true) v from r')
  exact q H'
end Nz
namespace Nz
open PySem PySem.Spec PyProof.Rows L2
def minL : List Int → Int
  | [] => 0
  | x :: xs => xs.foldl (fun a b => if b < a then b else a) x
def maxL : List Int → Int
  | [] => 0
  | x :: xs => xs.foldl (fun a b => if b > a then b else a) x
theorem foldmin : ∀ (xs : List Int) (a : Int), (xs.foldl (fun a b => if b < a then b else a) a = a ∨ xs.foldl (fun a b => if b < a then b else a) a ∈ xs) ∧ xs.foldl (fun a b => if b < a then b else a) a ≤ a ∧ ∀ y ∈ xs, xs.foldl (fun a b => if b < a then b else a) a ≤ y
  | [], a => ⟨.inl rfl, Int.le_refl _, fun y h => absurd h (by simp)⟩
  | x :: xs, a => by
    rw [List.foldl_cons]
    have ih := foldmin xs (if x < a then x else a)
    refine ⟨?_, ?_, fun y hy => ?_⟩
    · rcases ih.1 with h | h
      · rw [h]; split
        · exact .inr List.mem_cons_self
        · exact .inl rfl
      · exact .inr (List.mem_cons_of_mem _ h)
    · have := ih.2.1; split at this <;> omega
    · rcases List.mem_cons.mp hy with rfl | hy
      · have := ih.2.1; split at this <;> omega
      · exact ih.2.2 y hy
theorem foldmax : ∀ (xs : List Int) (a : Int), (xs.foldl (fun a b => if b > a then b else a) a = a ∨ xs.foldl (fun a b => if b > a then b else a) a ∈ xs) ∧ a ≤ xs.foldl (fun a b => if b > a then b else a) a ∧ ∀ y ∈ xs, y ≤ xs.foldl (fun a b => if b > a then b else a) a
  | [], a => ⟨.inl rfl, Int.le_refl _, fun y h => absurd h (by simp)⟩
  | x :: xs, a => by
    rw [List.foldl_cons]
    have ih := foldmax xs (if x > a then x else a)
    refine ⟨?_, ?_, fun y hy => ?_⟩
    · rcases ih.1 with h | h
      · rw [h]; split
        · exact .inr List.mem_cons_self
        · exact .inl rfl
      · exact .inr (List.mem_cons_of_mem _ h)
    · have := ih.2.1; split at this <;> omega
    · rcases List.mem_cons.mp hy with rfl | hy
      · have := ih.2.1; split at this <;> omega
      · exact ih.2.2 y hy
theorem minL_mem {ns : List Int} (h : ns ≠ []) : minL ns ∈ ns := by
  cases ns with
  | nil => exact absurd rfl h
  | cons x xs =>
    rcases (foldmin xs x).1 with e | e
    · show xs.foldl _ x ∈ _; rw [e]; exact List.mem_cons_self
    · exact List.mem_cons_of_mem _ e
theorem maxL_mem {ns : List Int} (h : ns ≠ []) : maxL ns ∈ ns := by
  cases ns with
  | nil => exact absurd rfl h
  | cons x xs =>
    rcases (foldmax xs x).1 with e | e
    · show xs.foldl _ x ∈ _; rw [e]; exact List.mem_cons_self
    · exact List.mem_cons_of_mem _ e
section
variable {X : Cx} {B : Bd} {S S1 S2 S3 : Nz.S} {tg a b c e : Expr} {es : List Expr} {pos p q p2 : Pos} {d : D} {ds : List D} {x : Str} {id : String} {τ : Type} {enc : τ → D}
theorem mulW_of {i j : Int} (h : -(2 ^ 900) < i ∧ i < 2 ^ 900 ∧ -(2 ^ 900) < j ∧ j < 2 ^ 900) : CMulW i j :=
  wide_mul (a := 900) (b := 900) (by omega) (by omega) (by decide) (by decide) (by decide)
theorem divW_of {i j : Int} (h : 0 < j ∧ j < 2 ^ 900) : CDivW i j := wide_div (b := 900) h.1 (by omega) (by decide) (by decide)
end
end Nz
namespace Nz
open PySem PySem.Spec PyProof.Rows L2
section
variable {K : Frag} {mg : Mg} {B : Bd} {F F' : Hp} {α : Nat → Addr} {H H' : Hp} {σ : L2.St} {S : Nz.S} {L : List (Nat × LO)} {Q : VK} {E : XK}
theorem RepF.nolook {f : Str} : ∀ {fs : List (Str × D)} {vs : List (Str × V)}, RepF K mg F fs vs → fs.lookup f = none → vs.lookup f = none
  | _, _, .nil, h => rfl
  | (n, e) :: fs, (_, v) :: vs, .cons r rs, h => by
    rw [List.lookup_cons] at h ⊢
    cases hb : (f == n) with
    | true => rw [hb] at h; cases h
    | false => rw [hb] at h; exact rs.nolook h
theorem paired_slotsL : ∀ {ds : List D} {vs : List V}, Reps K mg F ds vs → SlR K mg F α L ((ds.map Ce.fr).map some) (vs.map some)
  | _, _, .nil => .nil
  | _, _, .cons h r => .so h (paired_slotsL r)
theorem CRelF.fr : ∀ {fs : List (Str × D)} {vs : List (Str × V)}, CRelF K mg F α L (fs.map fun p => (p.1, Ce.fr p.2)) vs → RepF K mg F fs vs
  | [], _, .nil => .nil
  | _ :: _, _, .cons h r => .cons h (CRelF.fr r)
/-- __init__ -/
theorem init_call {sp : SpN} {x dx C : Addr} {c : Str} {ds : List D} {vs : List V} {fs : List (Str × D)} (R : Rel K mg B F α H σ S) (hx : H x = none) (hd : H dx = none) (hne : dx ≠ x) (hm : mg c = some (.ref C)) (r : Reps K mg F ds vs)
    (hs : ∀ Kc : Ce → List (Nat × LO) → Prop, Kc (.fr .non) [(0, .ins c (fs.map fun p => (p.1, Ce.fr p.2)))] → sp (.ad 0 :: ds.map Ce.fr) [(0, .ins c [])] Kc)
    (k : ∀ F' H', Rel K mg B F' α H' σ S → Same F F' → Rep K mg F' (.obj c fs) (.ref x) → Q (.ref x) H') :
    SpOf K mg sp (.ref x :: vs) (upd (upd H dx (.own x)) x (.ins C dx [])) (fun v H2 => v = .non ∧ Q (.ref x) H2) E := by
  have fx : F x = none := by
    cases q : F x with
    | none => rfl
    | some o => rw [R.sub x o q] at hx; cases hx
  have fdx : F dx = none := by
    cases q : F dx with
    | none => rfl
    | some o => rw [R.sub dx o q] at hd; cases hd
  have hH2 : ∀ b o, H b = some o → upd (upd H dx (.own x)) x (.ins C dx []) b = some o := fun b o e => by
    rw [upd_ne (fun q => by rw [q, hx] at e; cases e), upd_ne (fun q => by rw [q, hd] at e; cases e)]; exact e
  refine ⟨F, fun _ => x, [(0, .ins c [])], .ad 0 :: ds.map Ce.fr, fun b => b = x ∨ b = dx, ⟨fun b o e => hH2 b o (R.sub b o e), Same.refl _, fun b o e => .inl e, fun b o e _ => e, by simp [names], fun n m h1 h2 _ => ?_, fun n o h => ?_, .so ⟨by simp [names], rfl⟩ (?_), fun n a h hn => ?_⟩, hs _ ?_⟩
  · simp only [names, List.map_cons, List.map_nil, List.mem_singleton] at h1 h2; rw [h1, h2]
  · simp only [List.mem_singleton, Prod.mk.injEq] at h
    obtain ⟨rfl, rfl⟩ := h
    refine ⟨fx, .inr (.inl rfl), C, dx, [], hm, upd_same, ?_, fdx, .inr (.inr rfl), .nil⟩
    rw [upd_ne hne]; exact upd_same
  · exact paired_slotsL r
  · have h2 : (if n < 100 then some x else none) = some a := h
    split at h2
    · cases h2; rfl
    · cases h2
  · intro F' α' v H' ρ' σ' R' r'
    have hv : v = .non := by cases r'; rfl
    refine ⟨hv, ?_⟩
    have hfix : α' 0 = x := R'.fix 0 x rfl (by simp [names])
    obtain ⟨q1, q2, C', dx', us, m1, e1, e2, e3, e4, rf⟩ := R'.live 0 _ (List.mem_singleton.mpr rfl)
    rw [hfix] at q1 q2 e1 e2
    have hne' : dx' ≠ x := fun q => by rw [q, e1] at e2; cases e2
    have old : ∀ b o, H b = some o → ¬ (b = x ∨ b = dx) := fun b o e q => by
      rcases q with q | q
      · rw [q, hx] at e; cases e
      · rw [q, hd] at e; cases e
    have hfresh : ∀ b, (upd (upd H dx (.own x)) x (.ins C dx []) b = none ∨ (b = x ∨ b = dx)) → H b = none := fun b q => by
      cases e : H b with
      | none => rfl
      | some o =>
        rcases q with q | q
        · rw [hH2 b o e] at q; cases q
        · exact absurd q (old b o e)
    have hF2 : Same F' (upd (upd F' dx' (.own x)) x (.ins C' dx' us)) := fun b o e => by
      rw [upd_ne (fun q => by rw [q, q1] at e; cases e), upd_ne (fun q => by rw [q, e3] at e; cases e)]; exact e
    have gx : upd (upd F' dx' (.own x)) x (.ins C' dx' us) x = some (.ins C' dx' us) := upd_same
    have gd : upd (upd F' dx' (.own x)) x (.ins C' dx' us) dx' = some (.own x) := by rw [upd_ne hne']; exact upd_same
    refine k (upd (upd F' dx' (.own x)) x (.ins C' dx' us)) H' (R.grow ((show Same F F' from R'.bF).trans hF2) (fun b o e => R'.frame b o (hH2 b o e) (old b o e)) (fun b o e => ?_) (fun b u e => ?_)) ((show Same F F' from R'.bF).trans hF2) ?_
    · by_cases h1 : b = x
      · subst h1; rw [gx] at e; cases e; exact e1
      · rw [upd_ne h1] at e
        by_cases h2 : b = dx'
        · subst h2; rw [upd_same] at e; cases e; exact e2
        · rw [upd_ne h2] at e; exact R'.sub b o e
    · by_cases h1 : b = x
      · subst h1; exact .inr hx
      · rw [upd_ne h1] at e
        by_cases h2 : b = dx'
        · subst h2; exact .inr (hfresh _ e4)
        · rw [upd_ne h2] at e
          rcases R'.nF b u e with z | z | z
          · exact .inl z
          · exact .inr (hfresh b (.inl z))
          · exact .inr (hfresh b (.inr z))
    · exact .obj m1 gx gd ((CRelF.fr rf).mono hF2)
end
section
variable {X : Cx} {B : Bd} {S S1 S2 : Nz.S} {a e o : Expr} {es : List Expr} {pos apos p q : Pos} {d d1 : D} {ds : List D} {c f m x : Str} {fs : List (Str × D)} {C g pr : Addr} {fd : FuncData} {ps : List Str} {k : Nat} {sp : SpN}
/-- e.f -/
theorem ev_fld (hm : X.mg c = some (.ref C)) (hc : Cls X.K C) (hn : NoAttr X.K C f) (hl : fs.lookup f = some d) (ha : Ev X B a S (.fr (.obj c fs)) S1) (hb : attributeBase a f X.env (eval a X.env) = eval a X.env := by rfl) : Ev X B (.Attribute a f pos) S (.fr d) S1 :=
  fun F α H σ Q R k => wE.of (pe_fld pe_w hb) (ha F α H σ _ R fun F1 α1 v1 H1 R1 st1 r1 => by
    cases (show Rep X.K X.mg F1 (.obj c fs) v1 from r1) with
    | obj m e1 e2 rf =>
      rw [m] at hm; cases hm
      obtain ⟨v, hv, rv⟩ := rf.look hl
      exact ⟨_, _, _, _, v, rfl, R1.sub _ _ e1, hc, hn, hv, k F1 α1 v H1 R1 st1 rv⟩)
/-- o.m(e, ..) -/
theorem ev_meth {pl : Sem Bool} (hm : X.mg c = some (.ref C)) (hc : Cls X.K C) (hme : Meth X.K C m g) (hnl : fs.lookup m = none) (F : FnOk X.prog X.w X.K X.mg X.base CX0 k g fd ps (SpOf X.K X.mg sp)) (hr : Room k X.A) (hb : Binds X.K fd ps [])
    (ho : Ev X B o S (.fr (.obj c fs)) S1) (ha : Ea X B (e :: es) S1 (ds.map Ce.fr) S2) (hs : ∀ Kc : Ce → List (Nat × LO) → Prop, (∀ L', Kc (.fr d) L') → sp (.fr (.obj c fs) :: ds.map Ce.fr) [] Kc) (h1 : Sub S.L S1.L := by exact Sub.refl) (h2 : Sub S1.L S2.L := by exact Sub.refl)
    (hst : starEach (e :: es) X.env = (false, eval e X.env) :: starEach es X.env := by rfl) (hpl : (backTo pos (starEach es X.env)).any (·.1) = false := by rfl)
    (ht : eval (.Call (.Attribute o m apos) (e :: es) [] pos) X.env = (do
      let ov ← eval o X.env
      standAt apos.atName
      let (f, first) ← holding [ov] (getMethod ov m pl)
      callWith pos f first (backTo pos (starEach (e :: es) X.env)) (backToKw pos (keywordEach [] X.env))) := by rfl) : Ev X B (.Call (.Attribute o m apos) (e :: es) [] pos) S (.fr d) S2 :=
  fun F0 α H σ Q R k => wE.of (pe_meth pe_w hc hme F hr hb .nil pass0 pa_w hst hpl ht) (ho F0 α H σ _ R fun F1 α1 v1 H1 R1 st1 r1 => by
    have r := r1
    cases (show Rep X.K X.mg F1 (.obj c fs) v1 from r1) with
    | obj m e1 e2 rf =>
      rw [m] at hm; cases hm
      refine ⟨_, _, _, rfl, R1.sub _ _ e1, rf.nolook hnl, ha F1 α1 H1 σ _ R1 fun F2 α2 vs H2 R2 st2 r2 => ?_⟩
      have rr := CRels.fr r2
      rw [List.append_nil]
      exact ⟨F2, α2, [], _, fun _ => False, R2.call0 (ds := .obj c fs :: ds) (.cons (Rep.mono st2.fro r) rr), hs _ fun L' F' α' v H' ρ' σ' R' r' => k F' α2 v H' (R2.back0 R') ((st1.trans st2 h1).trans ⟨R'.bF, fun _ _ => rfl⟩ fun n h => h2 n (h1 n h)) r'⟩)
/-- the fields behind self.f = .. -/
def putC (f : Str) (c : Ce) : List (Str × Ce) → List (Str × Ce)
  | [] => [(f, c)]
  | (g, x) :: r => if g = f then (g, c) :: r else (g, x) :: putC f c r
theorem CRelF.put {K : Frag} {mg : Mg} {F : Hp} {α : Nat → Addr} {L : List (Nat × LO)} {f : Str} {c : Ce} {v : V} (h : CRel K mg F α L c v) : ∀ {fs : List (Str × Ce)} {vs : List (Str × V)}, CRelF K mg F α L fs vs → CRelF K mg F α L (putC f c fs) (putF f v vs)
  | [], _, .nil => .cons h .nil
  | (g, _) :: _, _, .cons r rs => by
    unfold putC putF
    by_cases q : g = f
    · rw [if_pos q, if_pos q]; exact .cons h rs
    · rw [if_neg q, if_neg q]; exact .cons r (rs.put h)
theorem CRelF.len {K : Frag} {mg : Mg} {F : Hp} {α : Nat → Addr} {L : List (Nat × LO)} : ∀ {fs : List (Str × Ce)} {vs : List (Str × V)}, CRelF K mg F α L fs vs → fs.length = vs.length
  | [], _, .nil => rfl
  | _ :: _, _, .cons r rs => congrArg (· + 1) rs.len
/-- self.f = e -/
theorem ex_fld {K : Out → Prop} {n : Nat} {fsC : List (Str × Ce)} {d : D} (hm : X.mg c = some (.ref C)) (hc : Cls X.K C) (hn : NoAttr X.K C f) (he : Ev X B e S (.fr d) S1) (ho : Ev X B o S1 (.ad n) S1) (hl : getL n S1.L = some (.ins c fsC)) (h100 : fsC.length < 1000)
    (k : K (.nx ⟨S1.ρ, setL n (.ins c (putC f (.fr d) fsC)) S1.L⟩)) (hs : swapsWith e (some (.Attribute o f p)) pos.line X.env = pure false := by rfl) : Ex X B (.Assign [.Attribute o f p] e pos) S K :=
  fun F α H σ D R oo => wS.of (ps_fld pe_w pe_w hs) (he F α H σ _ R fun F1 α1 v1 H1 R1 st1 r1 => ho F1 α1 H1 σ _ R1 fun F2 α2 v2 H2 R2 st2 r2 => by
    obtain ⟨hn1, rfl⟩ := r2
    have hmm := getL_mem hl
    obtain ⟨f0, f1, C', dx, vs, m1, e1, e2, e3, e4, rf⟩ := R2.live n _ hmm
    rw [m1] at hm; cases hm
    refine ⟨_, _, dx, vs, rfl, e1, hc, hn, by rw [← rf.len]; exact h100, ?_⟩
    have hne : dx ≠ α2 n := fun q => by rw [q, e1] at e2; cases e2
    have Rp := R2.put (n := n) (u := .ins c (putC f (.fr d) fsC)) (o' := .ins _ dx (putF f v1 vs)) hmm ⟨_, dx, _, m1, upd_same, by rw [upd_ne hne]; exact e2, e3, e4, (rf.put (c := .fr d) (Rep.mono st2.fro r1)).step Stp.refl fun m h => by rw [names_setL]; exact h⟩
    exact oo.nx _ F2 α2 _ σ k Rp (st1.fro.trans st2.fro))
end
end Nz
namespace Nz
open PySem PySem.Spec PyProof.Rows L2
open AutoSeq1 (wpAny_loadPart')
open Sem (wp)
def tuI (t : Addr) : Obj := { cls := .type "tuple_iterator", data := .fields #[.ref t, .int 0 0] }
def enO (it : Addr) : Obj := { cls := .type "enumerate", data := .fields #[.none, .bool false, .ref it, rawInt 0, .none, .none] }
theorem enumT_new (t : Addr) (its : Array Value) (k : Nat) (dd : Option Addr) (ss : Array (Option Value)) :
    Meets (Builtin.«enumerate.__new__» ⟨[.type "enumerate", .ref t], []⟩) (fun _ R z => z.heap.get? t = some { cls := .type "tuple", dict := dd, data := .seq its k, slots := ss } ∧
      R (.ok (.ret (.ref (z.heap.push (tuI t)).objs.size))) { z with heap := (z.heap.push (tuI t)).push (enO z.heap.objs.size) }) := .of_wp fun P w A R z hz => by
  obtain ⟨q1, q2, q3, q4, q5⟩ := z
  obtain ⟨e, hR⟩ := hz
  have sub := sub_enumerate
  have T : Heap.IsTuple (Shared.heap ⟨q1, q2, q3, q4, q5⟩) t its := ⟨_, e, rfl, k, rfl⟩
  wp_walk using wpAny_loadPart' e
  refine wpAny_stack_any fun _ => wpAny_pure ?_
  split
  · rename_i y _ _ _ _ _
    cases (y == Value.type "enumerate") <;> (wp_walk using wpAny_loadPart' e, wpAny_pyIter_tuple T; exact ⟨_, rfl, hR⟩)
  · wp_walk using wpAny_loadPart' e, wpAny_pyIter_tuple T; exact ⟨_, rfl, hR⟩
theorem enumT_call {P : Program} {w : World} {A : Around} {E : Value → Shared → Prop} {z : Shared} {t : Addr} {its : Array Value} {Q : Value → Shared → Prop} (T : z.heap.IsTuple t its)
    (k : ∀ h', IsEnum h' (z.heap.objs.size + 1) z.heap.objs.size 0 .none → h'.IsTupleIter z.heap.objs.size t 0 → (∀ b o, z.heap.get? b = some o → h'.get? b = some o) → Q (.ref (z.heap.objs.size + 1)) { z with heap := h' }) :
    wpAny (model P w) A (call (.type "enumerate") [.ref t]) Q E z := by
  obtain ⟨⟨oc, od, dt, ss⟩, e, e1, kk, e2⟩ := T
  simp only at e1 e2
  subst e1 e2
  refine callType_new F.called_enumerate (by decide) (F.typeCall_enumerate_1 _) (F.newCall_enumerate_1 _) (fun o => F.args_object_init_2 o _) F.entry_enumerate_new (enumT_new t its kk od ss) ⟨e, ?_⟩
  have sz : (z.heap.push (tuI t)).objs.size = z.heap.objs.size + 1 := Heap.size_push ..
  show _ ∧ _
  rw [sz]
  have en : IsEnum ((z.heap.push (tuI t)).push (enO z.heap.objs.size)) (z.heap.objs.size + 1) z.heap.objs.size 0 .none := by
    have hh := Heap.get?_push_size (z.heap.push (tuI t)) (o := enO z.heap.objs.size) rfl
    rw [sz] at hh; exact hh
  exact ⟨⟨_, en, rfl⟩, k _ en ⟨_, Heap.get?_push_of_some _ (Heap.get?_push_size _ rfl), rfl, rfl⟩ fun b o x => Heap.get?_push_of_some _ (Heap.get?_push_of_some _ x)⟩
theorem enumT_end {P : Program} {w : World} {A : Around} {E : Value → Shared → Prop} {z : Shared} {e it t : Addr} {i : Nat} {its : Array Value} {old : Value} {Q : Option Value → Shared → Prop} (hh : A.handled = none)
    (en : IsEnum z.heap e it i old) (ti : z.heap.IsTupleIter it t i) (T : z.heap.IsTuple t its) (hx : its[i]? = none) (k : ∀ h', Heap.ExtBut it z.heap h' → Q none { z with heap := h' }) : wpAny (model P w) A (pyNext (.ref e)) Q E z := by
  have ty : z.TypeIs (.ref e) "enumerate" := ⟨_, en, rfl⟩
  unfold pyNext
  refine wpAny_bind (wpAny_attempt (wpAny_callSpecial?_slot (name := Str.ofString "__next__") ty F.slot_enumerate_next (wpAny_call_entry F.slot_enumerate_next ty F.entry_enumerate_next ?_ (F.args_enumerate_next_1 _))))
  show wpAny _ _ (field (.ref e) 2 >>= _) _ _ _
  refine wpAny_bind (wpAny_field en rfl (x := .ref it) rfl (wpAny_bind (wpAny_nextOf_tuple_end hh ti T hx fun h' x q1 q2 => ?_)))
  obtain ⟨o, q3, q4⟩ := q2
  exact wpAny_bind (wpAny_isInstance (T := "StopIteration") (b := true) ⟨o, q3, q4⟩ isSubtype_stop (wpAny_pure (k _ q1)))
/-- the tuple at a, each item in a new pair -/
def Iet (K : Frag) (a : Addr) : It :=
  ⟨fun i H => ∃ (xs : List V) (x : V), SqT K H a xs ∧ xs[i]? = some x, fun i H v H' => ∃ T x, v = .ref T ∧ H T = none ∧ H' = upd H T (.tup [.int (i : Nat), x]) ∧ ∀ xs, SqT K H a xs → xs[i]? = some x, fun i H => ∃ xs : List V, SqT K H a xs ∧ xs.length ≤ i⟩
theorem turn_enumT {P : Program} {w : World} {K : Frag} {elts : List Expr} {kk : Nat} {tpos : Pos} (a e it : Addr) :
    Turn P w K (.Tuple elts kk tpos) (Iet K a) [e, it] e (fun i h => (∃ old, IsEnum h e it ((i : Nat) : Int) old) ∧ h.IsTupleIter it a i ∧ e ≠ it ∧ a ≠ it ∧ a ≠ e) where
  mem := List.mem_cons_self
  obj := fun i h st b hb => by
    obtain ⟨⟨old, he⟩, ⟨o, ho, _, hd⟩, _⟩ := st
    rcases (show b = e ∨ b = it by simpa using hb) with rfl | rfl
    · exact ⟨_, he, fun v q => nomatch q⟩
    · exact ⟨o, ho, fun v q => by rw [hd] at q; cases q⟩
  keep := fun i h h' st k => let ⟨⟨old, he⟩, hi, n1, n2⟩ := st; ⟨⟨old, k e List.mem_cons_self _ he⟩, hi.at fun o q => k it (by simp) o q, n1, n2⟩
  item := by
    intro X p1 p2 p3 hc i pins s σ H E I hf st hg
    subst p1 p2 p3
    obtain ⟨⟨old, he⟩, hit, hne, hat, hae⟩ := st
    obtain ⟨xs, x, hq, hx⟩ := hg
    obtain ⟨its, rv, p, hz⟩ := I.tuple hq
    obtain ⟨u, hu, ru⟩ := rv.get hx
    have hel : e < s.heap.objs.size := Heap.lt_size he
    have hil : it < s.heap.objs.size := by obtain ⟨_, q, _⟩ := hit; exact Heap.lt_size q
    have hlt : i < its.toArray.size := by have := (List.getElem?_eq_some_iff.mp hu).1; simpa using this
    have hfr := hf
    refine wpAny_pyNext_enum_itemD (Draws.tuple (A := X.A.in1) (show X.A.in1.handled = none from I.ok.hd hc) it a hat its.toArray) he ⟨hit, p⟩ hlt hne (by simp [hne, Ne.symm hae]) fun y h' tk hP ho hit' hT hsz hk => ?_
    have hy : y = u := by
      have : its.toArray[i]? = some y := hP
      rw [List.getElem?_toArray, hu] at this; exact (Option.some.inj this).symm
    subst hy
    refine ⟨_, rfl, wpAny_letOwnedTupleGo_enum (s := { s with heap := h', toks := tk + 1 }) ho fun h2 he2 sb => ?_⟩
    have hT2 : h2.get? s.heap.objs.size = some { cls := .type "tuple", data := .seq #[.int i tk, y] } := (sb.2 _ (Nat.ne_of_gt hel)).trans hT
    have new : ObjOk X.prog X.w (upd H s.heap.objs.size (.tup [.int (i : Nat), x])) h2 s.heap.objs.size (.tup [.int (i : Nat), x]) :=
      ⟨show 2 ≤ sizeLine by decide, [.int i tk, y], .cons ⟨_, rfl⟩ (.cons ru .nil), ⟨_, hT2, rfl, _, rfl⟩⟩
    have I1 : Inv X pins σ (upd H s.heap.objs.size (.tup [.int (i : Nat), x])) { s with heap := h2, toks := tk + 1 } :=
      I.turnedNew (ch := [e, it]) (fun b ob hb q => (sb.2 b fun z => hb (by rw [z]; exact List.mem_cons_self)).trans (hk b ob (fun z => hb (by rw [z]; exact List.mem_cons_self)) (fun z => hb (by simp [z])) q)) hf (Nat.le_refl _) new
    refine ⟨.ref s.heap.objs.size, _, I1, rfl, ⟨_, x, rfl, I.hok.fresh (Nat.le_refl _), rfl, fun ys hy => by rw [I.tuple_inj hy hq]; exact hx⟩, ⟨⟨y, ?_⟩, hit'.1.at fun o q => (sb.2 it (Ne.symm hne)).trans q, hne, hat, hae⟩, fun b hb => ?_⟩
    · rw [show ((i + 1 : Nat) : Int) = (i : Int) + 1 from rfl]; exact he2
    · have hb2 : b < s.heap.objs.size := by
        rcases (show b = e ∨ b = it by simpa using hb) with rfl | rfl
        · exact hel
        · exact hil
      rw [upd_ne (Nat.ne_of_lt hb2)]; exact (hf b hb).1
  done := by
    intro X p1 p2 p3 hc i pins s σ H E I hf st hg
    subst p1 p2 p3
    obtain ⟨⟨old, he⟩, hit, hne, hat, hae⟩ := st
    obtain ⟨xs, hq, hx⟩ := hg
    obtain ⟨its, rv, p, hz⟩ := I.tuple hq
    obtain ⟨f0, f1, f2, f3, f4, f5⟩ := hf it (by simp)
    have hl := rv.length
    exact enumT_end (I.ok.hd hc) he hit p (by rw [List.getElem?_toArray]; exact List.getElem?_eq_none (by omega)) fun h' eb => ⟨rfl, I.turned (t' := s.toks) (fun b o hb q => eb b o hb q) f0 f1 f3 f4 f5⟩
  self := fun A i s Q E st h => wpAny_pyIter_enum st.1.choose_spec h
def iEnumT (K : Frag) (ta : TA) : TI := fun σ H R => ta σ H fun vs H1 => ∃ a xs, vs = [.ref a] ∧ SqT K H1 a xs ∧ R (Iet K a) H1
theorem pi_enumT {X : Cx} {e : Expr} {ta : TA} {p pos tpos : Pos} {elts : List Expr} {kk : Nat} (hg : Gl X "enumerate") (hm : X.mg "enumerate" = none) (ha : PA X [e] ta) (hs : starEach [e] X.env = [(false, eval e X.env)] := by rfl) :
    PI X (.Tuple elts kk tpos) (.Call (.Name "enumerate" p) [e] [] pos) (iEnumT X.K ta) := by
  refine ⟨fun pins s σ H R I h => Call_ (ld_blt I hg hm boot_enumerate (PyProof.Rows.callWith_type1 (thn (ha.run pos pins s σ H _ I h) fun us s1 ⟨vs, H1, I1, r1, q1⟩ => ?_) hs rfl))⟩
  obtain ⟨a, xs, rfl, hq, q⟩ := q1
  cases r1 with
  | cons r rr =>
    cases rr
    cases r
    obtain ⟨its, rv, p', hz⟩ := I1.tuple hq
    have hal : a < s1.heap.objs.size := by obtain ⟨_, q, _⟩ := p'; exact Heap.lt_size q
    refine enumT_call p' fun h' he hit hk => wpAny_pyIter_enum he ?_
    have I2 : Inv X pins σ H1 { s1 with heap := h' } := I1.kept (t' := s1.toks) hk
    refine ⟨s1.heap.objs.size + 1, [s1.heap.objs.size + 1, s1.heap.objs.size], _, _, H1, rfl, I2, turn_enumT a (s1.heap.objs.size + 1) s1.heap.objs.size, ⟨⟨.none, he⟩, hit, Nat.succ_ne_self _, Nat.ne_of_lt hal, Nat.ne_of_lt (Nat.lt_succ_of_lt hal)⟩, fun b hb => ?_, q⟩
    have hle : s1.heap.objs.size ≤ b := by
      rcases (show b = s1.heap.objs.size + 1 ∨ b = s1.heap.objs.size by simpa using hb) with rfl | rfl <;> omega
    exact I1.fpOk hle (I1.hok.fresh hle)
def enD : Nat → List D → List D
  | _, [] => []
  | k, d :: ds => .tup [.int (k : Nat), d] :: enD (k + 1) ds
theorem enD_at : ∀ {ds : List D} {k i : Nat} {d : D}, (enD k ds)[i]? = some d → ∃ e, ds[i]? = some e ∧ d = .tup [.int ((k + i : Nat) : Int), e]
  | [], _, _, _, h => by simp [enD] at h
  | e :: ds, k, 0, d, h => by simp [enD] at h; exact ⟨e, rfl, h.symm⟩
  | e :: ds, k, i + 1, d, h => by
    obtain ⟨e', h1, h2⟩ := enD_at (ds := ds) (k := k + 1) (i := i) (d := d) (by simpa [enD] using h)
    exact ⟨e', h1, by rw [h2, show k + 1 + i = k + (i + 1) by omega]⟩
theorem enD_length : ∀ {ds : List D} {k : Nat}, (enD k ds).length = ds.length
  | [], _ => rfl
  | _ :: ds, k => congrArg (· + 1) (enD_length (ds := ds) (k := k + 1))
section
variable {X : Cx} {B : Bd} {S S1 S2 S3 : Nz.S} {e : Expr} {elts : List Expr} {kk : Nat} {tpos pos p : Pos} {xs : List D} {tg : Expr}
theorem src_enumT (h : Ea X B [e] S [.fr (.tup xs)] S1) (hg : Gl X "enumerate") (hm : X.mg "enumerate" = none) (hs : starEach [e] X.env = [(false, eval e X.env)] := by rfl) : Src X B (.Tuple elts kk tpos) (.Call (.Name "enumerate" p) [e] [] pos) S (enD 0 xs) S1 :=
  fun F α H σ R RR k => wI.of (pi_enumT hg hm pa_w hs) (h F α H σ _ RR fun F1 α1 v1 H1 R1 st1 r1 => by
    have r := CRels.fr (ds := [.tup xs]) r1
    cases r with
    | cons q rr =>
      cases rr
      cases q with
      | tup h1 h2 =>
        rename_i a vs
        refine ⟨a, vs, rfl, R1.sub.seqT h1, k F1 α1 H1 _ R1 st1 ⟨fun B F' α H σ S i d R' hs hi => ?_, fun B F' α H σ S i R' hs hi => ⟨vs, R'.sub.seqT (hs.seqT h1), by rw [← h2.length, ← enD_length (ds := xs) (k := 0)]; exact hi⟩⟩⟩
        obtain ⟨e', hi', rfl⟩ := enD_at hi
        obtain ⟨v, hv, rv⟩ := h2.get hi'
        refine ⟨⟨vs, v, R'.sub.seqT (hs.seqT h1), hv⟩, fun x H' y => ?_⟩
        obtain ⟨T, z, rfl, hT, rfl, y⟩ := y
        have := y vs (R'.sub.seqT (hs.seqT h1))
        rw [hv] at this; cases this
        refine ⟨upd F' T (.tup [.int (i : Nat), v]), R'.allocF hT, same_upd (R'.fresh hT), .tup (SqT.of upd_same) (.cons ?_ (.cons ((rv.mono hs).mono (same_upd (R'.fresh hT))) .nil))⟩
        rw [Nat.zero_add]; exact .int _)
end
end Nz
namespace Nz
open PySem PySem.Spec PyProof.Rows L2
def cntS (xs : List Str) : Nat → Nat
  | 0 => 0
  | i + 1 => if xs.getD i Str.empty ∈ xs.take i then cntS xs i else cntS xs i + 1
theorem cntS_le (xs : List Str) : ∀ i, cntS xs i ≤ i
  | 0 => Nat.le_refl _
  | i + 1 => by
    have := cntS_le xs i
    unfold cntS
    split <;> omega
theorem take_getD {xs : List Str} {i : Nat} (h : i < xs.length) : xs.take (i + 1) = xs.take i ++ [xs.getD i Str.empty] := by
  rw [List.take_succ, List.getElem?_eq_getElem h, List.getD_eq_getElem?_getD, List.getElem?_eq_getElem h]; rfl
theorem cntS_iff (xs : List Str) : ∀ i, i ≤ xs.length → (cntS xs i = i ↔ (xs.take i).Nodup)
  | 0, _ => by simp [cntS]
  | i + 1, h => by
    have ih := cntS_iff xs i (by omega)
    have hle := cntS_le xs i
    rw [take_getD h, List.nodup_append]
    unfold cntS
    by_cases hm : xs.getD i Str.empty ∈ xs.take i
    · rw [if_pos hm]
      refine ⟨fun e => by omega, fun e => ?_⟩
      exact absurd rfl (e.2.2 _ hm _ (List.mem_singleton.mpr rfl))
    · rw [if_neg hm]
      refine ⟨fun e => ⟨ih.mp (by omega), by simp, fun a ha b hb q => hm (by rw [List.mem_singleton.mp hb] at q; rw [← q]; exact ha)⟩, fun e => ?_⟩
      have := ih.mpr e.1
      omega
theorem cntS_nodup (xs : List Str) : cntS xs xs.length = xs.length ↔ xs.Nodup := by
  have := cntS_iff xs xs.length (Nat.le_refl _)
  rwa [List.take_length] at this
section
variable {P0 : Program} {w : World} {A : Around} {R : Result → Shared → Prop} {it : Addr} {fp wr : List Addr} {G : Array GenState → Array GenState → Prop} {n : Nat} {P : Nat → Value → Prop} {St : Nat → Shared → Prop}
theorem setS_loop (W : WalksS P0 w A.in1 it fp wr G n P St) (a : Addr) (ha : a ∉ fp) (xs : List Str) (hl : xs.length = n) (hn : n + 1 < scanBound) (hv : ∀ i v, P i v → ∃ t, v = .str (xs.getD i Str.empty) t) :
    ∀ (m i : Nat) (z : Shared), n - i = m → i ≤ n → St i z → z.heap.SetOf (PySem.strKind P0 w) a (fun y => decide (y ∈ xs.take i)) (cntS xs i) →
      (∀ z', Moved (a :: wr) G z z' → z'.heap.SetOf (PySem.strKind P0 w) a (fun y => decide (y ∈ xs.take n)) (cntS xs n) → R (.ok (.ret .none)) z') → codeAny (model P0 w) A (.builtin "set.update.loop" ⟨[.ref a, .ref it], []⟩) R z := by
  have hw : a ∉ wr := fun q => ha (W.sub _ q)
  have hs : ∀ b ∈ wr, b ∈ a :: wr := fun b q => List.mem_cons_of_mem _ q
  have same : ∀ {z z' : Shared} {S : Str → Bool} {c : Nat}, Moved wr G z z' → z.heap.SetOf (PySem.strKind P0 w) a S c → z'.heap.SetOf (PySem.strKind P0 w) a S c := fun mv q => by
    obtain ⟨o, es, ep, tb, ho, rest⟩ := q
    exact ⟨o, es, ep, tb, mv.heap a _ hw ho, rest⟩
  intro m
  induction m with
  | zero =>
    intro i z e1 e2 st S0 fin
    obtain rfl : i = n := by omega
    refine codeAny_builtin PyProof.Rows.F.entry_set_update_loop ?_
    rw [Around.under_plainId PyProof.Rows.F.plain_set_update_loop _]
    show wpAny _ A.in1 (pyNext (.ref it) >>= _) _ _ z
    exact wpAny_bind (W.done z _ _ st fun z' mv => wpAny_pure (fin z' (mv.mono hs) (same mv S0)))
  | succ m ih =>
    intro i z e1 e2 st S0 fin
    have e3 : i < n := by omega
    refine codeAny_builtin PyProof.Rows.F.entry_set_update_loop ?_
    rw [Around.under_plainId PyProof.Rows.F.plain_set_update_loop _]
    show wpAny _ A.in1 (pyNext (.ref it) >>= _) _ _ z
    refine wpAny_bind (W.item i z _ _ e3 st fun v z' hP st' mv => ?_)
    obtain ⟨t, rfl⟩ := hv i v hP
    have S1 := same mv S0
    show wpAny _ A.in1 (holding [Value.str (xs.getD i Str.empty) t] (setAdd a (.str (xs.getD i Str.empty) t)) >>= _) _ _ z'
    unfold setAdd
    refine wpAny_bind (wpAny_holding (wpAny_holding (wpAny_bind ((PySem.strKind P0 w).pyHash (k := xs.getD i Str.empty) (strKind_is _ _ _ _) ?_))))
    refine wpAny_setAddHashed_of (knd := PySem.strKind P0 w) (s := { z' with toks := z'.toks + 1 }) (strKind_is _ _ _ _) rfl S1 (by have := cntS_le xs i; omega) fun h2 sb S2 => ?_
    have S3 : h2.SetOf (PySem.strKind P0 w) a (fun y => decide (y ∈ xs.take (i + 1))) (cntS xs (i + 1)) := by
      refine SetOf_congr S2 (fun y => ?_) ?_
      · rw [take_getD (by omega)]
        by_cases q1 : y ∈ xs.take i
        · simp [q1]
        · by_cases q2 : y = xs.getD i Str.empty <;> simp [q1, q2]
      · show _ = if xs.getD i Str.empty ∈ xs.take i then cntS xs i else cntS xs i + 1
        by_cases q : xs.getD i Str.empty ∈ xs.take i <;> simp [q]
    have oth : ∀ b, b ≠ a → h2.get? b = z'.heap.get? b := fun b q => sb.2 b q
    refine wpAny_pure ⟨plainId_quiet PyProof.Rows.F.plain_set_update_loop _, ih (i + 1) _ (by omega) e3 (W.frame _ z' _ _ st' (Nat.le_succ _) fun b hb o e => by rw [oth b fun q => ha (q ▸ hb)]; exact e) S3 fun z2 mv2 S4 => ?_⟩
    exact fin z2 (Moved.trans W.gtrans ((mv.mono hs).then_heap (Nat.le_succ _) fun b o hb e => by rw [oth b fun q => hb (q ▸ List.mem_cons_self)]; exact e) mv2) S4
end
section
variable {P0 : Program} {w : World} {A : Around} {E : Value → Shared → Prop} {z : Shared}
def set0 (led : Bool) : Obj := { cls := .type "set", dict := none, data := .set #[] 0 (.fresh 0 0 led) }
set_option maxHeartbeats 3200000 in
theorem setS_call {a : Addr} {us : Array Value} {xs : List Str} {Q : Value → Shared → Prop} (hh : A.handled = none) (L : z.heap.IsList a us) (hi : PyProof.Rows.StrsAre us.toList xs) (hn : xs.length + 1 < scanBound)
    (k : ∀ (h' : Heap) (tk : Nat), h'.SetOf (PySem.strKind P0 w) z.heap.objs.size (fun y => decide (y ∈ xs)) (cntS xs xs.length) → (∀ b o, b < z.heap.objs.size → z.heap.get? b = some o → h'.get? b = some o) → Q (.ref z.heap.objs.size) { z with heap := h', toks := tk }) :
    wpAny (model P0 w) A (call (.type "set") [.ref a]) Q E z := by
  have m0 := PySem.F.called_set.mro
  obtain ⟨mc, mt, hmro⟩ := m0
  have hmade := PySem.F.called_set.made
  have hsub := PySem.F.called_set.sub
  refine wpAny_call (codeAny_of_tree ?_)
  show wpAny _ _ (callAny (.type "set") _) _ _ _
  refine wpAny_pure ⟨Code.quiet_builtin _ (by decide +kernel), codeAny_builtin PySem.F.entry_type_call ?_⟩
  rw [Around.under_plain (weight_type_call_type "set" [.ref a] []) rfl]
  have c1 := PySem.F.called_set.notType
  have c2 := PySem.F.called_set.canCreate
  have c3 := PySem.F.typeCall_set_1 (.ref a)
  repeat (any_goals (first | assumption | wp_step))
  refine codeAny_mono (code_set_new_1 (.ref a) (E := E) (Q₁ := fun o y => ∃ led : Bool, o = .ref z.heap.objs.size ∧ y = { z with heap := z.heap.push (set0 led) }) fun led => ⟨led, rfl, rfl⟩) fun r y hr => ?_
  cases r with
  | error e => exact hr
  | ok fl =>
    cases fl with
    | ret o =>
      obtain ⟨led, rfl, rfl⟩ := hr
      have g0 : (z.heap.push (set0 led)).get? z.heap.objs.size = some (set0 led) := Heap.get?_push_size _ rfl
      have t0 : Shared.TypeIs { z with heap := z.heap.push (set0 led) } (.ref z.heap.objs.size) "set" := ⟨_, g0, rfl⟩
      have l0 := PySem.F.called_set.init.lookup
      have b0 := PySem.F.called_set.init.bind (.ref z.heap.objs.size)
      repeat (any_goals (first | assumption | wp_step))
      refine codeAny_mono (codeAny_call_builtin (R := wants (fun r y => r = .none ∧ ∃ h' tk, y = { z with heap := h', toks := tk } ∧ h'.SetOf (PySem.strKind P0 w) z.heap.objs.size (fun y => decide (y ∈ xs)) (cntS xs xs.length) ∧
          (∀ b o, b < z.heap.objs.size → z.heap.get? b = some o → h'.get? b = some o)) E) PySem.F.called_set.init.plain PySem.F.entry_set_init (check_set_init_1 t0 ?_)) fun r2 y2 hr2 => ?_
      · obtain ⟨⟨oc, od, dt, ss⟩, e0, e1, kk, e2⟩ := L
        simp only at e1 e2
        subst e1 e2
        have e3 : (z.heap.push (set0 led)).get? a = some { cls := .type "list", dict := od, data := .seq us kk, slots := ss } := Heap.get?_push_of_some _ e0
        have s1 := PySem.F.sub_list_set
        have s2 := PySem.F.sub_list_frozenset
        have s3 : (Value.type "list" == Value.type "dict") = false := by decide
        have L1 : (z.heap.push (set0 led)).IsList a us := ⟨_, e3, rfl, kk, rfl⟩
        have hal : a < z.heap.objs.size := Heap.lt_size e0
        have h3 : A.in1.in1.in1.handled = none := by simp [hh]
        have sz : (z.heap.push (set0 led)).objs.size = z.heap.objs.size + 1 := Heap.size_push ..
        unfold Builtin.«set.__init__» noKeywords Builtin.Frozenset.updateFrom
        generalize hPI : pyIter = PI
        wp_walk
        subst hPI
        refine wpAny_pyIter_list L1 (wpAny_bind (wpAny_runValue ?_))
        have n1 : a ≠ (z.heap.push (set0 led)).objs.size := by rw [sz]; exact Nat.ne_of_lt (Nat.lt_succ_of_lt hal)
        have n2 : z.heap.objs.size ∉ [(z.heap.push (set0 led)).objs.size, a] := by
          rw [sz]
          intro q
          rcases List.mem_cons.mp q with q | q
          · exact absurd q (Nat.ne_of_lt (Nat.lt_succ_self _))
          · exact absurd (List.mem_singleton.mp q) (Nat.ne_of_gt hal)
        have hsz : xs.length = us.size := by rw [← StrsAre.len_eq hi, Array.length_toList]
        refine setS_loop ((Walks.list h3 _ a n1 us).toS) z.heap.objs.size n2 xs hsz (by rw [← hsz]; exact hn) (fun i v hv => SS.strs_at hi i v (by rw [Array.getElem?_toList]; exact hv)) (us.size - 0) 0 _ rfl (Nat.zero_le _) ⟨⟨_, Heap.get?_push_size _ rfl, rfl, rfl⟩, (L1.push _)⟩ ?_ ?_
        · have g1 : ((z.heap.push (set0 led)).push { cls := .type "list_iterator", data := .fields #[.ref a, .int 0 0] }).get? z.heap.objs.size = some (set0 led) := Heap.get?_push_of_some _ g0
          exact PyProof.Rows.SetOf_congr ((PyProof.Rows.setObjOf_fresh (knd := PySem.strKind P0 w) led).setOf g1 (by unfold scanBound; omega)) (fun _ => by simp) rfl
        · intro y' mv S'
          obtain ⟨h', g', d', tk', os'⟩ := y'
          obtain rfl : g' = z.gens := mv.gens
          obtain rfl : d' = z.drawn := mv.drawn
          obtain rfl : os' = z.os := mv.os
          show wpAny _ _ _ _ _ _
          refine wpAny_pure ?_
          show wpAny _ _ (ret Value.none) _ _ _
          rw [← hsz, List.take_length] at S'
          refine wpAny_pure ⟨rfl, h', tk', rfl, S', fun b o hb e => mv.heap b o (fun q => ?_) (Heap.get?_push_of_some _ (Heap.get?_push_of_some _ e))⟩
          rcases List.mem_cons.mp q with q | q
          · exact absurd q (Nat.ne_of_lt hb)
          · rw [List.mem_singleton.mp q, sz] at hb; exact absurd hb (by omega)
      · cases r2 with
        | error e => exact hr2
        | ok fl2 =>
          cases fl2 with
          | ret r =>
            obtain ⟨rfl, h', tk, rfl, S', k'⟩ := hr2
            repeat (any_goals (first | assumption | wp_step))
            exact k _ _ S' k'
          | _ => exact hr2.elim
    | _ => exact hr.elim
end
end Nz
namespace Nz
open PySem PySem.Spec PyProof.Rows L2
theorem Reps.strs_eq {K : Frag} {mg : Mg} {F : Hp} : ∀ {ns : List Str} {vs : List V}, Reps K mg F (ns.map D.str) vs → vs = ns.map V.str
  | [], _, .nil => rfl
  | _ :: _, _, .cons h r => by cases h; rw [Reps.strs_eq r]; rfl
section
variable {X : Cx} {B : Bd} {S S1 S2 S3 : Nz.S} {tg a b c e : Expr} {es elts : List Expr} {kk : Nat} {tpos pos p q p2 : Pos} {d : D} {ds : List D} {x : Str} {τ : Type} {enc : τ → D}
/-- len(set(e)) -/
theorem ev_lenSet {xs : List Str} (hc : X.calm = true) (hg : Gl X "len") (hm : X.mg "len" = none) (hg2 : Gl X "set") (hm2 : X.mg "set" = none) (hn : xs.length + 1 < scanBound) (ha : Ev X B a S (.fr (eL D.str xs)) S1)
    (na : starEach [a] X.env = (false, eval a X.env) :: starEach [] X.env := by rfl) : Ev X B (.Call (.Name "len" p) [.Call (.Name "set" p2) [a] [] q] [] pos) S (.fr (.int (cntS xs xs.length : Nat))) S1 := fun F α H σ Q R k pins s I => by
  refine Call_ (ld_blt I hg hm boot_len (PyProof.Rows.callWith_builtin1 (PyProof.Rows.args_cons (Call_ (ld_blt I hg2 hm2 boot_set (PyProof.Rows.callWith_type1 (PyProof.Rows.args_cons (thn (ha F α H σ (fun v H1 => ∃ F1 α1, RelX X B F1 α1 H1 σ S1 ∧ Stp F α S.L F1 α1 ∧ Rep X.K X.mg F1 (eL D.str xs) v) R
    (fun F1 α1 v1 H1 R1 st1 r1 => ⟨F1, α1, R1, st1, r1⟩) pins s I) fun v s1 ⟨y, H1, I1, rv, F1, α1, R1, st1, r1⟩ => PyProof.Rows.args_nil ?_) na) na rfl))) rfl) rfl rfl))
  cases r1 with
  | lst h1 h2 =>
    cases rv
    have hq := R1.sub.seq h1
    rw [Reps.strs_eq h2] at hq
    obtain ⟨its, r, pl, hz⟩ := I1.list hq
    refine setS_call (I1.ok.hd hc) pl.isList (by simpa using strsAre_of r) hn fun h' tk S' hk => PyProof.Rows.args_nil ?_
    obtain ⟨o, es', ep, t, ho, hex, hd, _, _, _, hf, hn'⟩ := S'
    have I2 : Inv X pins σ H1 { s1 with heap := h', toks := tk } := I1.kept fun b o e => hk b o (Heap.lt_size e) e
    have hle := cntS_le xs xs.length
    have hb : scanBound ≤ 2 ^ 62 := by unfold scanBound; decide
    exact call_len_set ho hex hd hf (by rw [hn'] <;> omega) ⟨.int (cntS xs xs.length : Nat), H1, I2.tok _, ⟨_, by rw [hn']⟩, k F1 α1 _ H1 R1 st1 (.int _)⟩
def chs (z : Str) : List Str := z.cps.toList.map fun c => ⟨#[c]⟩
theorem src_str {z : Str} (h : Ev X B e S (.fr (.str z)) S1) : Src X B tg e S ((chs z).map D.str) S1 := fun F α H σ R RR k => wI.of (pi_str pe_w) (h F α H σ _ RR fun F1 α1 v1 H1 R1 st1 r1 => by
  cases (show Rep X.K X.mg F1 (.str z) v1 from r1) with
  | str =>
    have hlen : ((chs z).map D.str).length = z.cps.size := by simp [chs]
    refine ⟨z, rfl, k F1 α1 H1 _ R1 st1 ⟨fun B F' α H σ S i d R' hs hi => ?_, fun B F' α H σ S i R' hs hi => by rw [hlen] at hi; exact hi⟩⟩
    have hi2 := (List.getElem?_eq_some_iff.mp hi).1
    rw [hlen] at hi2
    refine ⟨hi2, fun x H' y => ?_⟩
    obtain ⟨rfl, c, hc, rfl⟩ := y
    refine ⟨F', R', Same.refl _, ?_⟩
    have e1 : ((chs z).map D.str)[i]? = some (.str ⟨#[c]⟩) := by
      rw [List.getElem?_map]
      unfold chs
      rw [List.getElem?_map, Array.getElem?_toList, hc]; rfl
    rw [e1] at hi
    cases hi
    exact .str _)
def inS (i j : Str) : Bool := !(Builtin.Str.occurrences j i 0 j.length 1).isEmpty
theorem o_inS {i j : Str} : Op2 X (compareOp .In) (.str i) (.str j) (.bl (inS i j)) :=
  .pure (v := .bl (inS i j)) op_in_str (fun _ => .bl _) fun F H Q x y _ rx ry q => by cases rx; cases ry; exact ⟨i, j, rfl, rfl, q⟩
def enL : Nat → List τ → List (Int × τ)
  | _, [] => []
  | k, x :: xs => ((k : Int), x) :: enL (k + 1) xs
theorem enD_map {xs : List τ} : ∀ {k : Nat}, enD k (xs.map enc) = (enL k xs).map (eT2 D.int enc) := by
  induction xs with
  | nil => intro k; rfl
  | cons x r ih => intro k; show _ :: _ = _ :: _; rw [ih]
theorem src_enumU {xs : List τ} (h : Ea X B [e] S [.fr (eU enc xs)] S1) (hg : Gl X "enumerate") (hm : X.mg "enumerate" = none) (hs : starEach [e] X.env = [(false, eval e X.env)] := by rfl) :
    Src X B (.Tuple elts kk tpos) (.Call (.Name "enumerate" p) [e] [] pos) S ((enL 0 xs).map (eT2 D.int enc)) S1 := by
  rw [← enD_map]; exact src_enumT h hg hm hs
theorem src_enum {xs : List D} (h : Ea X B [e] S [.fr (.lst xs)] S1) (hg : Gl X "enumerate") (hm : X.mg "enumerate" = none) (hs : starEach [e] X.env = [(false, eval e X.env)] := by rfl) : Src X B (.Tuple elts kk tpos) (.Call (.Name "enumerate" p) [e] [] pos) S (enD 0 xs) S1 :=
  fun F α H σ R RR k => wI.of (pi_enum hg hm pa_w hs) (h F α H σ _ RR fun F1 α1 v1 H1 R1 st1 r1 => by
    have r := CRels.fr (ds := [.lst xs]) r1
    cases r with
    | cons q rr =>
      cases rr
      cases q with
      | lst h1 h2 =>
        rename_i a vs
        refine ⟨a, vs, rfl, R1.sub.seq h1, k F1 α1 H1 _ R1 st1 ⟨fun B F' α H σ S i d R' hs hi => ?_, fun B F' α H σ S i R' hs hi => ⟨vs, R'.sub.seq (hs.seq h1), by rw [← h2.length, ← enD_length (ds := xs) (k := 0)]; exact hi⟩⟩⟩
        obtain ⟨e', hi', rfl⟩ := enD_at hi
        obtain ⟨v, hv, rv⟩ := h2.get hi'
        refine ⟨⟨vs, v, R'.sub.seq (hs.seq h1), hv⟩, fun x H' y => ?_⟩
        obtain ⟨T, z, rfl, hT, rfl, y⟩ := y
        have := y vs (R'.sub.seq (hs.seq h1))
        rw [hv] at this; cases this
        refine ⟨upd F' T (.tup [.int (i : Nat), v]), R'.allocF hT, same_upd (R'.fresh hT), .tup (SqT.of upd_same) (.cons ?_ (.cons ((rv.mono hs).mono (same_upd (R'.fresh hT))) .nil))⟩
        rw [Nat.zero_add]; exact .int _)
theorem src_enumL {xs : List τ} (h : Ea X B [e] S [.fr (eL enc xs)] S1) (hg : Gl X "enumerate") (hm : X.mg "enumerate" = none) (hs : starEach [e] X.env = [(false, eval e X.env)] := by rfl) :
    Src X B (.Tuple elts kk tpos) (.Call (.Name "enumerate" p) [e] [] pos) S ((enL 0 xs).map (eT2 D.int enc)) S1 := by
  rw [← enD_map]; exact src_enum h hg hm hs
end
end Nz
namespace Nz
open PySem PySem.Spec PyProof.Rows L2
def wK (X : Cx) (kws : List Keyword) (σ : L2.St) (H : Hp) (Q : List V → Hp → Prop) : Prop :=
  ∀ pos pins s, Inv X pins σ H s → wpAny (model X.prog X.w) X.A (evalAll ((backToKw pos (keywordEach kws X.env)).map (·.2))) (AP X pins σ Q) X.xe s
theorem pk_w {X : Cx} {kws : List Keyword} : PK X kws (wK X kws) := ⟨fun pos pins s σ H Q I h => h pos pins s I⟩
theorem wK.of {X : Cx} {kws : List Keyword} {t : TA} (h : PK X kws t) {σ : L2.St} {H : Hp} {Q : List V → Hp → Prop} (q : t σ H Q) : wK X kws σ H Q := fun pos pins s I => h.run pos pins s σ H Q I q
def Ek (X : Cx) (B : Bd) (kws : List Keyword) (S : S) (ds : List D) (S' : Nz.S) : Prop :=
  ∀ F α H σ Q, RelX X B F α H σ S → (∀ F' α' vs H', RelX X B F' α' H' σ S' → Stp F α S.L F' α' → Reps X.K X.mg F' ds vs → Q vs H') → wK X kws σ H Q
section
variable {X : Cx} {B : Bd} {S S1 S2 S3 : Nz.S} {a e : Expr} {es : List Expr} {kws : List Keyword} {pos p kpos : Pos} {d : D} {ds es' : List D} {c nm : Str} {fs : List (Str × D)} {C g : Addr} {fd : FuncData} {ps ks : List Str} {k n : Nat} {sp : SpN}
theorem ek_nil : Ek X B [] S [] S := fun F α H σ Q R k => wK.of pk_nil (k F α [] H R Stp.refl .nil)
theorem ek_cons (ha : Ev X B e S (.fr d) S1) (hr : Ek X B kws S1 ds S2) (h1 : Sub S.L S1.L := by exact Sub.refl) : Ek X B (⟨nm, e, kpos⟩ :: kws) S (d :: ds) S2 := fun F α H σ Q R k => wK.of (pk_cons pe_w pk_w) (ha F α H σ _ R fun F1 α1 v1 H1 R1 st1 r1 =>
  hr F1 α1 H1 σ _ R1 fun F2 α2 vs H2 R2 st2 r2 => k F2 α2 _ H2 R2 (st1.trans st2 h1) (.cons (Rep.mono st2.fro r1) r2))
/-- every parameter given: n values, then keywords by name in the def's order -/
theorem kbn_all {K : Frag} (h : ∀ us ws : List Value, us.length = n → ws.length = ks.length → bindArgs fd ⟨us, ks.zip ws⟩ = pure (ps.zip (us ++ ws))) : KBn K fd ps n ks (fun us ws => us ++ ws) (fun vs zs => vs ++ zs) :=
  ⟨fun s us ws _ l1 l2 => .of_eq (h us ws l1 l2), fun r1 r2 => r1.append r2⟩
/-- C(e, .., k = v, ..) -/
theorem ev_makeK (hm : X.mg c = some (.ref C)) (M : Mk X.K C g) (F : FnOk X.prog X.w X.K X.mg X.base CX0 k g fd ps (SpOf X.K X.mg sp)) (hr : Room (k + 1) X.A) (hb : KBn X.K fd ps (n + 1) ks (fun us ws => us ++ ws) (fun vs zs => vs ++ zs)) (ha : Ea X B (e :: es) S (ds.map Ce.fr) S1) (hk : Ek X B kws S1 es' S2)
    (l1 : ds.length = n) (l2 : es'.length = ks.length)
    (hs : ∀ Kc : Ce → List (Nat × LO) → Prop, Kc (.fr .non) [(0, .ins c (fs.map fun p => (p.1, Ce.fr p.2)))] → sp (.ad 0 :: (ds ++ es').map Ce.fr) [(0, .ins c [])] Kc) (hg : Gl X c) (h1 : Sub S.L S1.L := by exact Sub.refl) (h2 : Sub S1.L S2.L := by exact Sub.refl) (hdb : (c == ("__debug__" : Str)) = false := by decide)
    (hall : (backToKw pos (keywordEach kws X.env)).all (·.1.isSome) = true := by rfl) (hks : (backToKw pos (keywordEach kws X.env)).filterMap (·.1) = ks := by rfl)
    (he : starEach (e :: es) X.env = (false, eval e X.env) :: starEach es X.env := by rfl) (hpl : ((backTo pos (starEach (e :: es) X.env)).any (·.1) || (backToKw pos (keywordEach kws X.env)).any (·.1.isNone)) = false := by rfl) : Ev X B (.Call (.Name c p) (e :: es) kws pos) S (.fr (.obj c fs)) S2 :=
  fun F0 α H σ Q R k => wE.of (pe_makeK M F hr hg hm hb pass0 pa_w pk_w hall hks hdb he hpl) (ha F0 α H σ _ R fun F1 α1 vs H1 R1 st1 r1 => hk F1 α1 H1 σ _ R1 fun F2 α2 zs H2 R2 st2 r2 => by
    have rr := Reps.append ((CRels.fr r1).mono st2.fro) r2
    have lv : vs.length = n := by rw [← (CRels.fr r1).length]; exact l1
    have lz : zs.length = ks.length := by rw [← r2.length]; exact l2
    exact ⟨lv, lz, fun y dy hy hdy hne => init_call R2 hy hdy hne hm rr hs fun F' H' R' st' r' => k F' α2 _ H' R' ((st1.trans st2 h1).trans ⟨st', fun _ _ => rfl⟩ fun n h => h2 n (h1 n h)) r'⟩)
end
end Nz
namespace Nz
open PySem PySem.Spec PyProof.Rows L2
section
variable {X : Cx} {B : Bd} {S S1 S2 S3 : Nz.S} {tg a b c e o : Expr} {pos apos p q p2 : Pos} {d : D} {ds : List D} {x : Str}
/-- the sign at a place -/
def chA (z : Str) (i : Int) : Str := ⟨#[z.cps.toList.getD i.toNat 0]⟩
theorem ev_ixS {z : Str} {i : Int} (ha : Ev X B a S (.fr (.str z)) S1) (hb : Ev X B b S1 (.fr (.int i)) S2) (hz : z.length ≤ sizeLine) (h0 : 0 ≤ i) (h1 : i < z.length) (hs : PlainIx b := by exact fun _ _ => rfl) (g1 : Sub S.L S1.L := by exact Sub.refl) (g2 : Sub S1.L S2.L := by exact Sub.refl) :
    Ev X B (.Subscript a b pos) S (.fr (.str (chA z i))) S2 :=
  fun F α H σ Q R k => wE.of (pe_ix ix_str pe_w pe_w hs) (ha F α H σ _ R fun F1 α1 v1 H1 R1 st1 r1 => hb F1 α1 H1 σ _ R1 fun F2 α2 v2 H2 R2 st2 r2 => by
    cases r1
    cases r2
    obtain ⟨n, rfl⟩ := Int.eq_ofNat_of_zero_le h0
    have hn : n < z.cps.toList.length := by rw [Array.length_toList]; have : z.length = z.cps.size := rfl; omega
    refine ⟨z, (n : Int), z.cps.toList.getD n 0, rfl, rfl, hz, atI_nat (by rw [List.getD_eq_getElem?_getD, List.getElem?_eq_getElem hn]; rfl), k F2 α2 _ H2 R2 (st1.trans st2 g1) (.str _)⟩)
/-- sep.join(list of texts) -/
theorem ev_join {z : Str} {ys : List Str} (ho : Ev X B o S (.fr (.str z)) S1) (ha : Ev X B e S1 (.fr (eL D.str ys)) S2) (hz : (ys.map (·.length)).sum + ys.length * z.length ≤ 16777216) (g1 : Sub S.L S1.L := by exact Sub.refl)
    (hs : starEach [e] X.env = [(false, eval e X.env)] := by rfl) (hbase : attributeBase o "join" X.env (eval o X.env) = eval o X.env := by rfl) (hline : (apos.endLine == pos.line) = true := by rfl) :
    Ev X B (.Call (.Attribute o "join" apos) [e] [] pos) S (.fr (.str (Txt.join z ys))) S2 :=
  fun F α H σ Q R k => wE.of (pe_join pe_w pe_w hs hbase hline) (ho F α H σ _ R fun F1 α1 v1 H1 R1 st1 r1 => by
    cases r1
    refine ⟨⟨z, rfl⟩, ha F1 α1 H1 σ _ R1 fun F2 α2 v2 H2 R2 st2 r2 => ?_⟩
    obtain ⟨l, us, rfl, hq, rs⟩ := R2.asL (c := .fr (.lst (ys.map D.str))) rfl r2
    rw [Reps.strs_eq rs] at hq
    exact ⟨z, l, ys, rfl, rfl, .inl hq, hz, k F2 α2 _ H2 R2 (st1.trans st2 g1) (.str _)⟩)
end
end Nz
namespace Nz
open PySem PySem.Spec PyProof.Rows L2
end Nz
namespace Nz
open PySem PySem.Spec PyProof.Rows L2
end Nz
namespace Nz
theorem some_of {τ : Type} {y : Option τ} (h : ¬ (y.isNone = true)) : y.isSome = true := by
  cases y with
  | none => exact absurd rfl h
  | some z => rfl
theorem some_of2 {τ : Type} {y : Option τ} (h : ¬ ¬ ¬ (y.isNone = true)) : y.isSome = true := some_of fun z => h fun w => w z
end Nz
namespace Nz
theorem runE_inv {τ σ ρ : Type} {step : σ → τ → Except ρ σ} (P : σ → Prop) (R : ρ → Prop) : ∀ {ys : List τ} {s : σ}, (∀ s y, y ∈ ys → P s → (∀ s', step s y = .ok s' → P s') ∧ ∀ r, step s y = .error r → R r) → P s →
    (∀ s', runE step ys s = .ok s' → P s') ∧ ∀ r, runE step ys s = .error r → R r
  | [], s, _, h => ⟨fun s' e => by cases e; exact h, fun r e => by cases e⟩
  | y :: ys, s, hs, h => by
    obtain ⟨h1, h2⟩ := hs s y List.mem_cons_self h
    rw [runE_cons]
    cases e : step s y with
    | error r => exact ⟨fun s' q => (by cases q), fun r' q => (by cases q; exact h2 r e)⟩
    | ok s1 => exact runE_inv P R (fun s y hy => hs s y (List.mem_cons_of_mem _ hy)) (h1 s1 e)
end Nz
namespace Nz
open PySem PySem.Spec PyProof.Rows L2
end Nz
namespace Nz
open PySem PySem.Spec PyProof.Rows L2
end Nz
namespace Nz
open PySem PySem.Spec PyProof.Rows L2
end Nz
namespace Nz
open PySem PySem.Spec PyProof.Rows L2
def boOf (L : List (Nat × LO)) : List Ce → Option (List D)
  | [] => some []
  | .fr d :: cs => (boOf L cs).map (d :: ·)
  | .ad n :: cs => match getL n L with
    | some (.fl xs) => (boOf L cs).map (.lst xs :: ·)
    | _ => none
  | .xv _ :: _ => none
section
variable {K : Frag} {mg : Mg} {B : Bd} {F F' : Hp} {α α' : Nat → Addr} {H H' : Hp} {σ σ' : L2.St} {S S' : Nz.S}
def lentAt (α : Nat → Addr) (L : List (Nat × LO)) (b : Addr) : Prop := ∃ n xs, (n, LO.fl xs) ∈ L ∧ b = α n
open Classical in
noncomputable def lendF (F H : Hp) (α : Nat → Addr) (L : List (Nat × LO)) : Hp := fun b => if lentAt α L b then H b else F b
open Classical in
noncomputable def unlend (F : Hp) (α : Nat → Addr) (L : List (Nat × LO)) : Hp := fun b => if lentAt α L b then none else F b
theorem Rel.lent_none (R : Rel K mg B F α H σ S) {b : Addr} (h : lentAt α S.L b) : F b = none := by
  obtain ⟨n, xs, h1, rfl⟩ := h
  exact (R.live n _ h1).1
theorem Rel.lent_lst (R : Rel K mg B F α H σ S) {b : Addr} (h : lentAt α S.L b) : ∃ vs, H b = some (.lst vs) := by
  obtain ⟨n, xs, h1, rfl⟩ := h
  obtain ⟨_, _, vs, e, _⟩ := R.live n _ h1
  exact ⟨vs, e⟩
theorem Rel.lend_same (R : Rel K mg B F α H σ S) : Same F (lendF F H α S.L) := fun b o e => by
  unfold lendF
  by_cases h : lentAt α S.L b
  · rw [R.lent_none h] at e; cases e
  · rw [if_neg h]; exact e
theorem Rel.lend_sub (R : Rel K mg B F α H σ S) : Same (lendF F H α S.L) H := fun b o e => by
  unfold lendF at e
  by_cases h : lentAt α S.L b
  · rw [if_pos h] at e; exact e
  · rw [if_neg h] at e; exact R.sub b o e
/-- behind the call -/
theorem Rel.unlend (R : Rel K mg B F α H σ S) {α0 : Nat → Addr} (R' : Rel K mg (bdOf (lendF F H α S.L) H (fun _ => False) α0 []) F' α' H' σ' S') :
    Rel K mg B (Nz.unlend F' α S.L) α H' σ S ∧ Same F (Nz.unlend F' α S.L) ∧ (∀ a vs, SqT K F' a vs → SqT K (Nz.unlend F' α S.L) a vs) := by
  have hF' : Same (lendF F H α S.L) F' := R'.bF
  have h1 : Same F (Nz.unlend F' α S.L) := fun b o e => by
    unfold Nz.unlend
    by_cases h : lentAt α S.L b
    · rw [R.lent_none h] at e; cases e
    · rw [if_neg h]; exact hF' b o (R.lend_same b o e)
  have hH : Same H H' := fun b o e => R'.frame b o e fun z => z
  refine ⟨R.grow h1 hH (fun b o e => ?_) fun b u e => ?_, h1, fun a vs q => ?_⟩
  · unfold Nz.unlend at e
    by_cases h : lentAt α S.L b
    · rw [if_pos h] at e; cases e
    · rw [if_neg h] at e; exact R'.sub b o e
  · unfold Nz.unlend at e
    by_cases h : lentAt α S.L b
    · rw [if_pos h] at e; cases e
    · rw [if_neg h] at e
      rcases R'.nF b u e with z | z | z
      · have z : lendF F H α S.L b = some u := z
        unfold lendF at z
        rw [if_neg h] at z; exact .inl z
      · exact .inr z
      · exact z.elim
  · have key : ∀ o, F' a = some o → (∀ ws, o ≠ .lst ws) → Nz.unlend F' α S.L a = some o := fun o e ne => by
      unfold Nz.unlend
      by_cases h : lentAt α S.L a
      · obtain ⟨ws, hw⟩ := R.lent_lst h
        have : F' a = some (.lst ws) := hF' a _ (by unfold lendF; rw [if_pos h]; exact hw)
        rw [this] at e; cases e; exact absurd rfl (ne ws)
      · rw [if_neg h]; exact e
    rcases q with (q | ⟨o, q⟩) | q
    · exact .inl (.inl (key _ q fun ws z => by cases z))
    · exact .inl (.inr ⟨o, key _ q fun ws z => by cases z⟩)
    · exact .inr q
end
end Nz
namespace Nz
theorem rng_lt {n i y : Nat} (h : (List.range n)[i]? = some y) : y < n := List.mem_range.mp (List.mem_of_getElem? h)
end Nz
namespace Nz
open PySem PySem.Spec PyProof.Rows L2
end Nz
namespace Nz
theorem small_log {i : Int} (h : -1000000 ≤ i ∧ i ≤ 1000000) : i.natAbs.log2 < 1920 := by
  by_cases h0 : i.natAbs = 0
  · rw [h0]; decide
  · have h1 : i.natAbs < 2 ^ 20 := by
      have : (2 : Nat) ^ 20 = 1048576 := by decide
      omega
    have := (Nat.log2_lt h0).mpr h1
    omega
end Nz
namespace Nz
theorem some_of3 {τ : Type} {y : Option τ} {b : Bool} (h : ¬ ¬ ((y.isSome && b) = true)) : y.isSome = true := by
  have := Classical.not_not.mp h
  rw [Bool.and_eq_true] at this
  exact this.1
theorem some_of4 {τ : Type} {y : Option τ} {b : Bool} {q : Prop} (h : ¬ ((¬ ((y.isSome && b) = true)) ∨ q)) : y.isSome = true := some_of3 fun z => h (.inl z)
theorem some_of5 {τ : Type} {y : Option τ} {b : Bool} {q : Prop} (h : ((y.isSome && b) = true)) : y.isSome = true := some_of3 fun z => z h
end Nz
namespace Nz
/-- from the test of a while -/
theorem some_ofW {τ : Type} {y : Option τ} (h : (!y.isNone) = true) : y.isSome = true := by
  cases y with
  | none => exact absurd h (by simp)
  | some z => rfl
end Nz
namespace Nz
open PySem PySem.Spec PyProof.Rows L2
end Nz
namespace Nz
open PySem PySem.Spec PyProof.Rows L2
end Nz
namespace Nz
open PySem PySem.Spec PyProof.Rows L2
end Nz
namespace Nz
open PySem PySem.Spec PyProof.Rows L2
/-- an encoding of data whose order is lt -/
structure OrdEnc {τ : Type} [DecidableEq τ] (n : Nat) (e : τ → D) (lt : τ → τ → Bool) : Prop extends EqEnc n e where
  alike : ∀ x y, PySem.W.alike (toP (e x)) (toP (e y)) = true
  some : ∀ x, toP (e x) ≠ .none
  lt : ∀ x y, PySem.W.dataLt (toP (e x)) (toP (e y)) = lt x y
def ltI (x y : Int) : Bool := decide (x < y)
def ltList {τ : Type} [DecidableEq τ] (lt : τ → τ → Bool) : List τ → List τ → Bool
  | [], [] => false
  | [], _ :: _ => true
  | _ :: _, [] => false
  | x :: xs, y :: ys => if x = y then ltList lt xs ys else lt x y
def lt2 {τ μ : Type} [DecidableEq τ] (f : τ → τ → Bool) (g : μ → μ → Bool) (x y : τ × μ) : Bool := if x.1 = y.1 then g x.2 y.2 else f x.1 y.1
theorem oe_int : OrdEnc 0 D.int ltI := { toEqEnc := ee_int, alike := fun x y => (by simp only [toP, PySem.W.alike]), some := fun x q => (by simp only [toP] at q; cases q), lt := fun x y => PySem.W.dataLt_int x y }
section
variable {τ μ ν κ ι : Type} [DecidableEq τ] [DecidableEq μ] [DecidableEq ν] [DecidableEq κ] [DecidableEq ι] {n m k l i : Nat} {e : τ → D} {f : μ → D} {g : ν → D} {h : κ → D} {j : ι → D} {lt : τ → τ → Bool} {lf : μ → μ → Bool} {lg : ν → ν → Bool} {lh : κ → κ → Bool} {lj : ι → ι → Bool}
theorem oes_alike (o : OrdEnc n e lt) : ∀ xs ys : List τ, PySem.W.alikeAll (toPs (xs.map e)) (toPs (ys.map e)) = true
  | [], _ => by simp only [List.map_nil, toPs]; rw [PySem.W.alikeAll]
  | _ :: _, [] => by simp only [List.map_nil, List.map_cons, toPs]; rw [PySem.W.alikeAll]
  | x :: xs, y :: ys => by
    simp only [List.map_cons, toPs]
    rw [PySem.W.alikeAll, o.alike x y, oes_alike o xs ys]; rfl
/-- the first difference, or what follows -/
theorem lex_step (o : OrdEnc n e lt) (x y : τ) (xs ys : List PyData) : PyProof.Rows.lexLt PyProof.Rows.itemOrd (PySem.W.keyToksAll (toP (e x) :: xs)) (PySem.W.keyToksAll (toP (e y) :: ys)) = if x = y then PyProof.Rows.lexLt PyProof.Rows.itemOrd (PySem.W.keyToksAll xs) (PySem.W.keyToksAll ys) else lt x y := by
  by_cases q : x = y
  · rw [if_pos q, PySem.W.dataLt_all_yes (o.alike x y) (by rw [o.eqv, decide_eq_true_eq]; exact q)]
  · rw [if_neg q, PySem.W.dataLt_all_no (o.alike x y) (by rw [o.eqv, decide_eq_false_iff_not]; exact q), o.lt]
theorem oes_lex (o : OrdEnc n e lt) : ∀ xs ys : List τ, PyProof.Rows.lexLt PyProof.Rows.itemOrd (PySem.W.keyToksAll (toPs (xs.map e))) (PySem.W.keyToksAll (toPs (ys.map e))) = ltList lt xs ys
  | [], [] => PyProof.Rows.lex_irrefl _
  | [], y :: ys => by
    simp only [List.map_nil, List.map_cons, toPs]
    rw [PySem.W.toks_all_cons]
    simp only [PySem.W.keyToksAll]
    rw [PyProof.Rows.lex_diff (O := PyProof.Rows.itemOrd) (by simp)]
    rfl
  | x :: xs, [] => by
    simp only [List.map_nil, List.map_cons, toPs]
    rw [PySem.W.toks_all_cons]
    simp only [PySem.W.keyToksAll]
    rw [PyProof.Rows.lex_diff (O := PyProof.Rows.itemOrd) (by simp)]
    rfl
  | x :: xs, y :: ys => by
    simp only [List.map_cons, toPs]
    rw [lex_step o, oes_lex o xs ys]; rfl
theorem oe_L (o : OrdEnc n e lt) : OrdEnc (n + 1) (eL e) (ltList lt) := { toEqEnc := ee_L o.toEqEnc, alike := fun x y => (by simp only [toP, PySem.W.alike]; exact oes_alike o x y), some := fun x q => (by simp only [toP] at q; cases q), lt := fun x y => (by simp only [toP]; rw [PySem.W.dataLt_list]; exact oes_lex o x y) }
theorem lt_self (o : OrdEnc n e lt) (x : τ) : lt x x = false := by rw [← o.lt]; exact PyProof.Rows.lex_irrefl _
theorem lex_one (o : OrdEnc n e lt) (x y : τ) : PyProof.Rows.lexLt PyProof.Rows.itemOrd (PySem.W.keyToksAll [toP (e x)]) (PySem.W.keyToksAll [toP (e y)]) = lt x y := by
  rw [lex_step o]
  by_cases q : x = y
  · rw [if_pos q, q, lt_self o]; exact PyProof.Rows.lex_irrefl _
  · rw [if_neg q]
theorem oe_T2 (o : OrdEnc n e lt) (o2 : OrdEnc m f lf) : OrdEnc (n + m + 1) (eT2 e f) (lt2 lt lf) := { toEqEnc := ee_T2 o.toEqEnc o2.toEqEnc, alike := fun x y => (by simp only [toP, toPs, PySem.W.alike, PySem.W.alikeAll, o.alike, o2.alike, Bool.and_self]), some := fun x q => (by simp only [toP] at q; cases q), lt := fun x y => (by simp only [toP, toPs]; rw [PySem.W.dataLt_tuple, lex_step o, lex_one o2]; rfl) }
end
section
variable {τ : Type} [DecidableEq τ] {n : Nat} {e : τ → D} {lt : τ → τ → Bool} {X : Cx}
/-- in ascending order -/
def sortBy (lt : τ → τ → Bool) (xs : List τ) : List τ := xs.mergeSort fun a b => !lt b a
def Sbl (e : τ → D) : Prop := (∀ x, ∃ a r, toP (e x) = .tuple (a :: r)) ∨ ∀ x zs, toP (e x) ≠ .tuple zs
theorem reps_each {K : Frag} {mg : Mg} {F : Hp} {X : Cx} {pins : List (Addr × Obj)} {σ : L2.St} {H : Hp} {s : Shared} (I : Inv X pins σ H s) (sub : Same F H) (ok : ∀ x, dataOk (e x) = true) : ∀ {xs : List τ} {vs : List V} {us : List Value}, Reps X.K X.mg F (xs.map e) vs → Vals vs us →
    PySem.W.EachIs (fun (u : Value) (x : τ) => ∃ v, RelV v u ∧ Rep X.K X.mg F (e x) v) us xs ∧ PySem.W.EachIs (fun (u : Value) (x : τ) => ∃ as, Reads s.heap u (toP (e x)) as) us xs
  | [], _, _, .nil, .nil => ⟨.nil, .nil⟩
  | x :: xs, _, _, .cons r rs, .cons q qs => by
    obtain ⟨h1, h2⟩ := reps_each (K := K) (mg := mg) I sub ok rs qs
    exact ⟨.cons ⟨_, q, r⟩ h1, .cons (Dp.reads I _ _ _ (dp_of sub _ _ r (ok x)) q) h2⟩
theorem each_reps {X : Cx} {F : Hp} : ∀ {us : List Value} {xs : List τ}, PySem.W.EachIs (fun (u : Value) (x : τ) => ∃ v, RelV v u ∧ Rep X.K X.mg F (e x) v) us xs → ∃ vs, Vals vs us ∧ Reps X.K X.mg F (xs.map e) vs
  | _, _, .nil => ⟨[], .nil, .nil⟩
  | _, _, .cons ⟨v, q, r⟩ t => by
    obtain ⟨vs, h1, h2⟩ := each_reps t
    exact ⟨v :: vs, .cons q h1, .cons r h2⟩
/-- sorted(xs) -/
theorem c_sortedD (hu : X.A.units + 66 < cLine) (o : OrdEnc n e lt) (sb : Sbl e) {xs : List τ} (hz : xs.length ≤ sizeLine) (hn : n ≤ 60 := by decide) : Cb X (.builtin "sorted") [eL e xs] (eL e (sortBy lt xs)) :=
  fun B F α H σ S Q vs R rx k pins s us I rv => by
    cases rx with
    | cons r rr =>
      cases rr
      obtain ⟨a, ws, rfl, hq, rs⟩ := R.asL (c := .fr (.lst (xs.map e))) rfl r
      obtain ⟨its, rits, hl, hz2⟩ := I.list hq
      rw [Vals.ref1 rv]
      obtain ⟨h1, h2⟩ := reps_each (K := X.K) (mg := X.mg) I R.sub o.ok rs rits
      have e2 : xs.mergeSort (PySem.W.dataLe false fun x => toP (e x)) = sortBy lt xs := PySem.W.sort_congr fun x _ y _ => by
        show (!PySem.W.dataLt (toP (e y)) (toP (e x))) = !lt y x
        rw [o.lt]
      refine PySem.W.sorted_data (enc := fun x => toP (e x)) (R := fun (u : Value) (x : τ) => ∃ v, RelV v u ∧ Rep X.K X.mg F (e x) v) hl.isList h1 h2 (.of fun x y => o.alike x y) ?_ hz (fun x _ => by have := o.dep x; omega) fun out hlen hout => ?_
      · rcases sb with q | q
        · exact .tuples q
        · exact .others fun x => ⟨o.some x, q x⟩
      · rw [e2] at hout
        obtain ⟨ys, v1, v2⟩ := each_reps hout
        obtain ⟨ep, he'⟩ := PyProof.Rows.sortedAll_at s.heap its out.toArray
        have hlen2 : ys.length ≤ sizeLine := by rw [← v2.length, List.length_map]; unfold sortBy; rw [List.length_mergeSort]; exact hz
        have hf : H (s.heap.objs.size + 1) = none := I.hok.fresh (Nat.le_succ _)
        refine ⟨.ref _, upd H (s.heap.objs.size + 1) (.lst ys), I.laid (t' := s.toks) (fun _ _ => PyProof.Rows.sortedAll_old) (Nat.le_succ _) ⟨hlen2, out, ep, v1, he'⟩, rfl, k _ α _ _ (R.allocF hf) (stp_allocF (R.fresh hf)) (.lst (SqL.of upd_same) (v2.mono (same_upd (R.fresh hf))))⟩
end
end Nz
namespace Nz
open PySem PySem.Spec PyProof.Rows L2
section
variable {K : Frag} {mg : Mg} {B : Bd} {F F' : Hp} {α : Nat → Addr} {H : Hp} {σ : L2.St} {S : Nz.S}
/-- the ground is moved up -/
def Bd.at (B : Bd) (F : Hp) : Bd := { B with F0 := F }
end
/-- // by any number but 0 -/
def CDivZ (_ j : Int) : Prop := j ≠ 0 ∧ j.natAbs.log2 < 9000
theorem fdivW_of {i j : Int} (h : j ≠ 0) (h2 : -(2 ^ 900) < j ∧ j < 2 ^ 900) : CDivZ i j := ⟨h, Nat.lt_of_lt_of_le (PySem.Flt.log2_lt_of (k := 900) (by decide) (by omega)) (by decide)⟩
end Nz
namespace PySem
open PySem.AutoSeq1
theorem nz_extend (l : Addr) (items : Array Value) (n : Nat) (b : Addr) (d2 : Option Addr) (sl2 : Array (Option Value)) (items2 : Array Value) (n2 : Nat) (hc0 : ¬(!items.isEmpty && Builtin.List.listTooLong (items.size + items2.size)) = true) (hc1 : items.size ≤ sizeLine) (hs2 : items.size + items2.size ≤ sizeLine + 1) :
    Meets (Builtin.«list.extend» ⟨[.ref l, .ref b], []⟩) (fun _ R s => s.heap.get? l = some { cls := .type "list", dict := none, data := .seq items n, slots := #[] } ∧ s.heap.get? b = some { cls := .type "list", dict := d2, data := .seq items2 n2, slots := sl2 } ∧ R (.ok (.ret Value.none)) { s with heap := s.heap.update l (Obj.mapSeq fun x => x ++ items2), toks := s.toks }) :=
  .of_wp fun prog w A R s h => by
    obtain ⟨hp, g, d, tk, os⟩ := s; obtain ⟨hl, hb, h⟩ := h; have f1 := idx_int; have f2 := sub_tuple_tuple; have f3 := sub_list_list; have f4 := sub_tuple_list; have f5 := sub_list_tuple;
    have hz' : (items ++ items2).size ≤ sizeLine + 1 := by rw [Array.size_append]; exact hs2
    wp_walk using (wpAny_updateSeq hl rfl (hz := hc1) (_hz' := hz')), wpAny_loadPart' hl, wpAny_loadPart' hb; exact ⟨_, rfl, h⟩
end PySem
namespace L2
open PySem PySem.Spec PyProof.Rows
variable {X : Cx}
def rExtS (K : PySem.W.Frag) : V → List V → Hp → VK → Prop := fun x vs H Q => ∃ l b xs zs, x = .ref l ∧ vs = [.ref b] ∧ H l = some (.lst xs) ∧ SqL K H b zs ∧ xs.length + zs.length ≤ sizeLine ∧ Q .non (upd H l (.lst (xs ++ zs)))
theorem mt_extS : MtM X "list.extend" (rExtS X.K) := by
  intro pins s σ H x vs v us Q I rx rv h
  obtain ⟨l, b, xs, zs, rfl, rfl, hH, hB, hz, q⟩ := h
  cases rx
  obtain ⟨u, rfl, ru⟩ := rv.one
  cases ru
  obtain ⟨z, its, n, r, hl, e⟩ := I.lstM hH
  obtain ⟨its2, r2, ⟨⟨c2, d2, dt2, sl2⟩, n2, e2, hc2, hd2, hdt2⟩, z2⟩ := I.list hB
  dsimp only at hc2 hd2 hdt2
  subst hc2
  subst hdt2
  have l1 := r.length
  have l2 := r2.length
  have hsz : its.toArray.size + its2.toArray.size ≤ sizeLine := by rw [List.size_toArray, List.size_toArray]; omega
  have hlong : ¬ (!its.toArray.isEmpty && Builtin.List.listTooLong (its.toArray.size + its2.toArray.size)) = true := by
    rw [notLongL hsz, Bool.and_false]
    exact Bool.false_ne_true
  refine call_meets PySem.F.slot_list_extend ⟨_, e, rfl⟩ PySem.F.entry_list_extend (PySem.F.args_list_extend_2 _ _)
    (nz_extend l its.toArray n b d2 sl2 its2.toArray n2 hlong (by rw [List.size_toArray]; omega) (by omega)) ⟨e, e2, ?_⟩
  refine ⟨.non, _, I.lset (its' := its ++ its2) hH e (by simp) (r.append r2) ?_, rfl, q⟩
  rw [List.length_append]
  omega
theorem Room.units66 {k : Nat} {A : Around} (r : Room k A) : A.units + 66 < cLine := by have := r.un; omega
end L2
namespace Nz
open PySem PySem.Spec PyProof.Rows L2
section
variable {X : Cx} {B : Bd} {S S1 : Nz.S} {a e : Expr} {es : List Expr} {pos p q : Pos} {x : Str} {ds : List D} {d : D} {K : Out → Prop} {τ : Type} {enc : τ → D}
theorem ev_extend {n : Nat} {o : Expr} {apos : Pos} {ds2 : List D} (ho : Ev X B o S (.ad n) S) {ds0 : List D} (ha : Ev X B e S (.fr (.lst ds2)) S1) (hn : getL n S1.L = some (.fl ds)) (hn0 : getL n S.L = some (.fl ds0)) (hz : ds.length + ds2.length ≤ sizeLine) (h1 : Sub S.L S1.L := by exact Sub.refl)
    (hbase : attributeBase o "extend" X.env (eval o X.env) = eval o X.env := by rfl)
    (hfew : ((backTo pos (starEach (e :: []) X.env)).all (fun x => !x.1) && (backToKw pos (keywordEach [] X.env)).all (fun x => x.1.isSome)
      && decide ((e :: ([] : List Expr)).length + ([] : List Keyword).length + (if ([] : List Keyword).isEmpty then 0 else 1) < 30)) = true := by rfl)
    (hline : (apos.endLine == pos.line) = true := by rfl) (hs : starEach (e :: []) X.env = (false, eval e X.env) :: starEach [] X.env := by rfl) (hplain : (backTo pos (starEach [] X.env)).any (·.1) = false := by rfl) :
    Ev X B (.Call (.Attribute o "extend" apos) [e] [] pos) S (.fr .non) ⟨S1.ρ, setL n (.fl (ds ++ ds2)) S1.L⟩ :=
  fun F α H σ Q R k => wE.of (pe_bm PySem.F.plainAttrs_list PySem.F.slot_list_extend PySem.F.type_list_extend mt_extS pe_w (pa_cons pe_w pa_nil hs) hbase hfew hline hs hplain) (ho F α H σ _ R fun F1 α1 v1 H1 R1 st1 r1 => by
    obtain ⟨hm, rfl⟩ := r1
    refine ⟨?_, ha F1 α1 H1 σ _ R1 fun F2 α2 v2 H2 R2 st2 r2 => ?_⟩
    · obtain ⟨_, _, vs, e1, rs⟩ := R1.live n _ (getL_mem hn0)
      exact .inl ⟨rfl, _, SqL.of e1⟩
    · have hmm := getL_mem hn
      obtain ⟨f0, f1, vs, e1, rs⟩ := R2.live n _ hmm
      have en : α2 n = α1 n := st2.nm n hm
      cases r2 with
      | lst g1 g2 =>
        rename_i b us
        refine ⟨α1 n, b, vs, us, rfl, rfl, by rw [← en]; exact e1, R2.sub.seq g1, by rw [← rs.length, ← g2.length]; exact hz, ?_⟩
        have Rp := R2.put (n := n) (u := .fl (ds ++ ds2)) (o' := .lst (vs ++ us)) hmm ⟨vs ++ us, upd_same, rs.append g2⟩
        rw [en] at Rp
        exact k F2 α2 .non _ Rp ((st1.trans st2 Sub.refl).trans Stp.refl h1) .non)
theorem ev_extendT {n : Nat} {o : Expr} {apos : Pos} {xs xs0 : List τ} (zs : List τ) {d : D} (hd : d = eL enc zs) (hn : getL n S1.L = some (.fl (xs.map enc))) (hn0 : getL n S.L = some (.fl (xs0.map enc))) (hz : xs.length + zs.length ≤ sizeLine) (ho : Ev X B o S (.ad n) S) (ha : Ev X B e S (.fr d) S1) (h1 : Sub S.L S1.L := by exact Sub.refl)
    (hbase : attributeBase o "extend" X.env (eval o X.env) = eval o X.env := by rfl)
    (hfew : ((backTo pos (starEach (e :: []) X.env)).all (fun x => !x.1) && (backToKw pos (keywordEach [] X.env)).all (fun x => x.1.isSome)
      && decide ((e :: ([] : List Expr)).length + ([] : List Keyword).length + (if ([] : List Keyword).isEmpty then 0 else 1) < 30)) = true := by rfl)
    (hline : (apos.endLine == pos.line) = true := by rfl) (hs : starEach (e :: []) X.env = (false, eval e X.env) :: starEach [] X.env := by rfl) (hplain : (backTo pos (starEach [] X.env)).any (·.1) = false := by rfl) :
    Ev X B (.Call (.Attribute o "extend" apos) [e] [] pos) S (.fr .non) ⟨S1.ρ, setL n (.fl ((xs ++ zs).map enc)) S1.L⟩ := by
  subst hd
  have := ev_extend (pos := pos) (apos := apos) ho ha hn hn0 (by rw [List.length_map, List.length_map]; exact hz) h1 hbase hfew hline hs hplain
  rwa [show xs.map enc ++ zs.map enc = (xs ++ zs).map enc by simp] at this
end
end Nz
namespace Nz
open PySem PySem.Spec PyProof.Rows L2
end Nz
namespace Nz
open PySem PySem.Spec PyProof.Rows L2
def nuC (m n : Nat) : Ce → Ce
  | .ad k => if k = m then .ad n else .ad k
  | .fr d => .fr d
  | .xv u => .xv u
/-- looked at by reckoning -/
def noAd (n : Nat) : List (Option Ce) → Bool
  | [] => true
  | some (.ad k) :: r => (k != n) && noAd n r
  | _ :: r => noAd n r
theorem noAd_ok {n : Nat} : ∀ {ρ : List (Option Ce)}, noAd n ρ = true → ∀ c, some c ∈ ρ → c ≠ .ad n
  | [], _, c, h => by cases h
  | none :: r, h, c, hc => by
    rcases List.mem_cons.mp hc with q | q
    · cases q
    · exact noAd_ok (ρ := r) h c q
  | some (.fr d) :: r, h, c, hc => by
    rcases List.mem_cons.mp hc with q | q
    · cases q; exact fun z => by cases z
    · exact noAd_ok (ρ := r) h c q
  | some (.xv u) :: r, h, c, hc => by
    rcases List.mem_cons.mp hc with q | q
    · cases q; exact fun z => by cases z
    · exact noAd_ok (ρ := r) h c q
  | some (.ad k) :: r, h, c, hc => by
    have h : ((k != n) && noAd n r) = true := h
    rw [Bool.and_eq_true] at h
    rcases List.mem_cons.mp hc with q | q
    · cases q; exact fun z => by cases z; simp at h
    · exact noAd_ok (ρ := r) h.2 c q
def flOnly : List (Nat × LO) → Bool
  | [] => true
  | (_, .fl _) :: r => flOnly r
  | _ :: _ => false
end Nz
namespace Nz
open PySem PySem.Spec PyProof.Rows L2 NdefX
def okD (d : D) : Prop := (∃ i : Int, d = .int i ∧ i.natAbs.log2 < 1920) ∨ ∃ s : Str, d = .str s ∧ s.length ≤ 20000
theorem okD_int {i : Int} (h : -(2 ^ 900) < i ∧ i < 2 ^ 900) : okD (.int i) := .inl ⟨i, rfl, Nat.lt_of_lt_of_le (PySem.Flt.log2_lt_of (k := 900) (by decide) (by omega)) (by decide)⟩
theorem okD_str {s : Str} (h : s.length ≤ 20000) : okD (.str s) := .inr ⟨s, rfl, h⟩
/-- what the ground knows of the error -/
def ExD (K : Frag) (mg : Mg) (F : Hp) (fs : List (Str × D)) (d : Option Addr) : Prop := (fs = [] ∧ d = none) ∨ (fs ≠ [] ∧ ∃ dx vs, d = some dx ∧ F dx = some (.xd vs) ∧ RepF K mg F fs vs)
theorem ExD.mono {K : Frag} {mg : Mg} {F F' : Hp} {fs : List (Str × D)} {d : Option Addr} (h : ExD K mg F fs d) (s : Same F F') : ExD K mg F' fs d := by
  rcases h with h | ⟨h, dx, vs, h1, h2, h3⟩
  · exact .inl h
  · exact .inr ⟨h, dx, vs, h1, s _ _ h2, h3.mono s⟩
end Nz
namespace Nz
open PySem PySem.Spec PyProof.Rows L2
end Nz
namespace Nz
open PySem PySem.Spec PyProof.Rows L2
end Nz
namespace Nz
open PySem PySem.Spec PyProof.Rows L2
end Nz
namespace Nz
open PySem PySem.Spec PyProof.Rows L2
end Nz
namespace Nz
open PySem PySem.Spec PyProof.Rows L2
end Nz
namespace Nz
open PySem PySem.Spec PyProof.Rows L2
end Nz
namespace Nz
open PySem PySem.Spec PyProof.Rows L2
open AutoSeq1 (wpAny_loadPart')
open Sem (wp)
end Nz
namespace Nz
open PySem PySem.Spec PyProof.Rows L2
def IsG (t : Bool) (h : Heap) (a : Addr) (items : Array Value) : Prop := match t with | true => h.IsTuple a items | false => h.IsList a items
def ItG (t : Bool) (h : Heap) (it a : Addr) (i : Nat) : Prop := match t with | true => h.IsTupleIter it a i | false => h.IsListIter it a i
theorem ItG.at {t : Bool} {h h' : Heap} {it a : Addr} {i : Nat} (x : ItG t h it a i) (k : ∀ o, h.get? it = some o → h'.get? it = some o) : ItG t h' it a i := by
  cases t
  · exact Heap.IsListIter.at x k
  · exact Heap.IsTupleIter.at x k
theorem ItG.is {t : Bool} {h : Heap} {it a : Addr} {i : Nat} (x : ItG t h it a i) : ∃ o, h.get? it = some o ∧ ∀ v, o.data ≠ .cell v := by
  cases t
  · obtain ⟨o, e, _, d⟩ := x; exact ⟨o, e, fun v q => by rw [d] at q; cases q⟩
  · obtain ⟨o, e, _, d⟩ := x; exact ⟨o, e, fun v q => by rw [d] at q; cases q⟩
theorem IsG.at {t : Bool} {h h' : Heap} {a : Addr} {xs : Array Value} (x : IsG t h a xs) (k : ∀ o, h.get? a = some o → h'.get? a = some o) : IsG t h' a xs := by
  cases t
  · exact Heap.IsList.at x k
  · exact Heap.IsTuple.at x k
theorem IsG.lt {t : Bool} {h : Heap} {a : Addr} {xs : Array Value} (x : IsG t h a xs) : a < h.objs.size := by
  cases t
  · obtain ⟨o, e, _⟩ := x; exact Heap.lt_size e
  · obtain ⟨o, e, _⟩ := x; exact Heap.lt_size e
end Nz
namespace Nz
open PySem PySem.Spec PyProof.Rows L2
mutual
def noM : D → Bool
  | .tup xs => noMs xs
  | .obj _ fs => noMf fs
  | .lst _ => false
  | _ => true
def noMs : List D → Bool
  | [] => true
  | d :: ds => noM d && noMs ds
def noMf : List (Str × D) → Bool
  | [] => true
  | p :: ds => noMp p && noMf ds
def noMp : Str × D → Bool
  | (_, d) => noM d
end
structure NoM {τ : Type} (e : τ → D) : Prop where
  ok : ∀ x, noM (e x) = true
theorem nm_bool : NoM D.bl := ⟨fun _ => rfl⟩
section
variable {K : Frag} {mg : Mg} {F F' : Hp}
theorem sqT_keep (hT : ∀ a o, F a = some o → (∀ ws, o ≠ .lst ws) → F' a = some o) {a : Addr} {vs : List V} (q : SqT K F a vs) : SqT K F' a vs := by
  rcases q with (q | ⟨o, q⟩) | q
  · exact .inl (.inl (hT _ _ q fun ws z => by cases z))
  · exact .inl (.inr ⟨o, hT _ _ q fun ws z => by cases z⟩)
  · exact .inr q
mutual
theorem Rep.lentM (hT : ∀ a o, F a = some o → (∀ ws, o ≠ .lst ws) → F' a = some o) : ∀ {d : D} {v : V}, noM d = true → Rep K mg F d v → Rep K mg F' d v
  | .non, _, _, .non => .non
  | .bl _, _, _, .bl b => .bl b
  | .int _, _, _, .int i => .int i
  | .str _, _, _, .str s => .str s
  | .tup _, _, h, .tup h1 h2 => .tup (sqT_keep hT h1) (Reps.lentM hT (by simpa [noM] using h) h2)
  | .lst _, _, h, .lst _ _ => by simp [noM] at h
  | .obj _ _, _, h, .obj m h1 h2 r => .obj m (hT _ _ h1 fun ws z => by cases z) (hT _ _ h2 fun ws z => by cases z) (RepF.lentM hT (by simpa [noM] using h) r)
theorem Reps.lentM (hT : ∀ a o, F a = some o → (∀ ws, o ≠ .lst ws) → F' a = some o) : ∀ {ds : List D} {vs : List V}, noMs ds = true → Reps K mg F ds vs → Reps K mg F' ds vs
  | [], _, _, .nil => .nil
  | _ :: _, _, h, .cons h1 h2 => by
    rw [noMs, Bool.and_eq_true] at h
    exact .cons (Rep.lentM hT h.1 h1) (Reps.lentM hT h.2 h2)
theorem RepF.lentM (hT : ∀ a o, F a = some o → (∀ ws, o ≠ .lst ws) → F' a = some o) : ∀ {ds : List (Str × D)} {vs : List (Str × V)}, noMf ds = true → RepF K mg F ds vs → RepF K mg F' ds vs
  | [], _, _, .nil => .nil
  | (_, _) :: _, _, h, .cons h1 h2 => by
    rw [noMf, Bool.and_eq_true] at h
    exact .cons (Rep.lentM hT (by simpa [noMp] using h.1) h1) (RepF.lentM hT h.2 h2)
end
end
def lendC (L : List (Nat × LO)) : Option Ce → Option Ce
  | some (.fr d) => some (.fr d)
  | some (.ad n) => match getL n L with
    | some (.fl xs) => some (.fr (.lst xs))
    | _ => none
  | _ => none
def lendS (S : Nz.S) : Nz.S := ⟨S.ρ.map (lendC S.L), []⟩
section
variable {K : Frag} {mg : Mg} {B : Bd} {F F' : Hp} {α α' : Nat → Addr} {H H' : Hp} {σ σ' : L2.St} {S S' : Nz.S}
theorem Rel.lend_slots (R : Rel K mg B F α H σ S) {L' : List (Nat × LO)} {α' : Nat → Addr} : ∀ {cs : List (Option Ce)} {vs : L2.St}, SlR K mg F α S.L cs vs → SlR K mg (lendF F H α S.L) α' L' (cs.map (lendC S.L)) vs
  | _, _, .nil => .nil
  | _, _, .no r => .no (R.lend_slots r)
  | _, _, .so (c := c) (v := v) h r => by
    have ih := R.lend_slots (L' := L') (α' := α') r
    cases c with
    | fr d => exact .so (c := .fr d) (Rep.mono R.lend_same (show Rep K mg F d _ from h)) ih
    | ad n =>
      show SlR K mg _ α' L' ((match getL n S.L with | some (.fl xs) => some (Ce.fr (.lst xs)) | _ => none) :: _) _
      split
      · rename_i xs hx
        obtain ⟨hn, rfl⟩ := h
        obtain ⟨f0, f1, us, e1, rs1⟩ := R.live n _ (getL_mem hx)
        refine .so (c := .fr (.lst xs)) (.lst (SqL.of ?_) (rs1.mono R.lend_same)) ih
        unfold lendF
        rw [if_pos ⟨n, xs, getL_mem hx, rfl⟩]; exact e1
      · exact .no ih
    | xv u => exact .no ih
theorem Rel.lendR (R : Rel K mg B F α H σ S) : Rel K mg (bdOf (lendF F H α S.L) H (fun _ => False) α []) (lendF F H α S.L) α H σ (lendS S) :=
  ⟨R.lend_sub, Same.refl _, fun b o e => .inl e, fun b o e _ => e, List.nodup_nil, fun n m h => absurd h (by simp [names, lendS]), fun n o h => absurd h (by simp [lendS]), R.lend_slots R.slots, fun n a h hn => absurd hn (by simp [names, lendS])⟩
theorem Rel.unlend_keep (R : Rel K mg B F α H σ S) (hF' : Same (lendF F H α S.L) F') : ∀ a o, F' a = some o → (∀ ws, o ≠ .lst ws) → Nz.unlend F' α S.L a = some o := fun a o e ne => by
  unfold Nz.unlend
  by_cases h : lentAt α S.L a
  · obtain ⟨ws, hw⟩ := R.lent_lst h
    have : F' a = some (.lst ws) := hF' a _ (by unfold lendF; rw [if_pos h]; exact hw)
    rw [this] at e; cases e; exact absurd rfl (ne ws)
  · rw [if_neg h]; exact e
end
section
variable {X : Cx} {B : Bd} {S Sf S1 S2 : Nz.S} {e : Expr} {d : D} {i : Bool}
/-- e reads what lives here, and gives what holds no list -/
theorem ev_lend (h : ∀ B', Ev X B' e Sf (.fr d) Sf) (hno : noM d = true) (hf : lendS S = Sf := by rfl) : Ev X B e S (.fr d) S := fun F α H σ Q R k => by
  subst hf
  refine h _ _ α H σ Q R.lendR fun F' α' v H' R' st r => ?_
  obtain ⟨Ru, sF, hT⟩ := R.unlend R'
  exact k _ α v H' Ru ⟨sF, fun _ _ => rfl⟩ (Rep.lentM (R.unlend_keep R'.bF) hno r)
end
end Nz
namespace PySem
open AutoSeq1
end PySem
namespace Nz
open PySem PySem.Spec PyProof.Rows L2
end Nz
namespace Nz
open PySem PySem.Spec PyProof.Rows L2
end Nz
namespace Nz
open PySem PySem.Spec PyProof.Rows L2
theorem Reps.erase {K : Frag} {mg : Mg} {F : Hp} : ∀ {ds : List D} {vs : List V} (k : Nat), Reps K mg F ds vs → Reps K mg F (ds.eraseIdx k) (vs.eraseIdx k)
  | _, _, _, .nil => .nil
  | _, _, 0, .cons _ r => r
  | _, _, k + 1, .cons h r => .cons h (Reps.erase k r)
end Nz
namespace L2
open PySem PySem.Spec PyProof.Rows
end L2
namespace Nz
open PySem PySem.Spec PyProof.Rows L2
end Nz
namespace Nz
open PySem PySem.Spec PyProof.Rows L2 SkE TL
abbrev eD : D → D := fun d => d
end Nz
namespace L2
open PySem PySem.Spec PyProof.Rows
end L2
namespace Nz
open PySem PySem.Spec PyProof.Rows L2 SkE TL
end Nz
namespace Nz
open PySem PySem.Spec PyProof.Rows L2
end Nz
namespace Nz
open PySem PySem.Spec PyProof.Rows L2 SkE TL
section
variable {X : Cx} {B : Bd} {S S1 S2 : Nz.S} {a b o e : Expr} {apos pos p : Pos} {z : Str} {τ : Type} {enc : τ → D}
/-- xs + ys, a new list that lives -/
theorem ev_catN (m : Nat) {xs ys : List τ} {ca cb : Ce} (ha : Ev X B a S ca S1) (hb : Ev X B b S1 cb S2) (hA : AsL S2.L ca (xs.map enc)) (hB : AsL S2.L cb (ys.map enc)) (hz : xs.length + ys.length ≤ sizeLine) (hn : m ∉ names S2.L) (h100 : 100 ≤ m)
    (h1 : Sub S.L S1.L := by exact Sub.refl) (h2 : Sub S1.L S2.L := by exact Sub.refl) : Ev X B (.BinOp a .Add b pos) S (.ad m) ⟨S2.ρ, S2.L ++ [(m, .fl ((xs ++ ys).map enc))]⟩ :=
  fun F α H σ Q R k pins s I => by
    refine wpAny_BinOp (thn (ha F α H σ _ R (fun F1 α1 v1 H1 R1 st1 r1 => hb F1 α1 H1 σ (fun v2 H2 => ∃ F2 α2, RelX X B F2 α2 H2 σ S2 ∧ Stp F α S.L F2 α2 ∧ CR X F2 α2 S2.L ca v1 ∧ CR X F2 α2 S2.L cb v2) R1 fun F2 α2 v2 H2 R2 st2 r2 =>
      ⟨F2, α2, R2, st1.trans st2 h1, CRel.step st2 h2 r1, r2⟩) pins s I) fun v s1 ⟨x, H1, I1, rv, q1⟩ => thn (q1 pins s1 I1) fun u s2 ⟨y, H2, I2, ru, F2, α2, R2, st, r1, r2⟩ => ?_)
    obtain ⟨l1, vs, rfl, hq, rs⟩ := R2.asL hA r1
    obtain ⟨l2, us, rfl, hq2, rs2⟩ := R2.asL hB r2
    cases rv
    cases ru
    obtain ⟨its, r, ⟨⟨cl, od, dt, sl⟩, n, e1, c1, o1, t1⟩, z1⟩ := I2.list hq
    obtain ⟨its2, r2, ⟨⟨cl2, od2, dt2, sl2⟩, n2, e2, c2, o2, t2⟩, z2⟩ := I2.list hq2
    simp only at c1 o1 t1 c2 o2 t2
    subst c1 o1 t1 c2 o2 t2
    have hlen := r.length
    have hlen2 := r2.length
    have g1 := rs.length
    have g2 := rs2.length
    rw [List.length_map] at g1 g2
    have ee : its.toArray ++ its2.toArray = (its ++ its2).toArray := by simp
    refine concat_meets ⟨_, e1, rfl⟩ ⟨_, e2, rfl⟩ noFill_list_add seq_list_add PySem.F.slot_list_add PySem.F.entry_list_add (PySem.F.args_list_add_2 _ _) (list_addW l1 l2 its.toArray its2.toArray n n2 none none sl sl2 (by simp only [List.size_toArray]; omega)) ⟨e1, e2, ?_⟩
    rw [ee]
    have rr : Reps X.K X.mg F2 ((xs ++ ys).map enc) (vs ++ us) := by rw [List.map_append]; exact rs.append rs2
    refine ⟨.ref _, _, I2.lnew (t' := s2.toks) (r.append r2) (by rw [List.length_append]; omega), rfl, k F2 (setα α2 m _) _ _ (R2.allocL I2.fresh hn h100 ⟨_, upd_same, rr⟩) (st.trans (stp_setα hn) fun n h => h2 n (h1 n h)) ⟨?_, ?_⟩⟩
    · rw [names_append]; exact List.mem_append_right _ (List.mem_singleton.mpr rfl)
    · show V.ref _ = V.ref (if m = m then _ else α2 m)
      rw [if_pos rfl]
end
end Nz
namespace Nz
open PySem PySem.Spec PyProof.Rows L2 SkE TL
end Nz
namespace Nz
open PySem PySem.Spec PyProof.Rows L2
section
variable {τ : Type}
def inL (e : τ → D) : Nat → List (List τ) → List (Nat × LO)
  | _, [] => []
  | b, x :: r => (b, .fl (x.map e)) :: inL e (b + 1) r
def ceL : Nat → Nat → List Ce
  | _, 0 => []
  | b, k + 1 => .ad b :: ceL (b + 1) k
def nest (n b : Nat) (e : τ → D) (xss : List (List τ)) : List (Nat × LO) := (n, .cl (ceL b xss.length)) :: inL e b xss
theorem inL_append (e : τ → D) : ∀ (xss yss : List (List τ)) (b : Nat), inL e b (xss ++ yss) = inL e b xss ++ inL e (b + xss.length) yss
  | [], yss, b => rfl
  | x :: r, yss, b => by
    show (b, LO.fl (x.map e)) :: inL e (b + 1) (r ++ yss) = _ :: (inL e (b + 1) r ++ _)
    rw [inL_append e r yss (b + 1), List.length_cons, show b + 1 + r.length = b + (r.length + 1) by omega]
theorem ceL_add : ∀ (m k b : Nat), ceL b (m + k) = ceL b m ++ ceL (b + m) k
  | 0, k, b => by rw [Nat.zero_add]; rfl
  | m + 1, k, b => by
    rw [show m + 1 + k = (m + k) + 1 by omega]
    show Ce.ad b :: ceL (b + 1) (m + k) = _ :: (ceL (b + 1) m ++ _)
    rw [ceL_add m k (b + 1), show b + 1 + m = b + (m + 1) by omega]
theorem mem_inL {e : τ → D} : ∀ {xss : List (List τ)} {b k : Nat} {o : LO}, (k, o) ∈ inL e b xss ↔ ∃ i x, xss[i]? = some x ∧ k = b + i ∧ o = .fl (x.map e)
  | [], b, k, o => by simp [inL]
  | x :: r, b, k, o => by
    unfold inL
    rw [List.mem_cons, mem_inL]
    constructor
    · rintro (h | ⟨i, y, h1, h2, h3⟩)
      · cases h; exact ⟨0, x, rfl, rfl, rfl⟩
      · exact ⟨i + 1, y, h1, by omega, h3⟩
    · rintro ⟨i, y, h1, h2, h3⟩
      cases i with
      | zero =>
        have : x = y := by simpa using h1
        subst this
        left; rw [h2, h3]; rfl
      | succ i => exact .inr ⟨i, y, by simpa using h1, by omega, h3⟩
theorem names_inL {e : τ → D} {xss : List (List τ)} {b k : Nat} : k ∈ names (inL e b xss) ↔ b ≤ k ∧ k < b + xss.length := by
  constructor
  · intro h
    obtain ⟨⟨k', o⟩, h1, h2⟩ := List.mem_map.mp h
    cases h2
    obtain ⟨i, x, h3, h4, _⟩ := mem_inL.mp h1
    have := (List.getElem?_eq_some_iff.mp h3).1
    show b ≤ k' ∧ k' < b + xss.length
    omega
  · rintro ⟨h1, h2⟩
    have hi : k - b < xss.length := by omega
    exact List.mem_map.mpr ⟨(k, .fl (xss[k - b].map e)), mem_inL.mpr ⟨k - b, _, List.getElem?_eq_getElem hi, by omega, rfl⟩, rfl⟩
theorem names_nest {e : τ → D} {xss : List (List τ)} {n b k : Nat} : k ∈ names (nest n b e xss) ↔ k = n ∨ (b ≤ k ∧ k < b + xss.length) := by
  show k ∈ n :: names (inL e b xss) ↔ _
  rw [List.mem_cons, names_inL]
theorem names_app (L M : List (Nat × LO)) : names (L ++ M) = names L ++ names M := by simp [names]
end
section
variable {K : Frag} {mg : Mg} {B : Bd} {F F' : Hp} {α α' : Nat → Addr} {H H' : Hp} {σ : L2.St} {S : Nz.S} {L L' P : List (Nat × LO)} {ρ : List (Option Ce)} {τ : Type} {e : τ → D} {xss yss : List (List τ)} {n b m k : Nat}
theorem crels_ceL : ∀ {k b : Nat} {vs : List V}, CRels K mg F α L (ceL b k) vs → vs.length = k ∧ ∀ i, i < k → vs[i]? = some (.ref (α (b + i))) ∧ b + i ∈ names L
  | 0, b, vs, h => by cases h; exact ⟨rfl, fun i hi => by omega⟩
  | k + 1, b, vs, h => by
    cases h with
    | cons h r =>
      obtain ⟨h1, h2⟩ := crels_ceL r
      refine ⟨by rw [List.length_cons, h1], fun i hi => ?_⟩
      cases i with
      | zero => exact ⟨by rw [h.2]; rfl, h.1⟩
      | succ i =>
        have := h2 i (by omega)
        rw [show b + (i + 1) = b + 1 + i by omega]
        exact ⟨by simpa using this.1, this.2⟩
theorem crels_ceL_of : ∀ {k b : Nat}, (∀ i, i < k → b + i ∈ names L) → CRels K mg F α L (ceL b k) ((List.range k).map fun i => .ref (α (b + i)))
  | 0, b, h => .nil
  | k + 1, b, h => by
    rw [List.range_succ_eq_map, List.map_cons, List.map_map]
    refine .cons ⟨h 0 (by omega), rfl⟩ ?_
    have : CRels K mg F α L (ceL (b + 1) k) ((List.range k).map fun i => .ref (α (b + 1 + i))) := crels_ceL_of (fun i hi => by rw [show b + 1 + i = b + (i + 1) by omega]; exact h (i + 1) (by omega))
    have e : (List.range k).map ((fun i => V.ref (α (b + i))) ∘ Nat.succ) = (List.range k).map fun i => V.ref (α (b + 1 + i)) := List.map_congr_left fun i _ => by
      show V.ref (α (b + (i + 1))) = _
      rw [show b + (i + 1) = b + 1 + i by omega]
    rw [e]; exact this
/-- the order of what lives is of no account -/
theorem Rel.permL (R : Rel K mg B F α H σ ⟨ρ, L⟩) (hnd : (names L').Nodup) (h : ∀ p, p ∈ L' ↔ p ∈ L) : Rel K mg B F α H σ ⟨ρ, L'⟩ := by
  have hn : ∀ k, k ∈ names L' ↔ k ∈ names L := fun k => by
    constructor
    · intro q; obtain ⟨p, h1, h2⟩ := List.mem_map.mp q; exact List.mem_map.mpr ⟨p, (h p).mp h1, h2⟩
    · intro q; obtain ⟨p, h1, h2⟩ := List.mem_map.mp q; exact List.mem_map.mpr ⟨p, (h p).mpr h1, h2⟩
  have st : Stp F α L F α := Stp.refl
  exact ⟨R.sub, R.bF, R.nF, R.frame, hnd, fun a b ha hb => R.inj a b ((hn a).mp ha) ((hn b).mp hb), fun n o hm => by
    obtain ⟨h1, h2, h3⟩ := R.live n o ((h _).mp hm)
    exact ⟨h1, h2, h3.step st (fun k q => (hn k).mpr q) (fun _ _ z => z) fun b u z => .inl z⟩, R.slots.step st fun k q => (hn k).mpr q, fun n a q hm => R.fix n a q ((hn n).mp hm)⟩
theorem Rel.perm (R : Rel K mg B F α H σ ⟨ρ, L⟩) (h : L.Perm L') : Rel K mg B F α H σ ⟨ρ, L'⟩ :=
  R.permL ((h.map _).nodup_iff.mp R.nd) fun p => h.mem_iff.symm
/-- a number is put for another one -/
def nuO (m n : Nat) : LO → LO
  | .fl ds => .fl ds
  | .cl cs => .cl (cs.map (nuC m n))
  | .ins c fs => .ins c (fs.map fun p => (p.1, nuC m n p.2))
  | .dT kvs => .dT kvs
  | .dK kvs => .dK (kvs.map fun p => (p.1, nuC m n p.2))
def rnN (m n k : Nat) : Nat := if k = m then n else k
def rnL (m n : Nat) (L : List (Nat × LO)) : List (Nat × LO) := L.map fun p => (rnN m n p.1, nuO m n p.2)
theorem names_rnL {m n : Nat} : names (rnL m n L) = (names L).map (rnN m n) := by simp [names, rnL]
theorem crel_rn (hn : n ∉ names L) (hm : m ∈ names L) : ∀ {c : Ce} {v : V}, CRel K mg F α L c v → CRel K mg F (setα α n (α m)) (rnL m n L) (nuC m n c) v
  | .fr _, _, h => h
  | .xv _, _, h => h
  | .ad k, _, ⟨h1, h2⟩ => by
    subst h2
    show CRel K mg F _ _ (if k = m then .ad n else .ad k) _
    by_cases q : k = m
    · subst q
      rw [if_pos rfl]
      refine ⟨by rw [names_rnL]; exact List.mem_map.mpr ⟨k, h1, if_pos rfl⟩, ?_⟩
      show V.ref (α k) = V.ref (if n = n then α k else α n)
      rw [if_pos rfl]
    · rw [if_neg q]
      refine ⟨by rw [names_rnL]; exact List.mem_map.mpr ⟨k, h1, if_neg q⟩, ?_⟩
      show V.ref (α k) = V.ref (if k = n then α m else α k)
      rw [if_neg (fun z : k = n => hn (by rw [← z]; exact h1))]
theorem crels_rn (hn : n ∉ names L) (hm : m ∈ names L) : ∀ {c : List Ce} {v : List V}, CRels K mg F α L c v → CRels K mg F (setα α n (α m)) (rnL m n L) (c.map (nuC m n)) v
  | _, _, .nil => .nil
  | _, _, .cons h r => .cons (crel_rn hn hm h) (crels_rn hn hm r)
theorem crelf_rn (hn : n ∉ names L) (hm : m ∈ names L) : ∀ {c : List (Str × Ce)} {v : List (Str × V)}, CRelF K mg F α L c v → CRelF K mg F (setα α n (α m)) (rnL m n L) (c.map fun p => (p.1, nuC m n p.2)) v
  | _, _, .nil => .nil
  | _, _, .cons h r => .cons (crel_rn hn hm h) (crelf_rn hn hm r)
theorem crelk_rn {κ : Type} (hn : n ∉ names L) (hm : m ∈ names L) : ∀ {c : List (κ × Ce)} {v : List (κ × V)}, CRelK K mg F α L c v → CRelK K mg F (setα α n (α m)) (rnL m n L) (c.map fun p => (p.1, nuC m n p.2)) v
  | _, _, .nil => .nil
  | _, _, .cons h r => .cons (crel_rn hn hm h) (crelk_rn hn hm r)
theorem slr_rn (hn : n ∉ names L) (hm : m ∈ names L) : ∀ {ρ : List (Option Ce)} {σ : L2.St}, SlR K mg F α L ρ σ → SlR K mg F (setα α n (α m)) (rnL m n L) (ρ.map (Option.map (nuC m n))) σ
  | _, _, .nil => .nil
  | _, _, .no r => .no (slr_rn hn hm r)
  | _, _, .so h r => .so (crel_rn hn hm h) (slr_rn hn hm r)
theorem Rel.rename (R : Rel K mg B F α H σ ⟨ρ, L⟩) (hm : m ∈ names L) (hn : n ∉ names L) (h100 : 100 ≤ n) : Rel K mg B F (setα α n (α m)) H σ ⟨ρ.map (Option.map (nuC m n)), rnL m n L⟩ := by
  have key : ∀ a, a ∈ names L → setα α n (α m) (rnN m n a) = α a := fun a ha => by
    unfold rnN setα
    by_cases q : a = m
    · subst q; rw [if_pos rfl, if_pos rfl]
    · rw [if_neg q, if_neg (fun z : a = n => hn (by rw [← z]; exact ha))]
  have rinj : ∀ a b, a ∈ names L → b ∈ names L → rnN m n a = rnN m n b → a = b := fun a b ha hb h => R.inj a b ha hb (by rw [← key a ha, ← key b hb, h])
  refine ⟨R.sub, R.bF, R.nF, R.frame, ?_, fun a b ha hb h => ?_, fun k o hk => ?_, slr_rn hn hm R.slots, fun k a h hk => ?_⟩
  · show (names (rnL m n L)).Nodup
    rw [names_rnL]
    exact List.pairwise_map.mpr (List.Pairwise.imp_of_mem (fun {a b} ha hb hab q => hab (rinj a b ha hb q)) R.nd)
  · have ha : a ∈ names (rnL m n L) := ha
    have hb : b ∈ names (rnL m n L) := hb
    rw [names_rnL] at ha hb
    obtain ⟨a', h1, rfl⟩ := List.mem_map.mp ha
    obtain ⟨b', h2, rfl⟩ := List.mem_map.mp hb
    rw [key a' h1, key b' h2] at h
    rw [R.inj a' b' h1 h2 h]
  · obtain ⟨⟨k', o'⟩, h1, h2⟩ := List.mem_map.mp hk
    cases h2
    obtain ⟨g0, g1, g2⟩ := R.live k' o' h1
    show F (setα α n (α m) (rnN m n k')) = none ∧ (B.H0 (setα α n (α m) (rnN m n k')) = none ∨ B.fp (setα α n (α m) (rnN m n k'))) ∧ LAt K mg B F (setα α n (α m)) (rnL m n L) H (setα α n (α m) (rnN m n k')) (nuO m n o')
    rw [key k' (mem_names h1)]
    refine ⟨g0, g1, ?_⟩
    cases o' with
    | fl ds => exact g2
    | cl cs => obtain ⟨vs, e1, r1⟩ := g2; exact ⟨vs, e1, crels_rn hn hm r1⟩
    | ins c fs => obtain ⟨C, dx, vs, m1, e1, e2, e3, e4, r1⟩ := g2; exact ⟨C, dx, vs, m1, e1, e2, e3, e4, crelf_rn hn hm r1⟩
    | dT kvs => exact g2
    | dK kvs => obtain ⟨vs, e1, r1⟩ := g2; exact ⟨vs, e1, crelk_rn hn hm r1⟩
  · have hk : k ∈ names (rnL m n L) := hk
    rw [names_rnL] at hk
    obtain ⟨k', h1, rfl⟩ := List.mem_map.mp hk
    rw [key k' h1]
    unfold rnN at h
    by_cases q : k' = m
    · rw [if_pos q, B.hpa n h100] at h; cases h
    · rw [if_neg q] at h; exact R.fix k' a h h1
theorem setL_appR {u : LO} (h : n ∉ names P) (Q : List (Nat × LO)) : setL n u (P ++ Q) = P ++ setL n u Q := by
  induction P with
  | nil => rfl
  | cons p r ih =>
    obtain ⟨k, o⟩ := p
    show (if n = k then (k, u) :: (r ++ Q) else (k, o) :: setL n u (r ++ Q)) = _
    rw [if_neg (fun z => h (by rw [z]; exact List.mem_cons_self)), ih fun z => h (List.mem_cons_of_mem _ z)]
    rfl
end
end Nz
namespace Nz
open PySem PySem.Spec PyProof.Rows L2
section
variable {τ : Type} {e : τ → D}
theorem getL_appR {P Q : List (Nat × LO)} {k : Nat} (h : k ∉ names P) : getL k (P ++ Q) = getL k Q := by
  induction P with
  | nil => rfl
  | cons p r ih =>
    obtain ⟨m, o⟩ := p
    show (if k = m then some o else getL k (r ++ Q)) = _
    rw [if_neg (fun z => h (by rw [z]; exact List.mem_cons_self)), ih fun z => h (List.mem_cons_of_mem _ z)]
theorem getL_inL : ∀ {xss : List (List τ)} {b i : Nat} {x : List τ}, xss[i]? = some x → getL (b + i) (inL e b xss) = some (.fl (x.map e))
  | y :: r, b, 0, x, h => by
    have : y = x := by simpa using h
    subst this
    show (if b + 0 = b then _ else getL (b + 0) (inL e (b + 1) r)) = _
    rw [if_pos (Nat.add_zero b)]
  | y :: r, b, i + 1, x, h => by
    show (if b + (i + 1) = b then _ else getL (b + (i + 1)) (inL e (b + 1) r)) = _
    rw [if_neg (by omega), show b + (i + 1) = b + 1 + i by omega]
    exact getL_inL (by simpa using h)
theorem getL_nest {P : List (Nat × LO)} {n b i : Nat} {xss : List (List τ)} {x : List τ} (hP : b + i ∉ names P) (hn : n < b) (h : xss[i]? = some x) : getL (b + i) (P ++ nest n b e xss) = some (.fl (x.map e)) := by
  rw [getL_appR hP]
  show (if b + i = n then _ else getL (b + i) (inL e b xss)) = _
  rw [if_neg (by omega)]
  exact getL_inL h
theorem boOf_ce {L : List (Nat × LO)} : ∀ {xss : List (List τ)} {b : Nat}, (∀ i x, xss[i]? = some x → getL (b + i) L = some (.fl (x.map e))) → boOf L (ceL b xss.length) = some (xss.map (eL e))
  | [], _, _ => rfl
  | x :: r, b, h => by
    have h0 := h 0 x rfl
    rw [Nat.add_zero] at h0
    have ih := boOf_ce (L := L) (xss := r) (b := b + 1) fun i y hy => by
      rw [show b + 1 + i = b + (i + 1) by omega]
      exact h (i + 1) y (by simpa using hy)
    show (match getL b L with | some (.fl xs) => (boOf L (ceL (b + 1) r.length)).map (D.lst xs :: ·) | _ => none) = _
    rw [h0, ih]; rfl
/-- all numbers are less than b -/
def belowB (b : Nat) (L : List (Nat × LO)) : Bool := L.all fun p => decide (p.1 < b)
theorem belowB_ok {b : Nat} {L : List (Nat × LO)} (h : belowB b L = true) {k : Nat} (hk : k ∈ names L) : k < b := by
  obtain ⟨p, h1, rfl⟩ := List.mem_map.mp hk
  have := List.all_eq_true.mp h p h1
  exact of_decide_eq_true this
end
section
def isLs : LO → Bool
  | .fl _ => true
  | .cl _ => true
  | _ => false
def lentN (α : Nat → Addr) (L : List (Nat × LO)) (b : Addr) : Prop := ∃ n o, (n, o) ∈ L ∧ isLs o = true ∧ b = α n
open Classical in
noncomputable def lendN (F H : Hp) (α : Nat → Addr) (L : List (Nat × LO)) : Hp := fun b => if lentN α L b then H b else F b
open Classical in
noncomputable def unlendN (F : Hp) (α : Nat → Addr) (L : List (Nat × LO)) : Hp := fun b => if lentN α L b then none else F b
variable {K : Frag} {mg : Mg} {B : Bd} {F F' : Hp} {α α' : Nat → Addr} {H H' : Hp} {σ σ' : L2.St} {S S' : Nz.S}
theorem Rel.lentN_none (R : Rel K mg B F α H σ S) {b : Addr} (h : lentN α S.L b) : F b = none := by
  obtain ⟨n, xs, h1, _, rfl⟩ := h
  exact (R.live n _ h1).1
theorem Rel.lendN_same (R : Rel K mg B F α H σ S) : Same F (lendN F H α S.L) := fun b o e => by
  unfold lendN
  by_cases h : lentN α S.L b
  · rw [R.lentN_none h] at e; cases e
  · rw [if_neg h]; exact e
theorem Rel.lendN_sub (R : Rel K mg B F α H σ S) : Same (lendN F H α S.L) H := fun b o e => by
  unfold lendN at e
  by_cases h : lentN α S.L b
  · rw [if_pos h] at e; exact e
  · rw [if_neg h] at e; exact R.sub b o e
theorem Rel.lendN_reps (R : Rel K mg B F α H σ S) : ∀ {cs : List Ce} {ds : List D} {vs : List V}, boOf S.L cs = some ds → CRels K mg F α S.L cs vs → Reps K mg (lendN F H α S.L) ds vs
  | [], ds, _, h, .nil => by cases h; exact .nil
  | .fr d :: cs, ds, _, h, .cons r rs => by
    unfold boOf at h
    cases q : boOf S.L cs with
    | none => rw [q] at h; cases h
    | some ds' =>
      rw [q] at h; cases h
      exact .cons (Rep.mono R.lendN_same (show Rep K mg F d _ from r)) (R.lendN_reps q rs)
  | .ad n :: cs, ds, _, h, .cons r rs => by
    unfold boOf at h
    split at h
    · rename_i xs hx
      cases q : boOf S.L cs with
      | none => rw [q] at h; cases h
      | some ds' =>
        rw [q] at h; cases h
        obtain ⟨hn, rfl⟩ := r
        obtain ⟨f0, f1, us, e1, rs1⟩ := R.live n _ (getL_mem hx)
        refine .cons (.lst (SqL.of ?_) (rs1.mono R.lendN_same)) (R.lendN_reps q rs)
        unfold lendN
        rw [if_pos ⟨n, _, getL_mem hx, rfl, rfl⟩]; exact e1
    · cases h
  | .xv _ :: cs, ds, _, h, .cons r rs => by simp [boOf] at h
theorem Rel.unlendN (R : Rel K mg B F α H σ S) {α0 : Nat → Addr} (R' : Rel K mg (bdOf (lendN F H α S.L) H (fun _ => False) α0 []) F' α' H' σ' S') :
    Rel K mg B (Nz.unlendN F' α S.L) α H' σ S ∧ Same F (Nz.unlendN F' α S.L) := by
  have hF' : Same (lendN F H α S.L) F' := R'.bF
  have h1 : Same F (Nz.unlendN F' α S.L) := fun b o e => by
    unfold Nz.unlendN
    by_cases h : lentN α S.L b
    · rw [R.lentN_none h] at e; cases e
    · rw [if_neg h]; exact hF' b o (R.lendN_same b o e)
  have hH : Same H H' := fun b o e => R'.frame b o e fun z => z
  refine ⟨R.grow h1 hH (fun b o e => ?_) fun b u e => ?_, h1⟩
  · unfold Nz.unlendN at e
    by_cases h : lentN α S.L b
    · rw [if_pos h] at e; cases e
    · rw [if_neg h] at e; exact R'.sub b o e
  · unfold Nz.unlendN at e
    by_cases h : lentN α S.L b
    · rw [if_pos h] at e; cases e
    · rw [if_neg h] at e
      rcases R'.nF b u e with z | z | z
      · have z : lendN F H α S.L b = some u := z
        unfold lendN at z
        rw [if_neg h] at z; exact .inl z
      · exact .inr z
      · exact z.elim
/-- a slot, and what is seen of it while all is lent -/
inductive LeC (L : List (Nat × LO)) : Option Ce → Option Ce → Prop
  | no {c : Option Ce} : LeC L c none
  | fr {d : D} : LeC L (some (.fr d)) (some (.fr d))
  | fl {n : Nat} {xs : List D} : getL n L = some (.fl xs) → LeC L (some (.ad n)) (some (.fr (.lst xs)))
  | cl {n : Nat} {cs : List Ce} {ds : List D} : getL n L = some (.cl cs) → boOf L cs = some ds → LeC L (some (.ad n)) (some (.fr (.lst ds)))
inductive LeCs (L : List (Nat × LO)) : List (Option Ce) → List (Option Ce) → Prop
  | nil : LeCs L [] []
  | cons {c c' : Option Ce} {r r' : List (Option Ce)} : LeC L c c' → LeCs L r r' → LeCs L (c :: r) (c' :: r')
theorem Rel.lendN_slots (R : Rel K mg B F α H σ S) {L' : List (Nat × LO)} {α' : Nat → Addr} : ∀ {cs cs' : List (Option Ce)} {vs : L2.St}, LeCs S.L cs cs' → SlR K mg F α S.L cs vs → SlR K mg (lendN F H α S.L) α' L' cs' vs
  | _, _, _, .nil, .nil => .nil
  | _, _, _, .cons .no q, .no r => .no (R.lendN_slots q r)
  | _, _, _, .cons .no q, .so _ r => .no (R.lendN_slots q r)
  | _, _, _, .cons .fr q, .so h r => .so (Rep.mono R.lendN_same h) (R.lendN_slots q r)
  | _, _, _, .cons (.fl hx) q, .so h r => by
    obtain ⟨hn, rfl⟩ := h
    obtain ⟨f0, f1, us, e1, rs1⟩ := R.live _ _ (getL_mem hx)
    refine .so (.lst (SqL.of ?_) (rs1.mono R.lendN_same)) (R.lendN_slots q r)
    unfold lendN
    rw [if_pos ⟨_, _, getL_mem hx, rfl, rfl⟩]; exact e1
  | _, _, _, .cons (.cl hx hb) q, .so h r => by
    obtain ⟨hn, rfl⟩ := h
    obtain ⟨f0, f1, us, e1, rs1⟩ := R.live _ _ (getL_mem hx)
    refine .so (.lst (SqL.of ?_) (R.lendN_reps hb rs1)) (R.lendN_slots q r)
    unfold lendN
    rw [if_pos ⟨_, _, getL_mem hx, rfl, rfl⟩]; exact e1
theorem Rel.lendNR (R : Rel K mg B F α H σ S) {ρ' : List (Option Ce)} (h : LeCs S.L S.ρ ρ') : Rel K mg (bdOf (lendN F H α S.L) H (fun _ => False) α []) (lendN F H α S.L) α H σ ⟨ρ', []⟩ :=
  ⟨R.lendN_sub, Same.refl _, fun b o e => .inl e, fun b o e _ => e, List.nodup_nil, fun n m h => absurd h (by simp [names]), fun n o h => absurd h (by simp), R.lendN_slots h R.slots, fun n a h hn => absurd hn (by simp [names])⟩
end
section
variable {X : Cx} {B : Bd} {S S1 S2 : Nz.S} {e : Expr} {d : D} {i : Bool} {ρ' : List (Option Ce)}
theorem et_lendN (hf : LeCs S.L S.ρ ρ') (h : ∀ B', Et X B' e ⟨ρ', []⟩ i ⟨ρ', []⟩) : Et X B e S i S := fun F α H σ Q R k => by
  refine h _ _ α H σ Q (R.lendNR hf) fun F' α' H' R' st => ?_
  obtain ⟨Ru, sF⟩ := R.unlendN R'
  exact k _ α H' Ru ⟨sF, fun _ _ => rfl⟩
end
section
variable {K : Frag} {mg : Mg} {B : Bd} {F : Hp} {α : Nat → Addr} {H : Hp} {σ : L2.St} {S : Nz.S} {ρ : List (Option Ce)} {τ : Type} {e : τ → D}
theorem Rel.adoptO (R : Rel K mg B F α H σ S) {p : Addr} {m : Nat} {u : LO} (hm : m ∉ names S.L) (h100 : 100 ≤ m) (f0 : F p = none) (f1 : B.H0 p = none ∨ B.fp p) (lat : LAt K mg B F (setα α m p) (S.L ++ [(m, u)]) H p u) (ne : ∀ k, k ∈ names S.L → α k ≠ p) :
    Rel K mg B F (setα α m p) H σ ⟨S.ρ, S.L ++ [(m, u)]⟩ := by
  have st : Stp F α S.L F (setα α m p) := stp_setα hm
  have hsub : ∀ k, k ∈ names S.L → k ∈ names (S.L ++ [(m, u)]) := fun k hk => by rw [names_append]; exact List.mem_append_left _ hk
  have hself : setα α m p m = p := by unfold setα; rw [if_pos rfl]
  refine ⟨R.sub, R.bF, R.nF, R.frame, ?_, ?_, ?_, R.slots.step st hsub, fun k a e' hk => ?_⟩
  · rw [names_append]
    exact List.nodup_append.mpr ⟨R.nd, by simp, fun a ha b hb => by
      have : b = m := by simpa using hb
      subst this
      exact fun q => hm (q ▸ ha)⟩
  · intro a b ha hb e'
    rw [names_append] at ha hb
    rcases List.mem_append.mp ha with ha' | ha' <;> rcases List.mem_append.mp hb with hb' | hb'
    · rw [st.nm a ha', st.nm b hb'] at e'; exact R.inj a b ha' hb' e'
    · have h2 : b = m := by simpa using hb'
      rw [h2, hself, st.nm a ha'] at e'
      exact absurd e' (ne a ha')
    · have h2 : a = m := by simpa using ha'
      rw [h2, hself, st.nm b hb'] at e'
      exact absurd e'.symm (ne b hb')
    · have h1 : a = m := by simpa using ha'
      have h2 : b = m := by simpa using hb'
      rw [h1, h2]
  · intro k o' hk
    rcases List.mem_append.mp hk with hk | hk
    · obtain ⟨h1, h2, h3⟩ := R.live k o' hk
      have e' : setα α m p k = α k := st.nm k (mem_names hk)
      rw [e']
      exact ⟨h1, h2, h3.step st hsub (fun _ _ z => z) fun b w' z => .inl z⟩
    · have e' : (k, o') = (m, u) := by simpa using hk
      cases e'
      rw [hself]
      exact ⟨f0, f1, lat⟩
  · have hk : k ∈ names (S.L ++ [(m, u)]) := hk
    rw [names_append] at hk
    rcases List.mem_append.mp hk with hk | hk
    · rw [st.nm k hk]; exact R.fix k a e' hk
    · have : k = m := by simpa using hk
      rw [this, B.hpa m h100] at e'; cases e'
theorem Rel.adoptIn {α' : Nat → Addr} : ∀ {xss : List (List τ)} {b b' : Nat} {α : Nat → Addr} {L : List (Nat × LO)}, Rel K mg B F α H σ ⟨ρ, L⟩ → 100 ≤ b → (∀ i, i < xss.length → b + i ∉ names L) →
    (∀ i x, xss[i]? = some x → F (α' (b' + i)) = none ∧ (B.H0 (α' (b' + i)) = none ∨ B.fp (α' (b' + i))) ∧ ∃ vs, H (α' (b' + i)) = some (.lst vs) ∧ Reps K mg F (x.map e) vs) →
    (∀ i j, i < xss.length → j < xss.length → α' (b' + i) = α' (b' + j) → i = j) → (∀ k, k ∈ names L → ∀ i, i < xss.length → α k ≠ α' (b' + i)) →
    ∃ α2, Rel K mg B F α2 H σ ⟨ρ, L ++ inL e b xss⟩ ∧ (∀ k, k ∈ names L → α2 k = α k) ∧ ∀ i, i < xss.length → α2 (b + i) = α' (b' + i)
  | [], b, b', α, L, R, _, _, _, _, _ => ⟨α, by rw [show L ++ inL e b [] = L from List.append_nil _]; exact R, fun _ _ => rfl, fun i hi => absurd hi (by simp)⟩
  | x :: r, b, b', α, L, R, h100, hb, hl, hd, hne => by
    obtain ⟨g0, g1, vs, e1, rs⟩ := hl 0 x rfl
    have hb0 : b ∉ names L := hb 0 (by simp)
    have R1 := R.adoptO (m := b) (u := .fl (x.map e)) hb0 h100 g0 g1 ⟨vs, e1, rs⟩ (fun k hk => hne k hk 0 (by simp))
    have self : setα α b (α' (b' + 0)) b = α' (b' + 0) := by unfold setα; rw [if_pos rfl]
    have old : ∀ k, k ∈ names L → setα α b (α' (b' + 0)) k = α k := (stp_setα (F := F) hb0).nm
    have sh : ∀ i, b' + 1 + i = b' + (i + 1) := fun i => by omega
    obtain ⟨α2, R2, k2, n2⟩ := Rel.adoptIn (xss := r) (b := b + 1) (b' := b' + 1) (α' := α') R1 (by omega)
      (fun i hi => by
        show b + 1 + i ∉ names (L ++ [(b, LO.fl (x.map e))])
        rw [names_append, List.mem_append, show b + 1 + i = b + (i + 1) by omega]
        rintro (q | q)
        · exact hb (i + 1) (by simpa using hi) q
        · have : b + (i + 1) = b := by simpa using q
          omega)
      (fun i y hy => by rw [sh]; exact hl (i + 1) y (by simpa using hy))
      (fun i j hi hj q => by
        rw [sh, sh] at q
        have := hd (i + 1) (j + 1) (by simpa using hi) (by simpa using hj) q
        omega)
      (fun k hk i hi => by
        have hk : k ∈ names (L ++ [(b, LO.fl (x.map e))]) := hk
        rw [names_append] at hk
        rcases List.mem_append.mp hk with hk | hk
        · rw [old k hk, sh]; exact hne k hk (i + 1) (by simpa using hi)
        · have : k = b := by simpa using hk
          subst this
          rw [self, sh]
          intro q
          have := hd 0 (i + 1) (by simp) (by simpa using hi) q
          omega)
    refine ⟨α2, ?_, fun k hk => ?_, fun i hi => ?_⟩
    · have : L ++ [(b, LO.fl (x.map e))] ++ inL e (b + 1) r = L ++ inL e b (x :: r) := by rw [List.append_assoc]; rfl
      rw [← this]; exact R2
    · rw [k2 k (by show k ∈ names (L ++ [(b, LO.fl (x.map e))]); rw [names_append]; exact List.mem_append_left _ hk), old k hk]
    · cases i with
      | zero => rw [Nat.add_zero, k2 b (by show b ∈ names (L ++ [(b, LO.fl (x.map e))]); rw [names_append]; exact List.mem_append_right _ (by simp)), self]
      | succ i => rw [show b + (i + 1) = b + 1 + i by omega, n2 i (by simpa using hi), sh]
end
end Nz
namespace Nz
open PySem PySem.Spec PyProof.Rows L2
section
variable {τ : Type} {e : τ → D} {m q : Nat}
theorem rnL_app (L M : List (Nat × LO)) : rnL m q (L ++ M) = rnL m q L ++ rnL m q M := List.map_append
theorem rnL_P : ∀ {P : List (Nat × LO)}, flOnly P = true → m ∉ names P → rnL m q P = P
  | [], _, _ => rfl
  | (k, .fl ds) :: r, h, hm => by
    show (rnN m q k, LO.fl ds) :: rnL m q r = _
    rw [rnL_P (P := r) h fun z => hm (List.mem_cons_of_mem _ z), show rnN m q k = k from if_neg fun z => hm (by rw [← z]; exact List.mem_cons_self)]
  | (_, .cl _) :: _, h, _ => by cases h
  | (_, .ins _ _) :: _, h, _ => by cases h
  | (_, .dT _) :: _, h, _ => by cases h
  | (_, .dK _) :: _, h, _ => by cases h
theorem rnL_inL : ∀ {xss : List (List τ)} {b : Nat}, m < b → rnL m q (inL e b xss) = inL e b xss
  | [], _, _ => rfl
  | x :: r, b, h => by
    show (rnN m q b, LO.fl (x.map e)) :: rnL m q (inL e (b + 1) r) = _
    rw [rnL_inL (by omega), show rnN m q b = b from if_neg (by omega)]; rfl
theorem nuC_ce : ∀ {k b : Nat}, m < b → (ceL b k).map (nuC m q) = ceL b k
  | 0, _, _ => rfl
  | k + 1, b, h => by
    show nuC m q (.ad b) :: (ceL (b + 1) k).map (nuC m q) = _
    rw [nuC_ce (by omega), show nuC m q (.ad b) = .ad b from if_neg (by omega)]; rfl
theorem ceL_snoc (b k : Nat) : ceL b (k + 1) = ceL b k ++ [.ad (b + k)] := ceL_add k 1 b
theorem ceL_length : ∀ {k b : Nat}, (ceL b k).length = k
  | 0, _ => rfl
  | k + 1, b => congrArg (· + 1) (ceL_length (k := k) (b := b + 1))
end
section
variable {K : Frag} {mg : Mg} {B : Bd} {F : Hp} {α : Nat → Addr} {H : Hp} {σ : L2.St} {L P : List (Nat × LO)} {ρ : List (Option Ce)} {τ : Type} {e : τ → D} {xss : List (List τ)} {x : List τ} {n b m : Nat}
/-- the flat list m becomes the next inner one -/
theorem Rel.nestIn (R : Rel K mg B F α H σ ⟨ρ, L⟩) (hp : L.Perm (P ++ (m, .fl (x.map e)) :: (n, .cl (ceL b xss.length ++ [.ad m])) :: inL e b xss)) (hP : flOnly P = true) (hPb : belowB b P = true) (hm : m ∉ names P) (hmn : m ≠ n) (hmb : m < b) (hnb : n < b) (h100 : 100 ≤ b)
    (hρ : ρ.map (Option.map (nuC m (b + xss.length))) = ρ) : ∃ α', Rel K mg B F α' H σ ⟨ρ, P ++ nest n b e (xss ++ [x])⟩ := by
  have R1 := R.perm hp
  have hq : b + xss.length ∉ names (P ++ (m, LO.fl (x.map e)) :: (n, .cl (ceL b xss.length ++ [.ad m])) :: inL e b xss) := by
    rw [names_app, List.mem_append]
    show ¬ (_ ∨ b + xss.length ∈ m :: n :: names (inL e b xss))
    rintro (z | z)
    · have := belowB_ok hPb z; omega
    · rcases List.mem_cons.mp z with z | z
      · omega
      · rcases List.mem_cons.mp z with z | z
        · omega
        · have := names_inL.mp z; omega
  have R2 := R1.rename (m := m) (n := b + xss.length) (by rw [names_app]; exact List.mem_append_right _ List.mem_cons_self) hq (by omega)
  rw [hρ, rnL_app, rnL_P hP hm] at R2
  have e2 : rnL m (b + xss.length) ((m, LO.fl (x.map e)) :: (n, .cl (ceL b xss.length ++ [.ad m])) :: inL e b xss) = (b + xss.length, LO.fl (x.map e)) :: (n, .cl (ceL b (xss ++ [x]).length)) :: inL e b xss := by
    show (rnN m (b + xss.length) m, LO.fl (x.map e)) :: (rnN m (b + xss.length) n, LO.cl ((ceL b xss.length ++ [Ce.ad m]).map (nuC m (b + xss.length)))) :: rnL m (b + xss.length) (inL e b xss) = _
    rw [rnL_inL hmb, List.map_append, nuC_ce hmb, show rnN m (b + xss.length) m = b + xss.length from if_pos rfl, show rnN m (b + xss.length) n = n from if_neg (fun z => hmn z.symm), List.length_append,
      show xss.length + [x].length = xss.length + 1 from rfl, ceL_snoc]
    show _ :: (n, LO.cl (ceL b xss.length ++ [nuC m (b + xss.length) (Ce.ad m)])) :: _ = _
    rw [show nuC m (b + xss.length) (Ce.ad m) = Ce.ad (b + xss.length) from if_pos rfl]
  rw [e2] at R2
  refine ⟨_, R2.perm (List.Perm.append_left P ?_)⟩
  show List.Perm _ ((n, LO.cl (ceL b (xss ++ [x]).length)) :: inL e b (xss ++ [x]))
  rw [inL_append]
  refine (List.Perm.swap _ _ _).trans (List.Perm.cons _ ?_)
  exact (List.perm_append_singleton (b + xss.length, LO.fl (x.map e)) (inL e b xss)).symm
/-- an empty list is one of cells, too -/
theorem Rel.emptyC (R : Rel K mg B F α H σ ⟨ρ, P ++ [(n, .fl [])]⟩) (b : Nat) (e : τ → D) : Rel K mg B F α H σ ⟨ρ, P ++ nest n b e []⟩ := by
  have hmem : (n, LO.fl []) ∈ P ++ [(n, LO.fl [])] := List.mem_append_right _ List.mem_cons_self
  obtain ⟨f0, f1, vs, e1, rs⟩ := R.live n _ hmem
  cases rs
  have hP : n ∉ names P := fun z => by
    have nd : (names (P ++ [(n, LO.fl [])])).Nodup := R.nd
    rw [names_app, List.nodup_append] at nd
    exact nd.2.2 n z n (by simp [names]) rfl
  have Rp := R.put (n := n) (u := .cl []) (o' := .lst []) hmem ⟨[], upd_same, .nil⟩
  have eH : upd H (α n) (.lst []) = H := by
    funext a
    unfold upd
    split
    · rename_i z; subst z; exact e1.symm
    · rfl
  rw [eH] at Rp
  have es : setL n (.cl []) (P ++ [(n, .fl [])]) = P ++ nest n b e [] := by
    rw [setL_appR hP]
    show P ++ (if n = n then (n, LO.cl []) :: [] else _) = _
    rw [if_pos rfl]; rfl
  rw [show (⟨ρ, P ++ [(n, .fl [])]⟩ : Nz.S).L = P ++ [(n, .fl [])] from rfl, es] at Rp
  exact Rp
end
section
variable {X : Cx} {B : Bd} {S S1 S2 : Nz.S} {K : Out → Prop} {sts : List Stmt} {L L' P : List (Nat × LO)} {ρ : List (Option Ce)} {τ : Type} {enc : τ → D} {xss : List (List τ)} {x : List τ} {n b m : Nat}
theorem exs_nestIn (hp : L.Perm (P ++ (m, .fl (x.map enc)) :: (n, .cl (ceL b xss.length ++ [.ad m])) :: inL enc b xss)) (hP : flOnly P = true) (hPb : belowB b P = true) (hm : m ∉ names P) (hmn : m ≠ n) (hmb : m < b) (hnb : n < b) (h100 : 100 ≤ b)
    (hρ : ρ.map (Option.map (nuC m (b + xss.length))) = ρ) (h : Exs X B sts ⟨ρ, P ++ nest n b enc (xss ++ [x])⟩ K) : Exs X B sts ⟨ρ, L⟩ K := fun F α H σ D R o => by
  obtain ⟨α', R'⟩ := R.nestIn hp hP hPb hm hmn hmb hnb h100 hρ
  exact h F α' H σ D R' o
theorem exs_emptyC (b : Nat) (enc : τ → D) (h : Exs X B sts ⟨ρ, P ++ nest n b enc []⟩ K) : Exs X B sts ⟨ρ, P ++ [(n, .fl [])]⟩ K := fun F α H σ D R o => h F α H σ D (R.emptyC b enc) o
variable {a e o i : Expr} {es : List Expr} {pos apos p q : Pos} {d : D} {ds : List D} {y : Str} {fd : FuncData} {ps : List Str} {k : Nat} {sp : SpN} {f : Addr} {c : Ce} {cs cs0 : List Ce}
/-- xs.append(e), xs a list of cells -/
theorem ev_appendC {n : Nat} (ho : Ev X B o S (.ad n) S) (ha : Ev X B e S c S1) (hn : getL n S1.L = some (.cl cs)) (hn0 : getL n S.L = some (.cl cs0)) (hz : cs.length < sizeLine) (h1 : Sub S.L S1.L := by exact Sub.refl)
    (hbase : attributeBase o "append" X.env (eval o X.env) = eval o X.env := by rfl)
    (hfew : ((backTo pos (starEach (e :: []) X.env)).all (fun x => !x.1) && (backToKw pos (keywordEach [] X.env)).all (fun x => x.1.isSome)
      && decide ((e :: ([] : List Expr)).length + ([] : List Keyword).length + (if ([] : List Keyword).isEmpty then 0 else 1) < 30)) = true := by rfl)
    (hline : (apos.endLine == pos.line) = true := by rfl) (hs : starEach (e :: []) X.env = (false, eval e X.env) :: starEach [] X.env := by rfl) (hplain : (backTo pos (starEach [] X.env)).any (·.1) = false := by rfl) :
    Ev X B (.Call (.Attribute o "append" apos) [e] [] pos) S (.fr .non) ⟨S1.ρ, setL n (.cl (cs ++ [c])) S1.L⟩ :=
  fun F α H σ Q R k => wE.of (pe_bm PySem.F.plainAttrs_list PySem.F.slot_list_append PySem.F.type_list_append mt_append pe_w (pa_cons pe_w pa_nil hs) hbase hfew hline hs hplain) (ho F α H σ _ R fun F1 α1 v1 H1 R1 st1 r1 => by
    obtain ⟨hm, rfl⟩ := r1
    refine ⟨?_, ha F1 α1 H1 σ _ R1 fun F2 α2 v2 H2 R2 st2 r2 => ?_⟩
    · obtain ⟨_, _, vs, e1, rs⟩ := R1.live n _ (getL_mem hn0)
      exact .inl ⟨rfl, _, SqL.of e1⟩
    · have hmm := getL_mem hn
      obtain ⟨f0, f1, vs, e1, rs⟩ := R2.live n _ hmm
      have en : α2 n = α1 n := st2.nm n hm
      have hsub : ∀ k, k ∈ names S1.L → k ∈ names (setL n (.cl (cs ++ [c])) S1.L) := fun k hk => by rw [names_setL]; exact hk
      refine ⟨α1 n, vs, v2, rfl, rfl, by rw [← en]; exact e1, by rw [← rs.length]; exact hz, ?_⟩
      have Rp := R2.put (n := n) (u := .cl (cs ++ [c])) (o' := .lst (vs ++ [v2])) hmm ⟨vs ++ [v2], upd_same, CRels.append (rs.step Stp.refl hsub) (.cons (r2.step Stp.refl hsub) .nil)⟩
      rw [en] at Rp
      exact k F2 α2 .non _ Rp ((st1.trans st2 Sub.refl).trans Stp.refl h1) .non)
/-- f(e, ..) that hands back a new list of new lists -/
theorem ev_callNest2 (n b : Nat) (F : FnOk X.prog X.w X.K X.mg X.base CX0 k f fd ps (SpOf X.K X.mg sp)) (hr : Room k X.A) (hm : X.mg y = some (.ref f)) (hk : PySem.W.keepIn X.K (.ref f) = true) (hb : Binds X.K fd ps [])
    (ha : Ea X B (e :: es) S (ds.map Ce.fr) S1) (hS : n ∉ names S1.L) (hSb : ∀ i, i < xss.length → b + i ∉ names S1.L) (hnb : n < b) (h100 : 100 ≤ n) (hs : ∀ Kc : Ce → List (Nat × LO) → Prop, (∀ P n' b', Kc (.ad n') (P ++ nest n' b' enc xss)) → sp (ds.map Ce.fr) [] Kc) (hg : Gl X y) (h1 : Sub S.L S1.L := by exact Sub.refl) (hdb : (y == ("__debug__" : Str)) = false := by decide)
    (he : starEach (e :: es) X.env = (false, eval e X.env) :: starEach es X.env := by rfl) (hpl : (backTo pos (starEach es X.env)).any (·.1) = false := by rfl) : Ev X B (.Call (.Name y p) (e :: es) [] pos) S (.ad n) ⟨S1.ρ, S1.L ++ nest n b enc xss⟩ :=
  fun F0 α H σ Q R k => wE.of (pe_call F hr hg hm hk hb .nil pass0 pa_w hdb he hpl) (ha F0 α H σ _ R fun F1 α1 vs H1 R1 st1 r1 => by
    rw [List.append_nil]
    refine ⟨F1, α1, [], _, fun _ => False, R1.call0 (CRels.fr r1), hs _ fun P n' b' F' α' v H' ρ' σ' R' r' => ?_⟩
    obtain ⟨hnm, rfl⟩ := r'
    have Rb := R1.back0 R'
    have hmO : (n', LO.cl (ceL b' xss.length)) ∈ P ++ nest n' b' enc xss := List.mem_append_right _ List.mem_cons_self
    have hmI : ∀ i x, xss[i]? = some x → (b' + i, LO.fl (x.map enc)) ∈ P ++ nest n' b' enc xss := fun i x h => List.mem_append_right _ (List.mem_cons_of_mem _ (mem_inL.mpr ⟨i, x, h, rfl, rfl⟩))
    have ne : ∀ j o, (j, o) ∈ P ++ nest n' b' enc xss → ∀ k, k ∈ names S1.L → α1 k ≠ α' j := fun j o hj k hk q => by
      have g1 : H1 (α' j) = none := ((R'.live j o hj).2.1).elim id fun z => z.elim
      obtain ⟨⟨k', o'⟩, h1, h2⟩ := List.mem_map.mp hk
      cases h2
      obtain ⟨w', hw⟩ := (R1.live _ _ h1).2.2.is
      rw [q, g1] at hw; cases hw
    have hB : ∀ j o, (j, o) ∈ P ++ nest n' b' enc xss → B.H0 (α' j) = none ∨ B.fp (α' j) := fun j o hj => by
      have g1 : H1 (α' j) = none := ((R'.live j o hj).2.1).elim id fun z => z.elim
      by_cases z : B.fp (α' j)
      · exact .inr z
      · refine .inl ?_
        cases q : B.H0 (α' j) with
        | none => rfl
        | some w' => rw [R1.frame _ w' q z] at g1; cases g1
    have hI : ∀ i, i < xss.length → ∃ x, xss[i]? = some x := fun i hi => ⟨_, List.getElem?_eq_getElem hi⟩
    have hnS : n ∉ names S1.L := hS
    obtain ⟨α2, R2, k2, n2⟩ := Rb.adoptIn (e := enc) (xss := xss) (b := b) (b' := b') (α' := α') (L := S1.L) (ρ := S1.ρ) (by omega)
      hSb
      (fun i x hx => by
        obtain ⟨g0, _, us, hu, ru⟩ := R'.live _ _ (hmI i x hx)
        exact ⟨g0, hB _ _ (hmI i x hx), us, hu, ru⟩)
      (fun i j hi hj q => by
        obtain ⟨x, hx⟩ := hI i hi
        obtain ⟨z, hz⟩ := hI j hj
        have := R'.inj _ _ (mem_names (hmI i x hx)) (mem_names (hmI j z hz)) q
        omega)
      (fun k hk i hi => by
        obtain ⟨x, hx⟩ := hI i hi
        exact ne _ _ (hmI i x hx) k hk)
    obtain ⟨g0, _, us, hu, ru⟩ := R'.live _ _ hmO
    obtain ⟨hul, hug⟩ := crels_ceL ru
    have hnI : n ∉ names (S1.L ++ inL enc b xss) := by
      rw [names_app, List.mem_append]
      rintro (z | z)
      · exact hnS z
      · have := names_inL.mp z; omega
    have hne2 : ∀ k, k ∈ names (S1.L ++ inL enc b xss) → α2 k ≠ α' n' := fun k hk q => by
      rw [names_app] at hk
      rcases List.mem_append.mp hk with hk | hk
      · rw [k2 k hk] at q; exact ne _ _ hmO k hk q
      · obtain ⟨z1, z2⟩ := names_inL.mp hk
        have e1 := n2 (k - b) (by omega)
        rw [show b + (k - b) = k by omega, q] at e1
        obtain ⟨x, hx⟩ := hI (k - b) (by omega)
        have e3 := R'.inj _ _ (mem_names hmO) (mem_names (hmI _ x hx)) e1
        have nd : (names (P ++ nest n' b' enc xss)).Nodup := R'.nd
        rw [names_app, List.nodup_append] at nd
        have nd2 : (n' :: names (inL enc b' xss)).Nodup := nd.2.1
        exact (List.nodup_cons.mp nd2).1 (names_inL.mpr (by omega))
    have R3 := R2.adoptO (m := n) (u := .cl (ceL b xss.length)) (p := α' n') hnI h100 g0 (hB _ _ hmO) ⟨us, hu, by
      have hc := crels_ceL_of (K := X.K) (mg := X.mg) (F := F') (α := setα α2 n (α' n')) (L := S1.L ++ inL enc b xss ++ [(n, .cl (ceL b xss.length))]) (k := xss.length) (b := b) fun i hi => by
        rw [names_app, names_app]
        exact List.mem_append_left _ (List.mem_append_right _ (names_inL.mpr (by omega)))
      have eus : us = (List.range xss.length).map fun i => V.ref (setα α2 n (α' n') (b + i)) := by
        apply List.ext_getElem?
        intro i
        by_cases hi : i < xss.length
        · rw [(hug i hi).1, List.getElem?_map, List.getElem?_range hi]
          show _ = some (V.ref (if b + i = n then α' n' else α2 (b + i)))
          rw [if_neg (by omega), n2 i hi]
        · rw [List.getElem?_eq_none (by omega), List.getElem?_eq_none (by simpa using hi)]
      rw [eus]; exact hc⟩ hne2
    have R4 := R3.perm (L' := S1.L ++ nest n b enc xss) (by
      rw [List.append_assoc]
      exact List.Perm.append_left _ (List.perm_append_singleton (n, LO.cl (ceL b xss.length)) (inL enc b xss)))
    have hst : Stp F1 α1 S1.L F' (setα α2 n (α' n')) := ⟨R'.bF, fun k hk => by
      show (if k = n then α' n' else α2 k) = _
      rw [if_neg (fun z => hnS (by rw [← z]; exact hk)), k2 k hk]⟩
    refine k F' (setα α2 n (α' n')) _ H' R4 (st1.trans hst h1) ⟨?_, ?_⟩
    · rw [names_app]; exact List.mem_append_right _ List.mem_cons_self
    · show V.ref (α' n') = V.ref (if n = n then α' n' else α2 n)
      rw [if_pos rfl])
end
end Nz
namespace Nz
open PySem PySem.Spec PyProof.Rows L2
section
variable {τ : Type} {e : τ → D} {P : List (Nat × LO)} {xss : List (List τ)} {n b : Nat}
theorem boOf_nest (hP : belowB b P = true) (hn : n < b) : boOf (P ++ nest n b e xss) (ceL b xss.length) = some (xss.map (eL e)) :=
  boOf_ce fun i x h => getL_nest (fun z => by have := belowB_ok hP z; omega) hn h
theorem perm_mv {β : Type} (P N : List β) (x : β) : (P ++ N ++ [x]).Perm ((P ++ [x]) ++ N) := by
  rw [List.append_assoc, List.append_assoc]
  exact List.Perm.append_left P List.perm_append_comm
theorem perm_mv2 {β : Type} (P N : List β) (x : β) : (P ++ N ++ [x]).Perm (P ++ x :: N) := by
  have := perm_mv P N x
  rwa [List.append_assoc P [x] N] at this
theorem fresh_nest {m : Nat} (hP : m ∉ names P) (h1 : m ≠ n) (h2 : m < b) : m ∉ names (P ++ nest n b e xss) := fun z => by
  rw [names_app, List.mem_append, names_nest] at z
  rcases z with z | z | z
  · exact hP z
  · exact h1 z
  · omega
end
end Nz
namespace Nz
open PySem PySem.Spec PyProof.Rows L2
def xvC (n : Nat) (a : Addr) : Option Ce → Option Ce
  | some (.ad k) => if k = n then some (.xv (.ref a)) else none
  | some (.fr d) => some (.fr d)
  | _ => none
def okC (n : Nat) : List (Option Ce) → Bool
  | [] => true
  | some (.ad k) :: r => (k == n) && okC n r
  | some (.xv _) :: _ => false
  | _ :: r => okC n r
/-- how the body ends -/
def nestK (ρ : List (Option Ce)) (n : Nat) (a : Addr) (ds : List D) (q : Prop) (K : Out → Prop) : Out → Prop
  | .nx S => Le S ⟨ρ.map (xvC n a), [(99, .fl ds)]⟩ ∧ q
  | .ct S => Le S ⟨ρ.map (xvC n a), [(99, .fl ds)]⟩ ∧ q
  | .bk _ => False
  | .ret c _ => ∃ d, c = .fr d ∧ ∀ S, K (.ret (.fr d) S)
section
variable {K : Frag} {mg : Mg} {F : Hp} {α α' : Nat → Addr} {L L' : List (Nat × LO)} {n : Nat} {a : Addr}
theorem slr_in (ha : a = α n) : ∀ {ρ : List (Option Ce)} {σ : L2.St}, SlR K mg F α L ρ σ → SlR K mg F α' L' (ρ.map (xvC n a)) σ
  | _, _, .nil => .nil
  | _, _, .no r => .no (slr_in ha r)
  | _, _, .so (c := c) (v := v) h r => by
    cases c with
    | fr d => exact .so (c := .fr d) h (slr_in ha r)
    | xv u => exact .no (slr_in ha r)
    | ad k =>
      obtain ⟨h1, h2⟩ := h
      show SlR K mg F α' L' ((if k = n then some (Ce.xv (.ref a)) else none) :: _) _
      by_cases q : k = n
      · rw [if_pos q]; exact .so (c := .xv (.ref a)) (by show _ = _; rw [h2, q, ha]) (slr_in ha r)
      · rw [if_neg q]; exact .no (slr_in ha r)
theorem slr_out (ha : α' n = a) (hn : n ∈ names L') : ∀ {ρ : List (Option Ce)} {σ : L2.St}, okC n ρ = true → SlR K mg F α L (ρ.map (xvC n a)) σ → SlR K mg F α' L' ρ σ
  | [], _, _, .nil => .nil
  | none :: r, _, h, .no q => .no (slr_out ha hn h q)
  | some (.fr d) :: r, _, h, .so q p => .so (c := .fr d) q (slr_out ha hn h p)
  | some (.xv u) :: r, _, h, _ => by cases h
  | some (.ad k) :: r, σ, h, q0 => by
    have h : ((k == n) && okC n r) = true := h
    rw [Bool.and_eq_true] at h
    have hk : k = n := by simpa using h.1
    have q1 : SlR K mg F α L ((if k = n then some (Ce.xv (.ref a)) else none) :: r.map (xvC n a)) σ := q0
    rw [if_pos hk] at q1
    cases q1 with
    | so q2 p => exact .so (c := .ad k) ⟨by rw [hk]; exact hn, by rw [hk, ha]; exact q2⟩ (slr_out ha hn h.2 p)
theorem slr_none : ∀ {ρ : List (Option Ce)} {σ : L2.St}, SlR K mg F α L ρ σ → SlR K mg F α' L' (List.replicate ρ.length none) σ
  | _, _, .nil => .nil
  | _, _, .no r => .no (slr_none r)
  | _, _, .so _ r => .no (slr_none r)
theorem slr_xv (m : Nat) : ∀ {ρ : List (Option Ce)} {σ : L2.St}, SlR K mg F α L (ρ.map (xvC n a)) σ → SlR K mg F α' L' (ρ.map (xvC n a)) σ
  | [], _, .nil => .nil
  | none :: r, _, .no q => .no (slr_xv m q)
  | some (.fr d) :: r, _, .so q p => .so (c := .fr d) q (slr_xv m p)
  | some (.xv u) :: r, _, .no q => .no (slr_xv m q)
  | some (.ad k) :: r, σ, q0 => by
    have q1 : SlR K mg F α L ((if k = n then some (Ce.xv (.ref a)) else none) :: r.map (xvC n a)) σ := q0
    show SlR K mg F α' L' ((if k = n then some (Ce.xv (.ref a)) else none) :: r.map (xvC n a)) σ
    by_cases z : k = n
    · rw [if_pos z] at q1 ⊢
      cases q1 with
      | so q2 p => exact .so (c := .xv (.ref a)) q2 (slr_xv m p)
    · rw [if_neg z] at q1 ⊢
      cases q1 with
      | no p => exact .no (slr_xv m p)
end
section
variable {X : Cx} {B : Bd} {ρ : List (Option Ce)} {τ : Type} {enc : τ → D} {xss : List (List τ)} {n b : Nat} {tg e : Expr} {body : List Stmt} {pos : Pos} {K : Out → Prop}
theorem ex_forNest (g : List τ → List τ) (Q : Nat → Prop) (q0 : Q 0) (hp : PassesOwn (model X.prog X.w) X.A X.env X.xe) (hc : X.calm = true) (he : Ev X B e ⟨ρ, [] ++ nest n b enc xss⟩ (.ad n) ⟨ρ, [] ++ nest n b enc xss⟩) (hnb : n < b) (h100 : 100 ≤ n) (hρ : okC n ρ = true)
    (hs : ∀ (B' : Bd) (a : Addr) (i : Nat) (x : List τ), xss[i]? = some x → Q i → ∃ S2, Eg X B' tg (.ad 99) ⟨ρ.map (xvC n a), [(99, .fl (x.map enc))]⟩ S2 ∧ Exs X B' body S2 (nestK ρ n a ((g x).map enc) (Q (i + 1)) K))
    (hd : Q xss.length → K (.nx ⟨ρ, [] ++ nest n b enc (xss.map g)⟩)) (hf : ∀ x, foldedSetIterable e X.env x = pure x := by intro _; rfl) : Ex X B (.For tg e body [] pos) ⟨ρ, [] ++ nest n b enc xss⟩ K :=
  fun F α H σ D R o => wS.of (ps_for hp hc (pi_list pe_w) pg_w pss_w hf) (he F α H σ _ R fun F1 α1 v1 H1 R1 st1 r1 => by
    obtain ⟨hnm, rfl⟩ := r1
    have hmO : (n, LO.cl (ceL b xss.length)) ∈ [] ++ nest n b enc xss := List.mem_cons_self
    have hmI : ∀ i x, xss[i]? = some x → (b + i, LO.fl (x.map enc)) ∈ [] ++ nest n b enc xss := fun i x h => List.mem_cons_of_mem _ (mem_inL.mpr ⟨i, x, h, rfl, rfl⟩)
    have hI : ∀ i, i < xss.length → ∃ x, xss[i]? = some x := fun i hi => ⟨_, List.getElem?_eq_getElem hi⟩
    obtain ⟨f0, f1, vs, e1, rs⟩ := R1.live n _ hmO
    obtain ⟨hvl, hvg⟩ := crels_ceL rs
    have hB : ∀ i, i < xss.length → B.H0 (α1 (b + i)) = none ∨ B.fp (α1 (b + i)) := fun i hi => by
      obtain ⟨x, hx⟩ := hI i hi; exact (R1.live _ _ (hmI i x hx)).2.1
    have hinj : ∀ i j, i < xss.length → j < xss.length → α1 (b + i) = α1 (b + j) → i = j := fun i j hi hj q => by
      obtain ⟨x, hx⟩ := hI i hi
      obtain ⟨z, hz⟩ := hI j hj
      have := R1.inj _ _ (mem_names (hmI i x hx)) (mem_names (hmI j z hz)) q
      omega
    have hne : ∀ i, i < xss.length → α1 (b + i) ≠ α1 n := fun i hi q => by
      obtain ⟨x, hx⟩ := hI i hi
      have := R1.inj _ _ (mem_names (hmI i x hx)) (mem_names hmO) q
      omega
    have o1 := o.mono st1.fro
    -- what holds before the i-th turn
    let Inn : Nat → Hp → Hp → Prop := fun i F' H' => Q i ∧ F' (α1 n) = none ∧ H' (α1 n) = some (.lst vs) ∧ ∀ k x, xss[k]? = some x → F' (α1 (b + k)) = none ∧ ∃ ws, H' (α1 (b + k)) = some (.lst ws) ∧ Reps X.K X.mg F' ((if k < i then g x else x).map enc) ws
    refine ⟨α1 n, rfl, ⟨vs, SqL.of e1⟩, fun i m σ' H' => m = xss.length - i ∧ i ≤ xss.length ∧ ∃ F' α', RelX X B F' α' H' σ' ⟨ρ.map (xvC n (α1 n)), []⟩ ∧ Same F1 F' ∧ Inn i F' H', ⟨xss.length, by simp, Nat.zero_le _, F1, α1, ?_, Same.refl _, q0, f0, e1, fun k x hk => ?_⟩, ?_⟩
    · exact ⟨R1.sub, R1.bF, R1.nF, R1.frame, List.nodup_nil, fun n m h => absurd h (by simp [names]), fun n o h => absurd h (by simp), slr_in rfl R1.slots, fun n a h hn => absurd hn (by simp [names])⟩
    · obtain ⟨g0, _, ws, hw, rw'⟩ := R1.live _ _ (hmI k x hk)
      rw [if_neg (Nat.not_lt_zero k)]
      exact ⟨g0, ws, hw, rw'⟩
    rintro i m σ' H' ⟨rfl, hi, F', α', R', sm, iQ, iO, iH, iI⟩
    -- behind a turn: what was entered with B' is there with B, too
    have back : ∀ {ai : Addr} {α0 : Nat → Addr} {F4 α4 H4 σ4 S4} {ρ4 : List (Option Ce)}, (B.H0 ai = none ∨ B.fp ai) → Rel X.K X.mg (bdOf F' H' (fun c => c = ai) α0 []) F4 α4 H4 σ4 S4 → SlR X.K X.mg F4 α4 [] ρ4 σ4 → RelX X B F4 α4 H4 σ4 ⟨ρ4, []⟩ := fun {ai α0 F4 α4 H4 σ4 S4 ρ4} hb R4 q =>
      ⟨R4.sub, R'.bF.trans R4.bF, fun c o e => by
        rcases R4.nF c o e with z | z | z
        · exact R'.nF c o z
        · by_cases w : B.fp c
          · exact .inr (.inr w)
          · refine .inr (.inl ?_)
            have z : H' c = none := z
            cases q : B.H0 c with
            | none => rfl
            | some u => rw [R'.frame c u q w] at z; cases z
        · have z : c = ai := z
          rw [z]; exact .inr hb, fun c o e nf => R4.frame c o (R'.frame c o e nf) fun z => by
        have z : c = ai := z
        rw [z] at e nf
        rcases hb with w | w
        · rw [w] at e; cases e
        · exact nf w, List.nodup_nil, fun n m h => absurd h (by simp [names]), fun n o h => absurd h (by simp), q, fun n a h hn => absurd hn (by simp [names])⟩
    by_cases hlt : i < xss.length
    · obtain ⟨xi, hxi⟩ := hI i hlt
      obtain ⟨g0, ws, hw, rw'⟩ := iI i xi hxi
      rw [if_neg (Nat.lt_irrefl i)] at rw'
      refine .inr ⟨⟨vs, _, SqL.of iH, (hvg i hlt).1⟩, fun σ2 H2 => ∃ F2 α2, RelX X B F2 α2 H2 σ2 ⟨ρ.map (xvC n (α1 n)), []⟩ ∧ Same F1 F2 ∧ Inn (i + 1) F2 H2, fun σ2 H2 ⟨F2, α2, z⟩ => ⟨xss.length - (i + 1), by omega, rfl, hlt, F2, α2, z⟩, fun x H2 y => ?_⟩
      obtain ⟨rfl, y⟩ := y
      have hx := y vs (SqL.of iH)
      rw [(hvg i hlt).1] at hx
      have hx := (Option.some.inj hx).symm
      have self : setα α' 99 (α1 (b + i)) 99 = α1 (b + i) := by unfold setα; rw [if_pos rfl]
      have RB : Rel X.K X.mg (bdOf F' H2 (fun c => c = α1 (b + i)) (setα α' 99 (α1 (b + i))) []) F' (setα α' 99 (α1 (b + i))) H2 σ' ⟨ρ.map (xvC n (α1 n)), [(99, .fl (xi.map enc))]⟩ := by
        refine ⟨R'.sub, Same.refl _, fun c o e => .inl e, fun c o e _ => e, by simp [names], fun p q hp hq _ => ?_, fun k o hk => ?_, slr_xv 0 R'.slots, fun k a h hk => ?_⟩
        · have h1 : p = 99 := by simpa [names] using hp
          have h2 : q = 99 := by simpa [names] using hq
          rw [h1, h2]
        · have e' : (k, o) = (99, LO.fl (xi.map enc)) := by simpa using hk
          cases e'
          rw [self]
          exact ⟨g0, .inr rfl, ws, hw, rw'⟩
        · have h1 : k = 99 := by simpa [names] using hk
          subst h1
          exact Option.some.inj h
      obtain ⟨S2, hg, hb⟩ := hs (bdOf F' H2 (fun c => c = α1 (b + i)) (setα α' 99 (α1 (b + i))) []) (α1 n) i xi hxi iQ
      refine hg F' (setα α' 99 (α1 (b + i))) H2 σ' x _ RB ⟨by simp [names], by rw [self]; exact hx⟩ fun σ3 F3 H3 R3 s3 => hb F3 _ H3 σ3 _ R3 ?_
      have key : ∀ S' F4 α4 H4 σ4, Le S' ⟨ρ.map (xvC n (α1 n)), [(99, .fl ((g xi).map enc))]⟩ → Q (i + 1) → Rel X.K X.mg (bdOf F' H2 (fun c => c = α1 (b + i)) (setα α' 99 (α1 (b + i))) []) F4 α4 H4 σ4 S' → ∃ F2 α2, RelX X B F2 α2 H4 σ4 ⟨ρ.map (xvC n (α1 n)), []⟩ ∧ Same F1 F2 ∧ Inn (i + 1) F2 H4 := fun S' F4 α4 H4 σ4 hle hq R4 => by
        have R4 := R4.le hle
        have h99 : α4 99 = α1 (b + i) := R4.fix 99 _ (show some (setα α' 99 (α1 (b + i)) 99) = _ by rw [self]) (by simp [names])
        have hF : Same F' F4 := R4.bF
        have nF : ∀ c w, H2 c = some w → c ≠ α1 (b + i) → F' c = none → F4 c = none := fun c w h1 h2 h3 => by
          cases q : F4 c with
          | none => rfl
          | some u =>
            rcases R4.nF c u q with z | z | z
            · have z : F' c = some u := z
              rw [h3] at z; cases z
            · have z : H2 c = none := z
              rw [h1] at z; cases z
            · exact absurd z h2
        refine ⟨F4, α4, back (hB i hlt) R4 (slr_xv 0 R4.slots), sm.trans hF, hq, nF _ _ iH (fun z => hne i hlt z.symm) iO, R4.frame _ _ iH (fun z => hne i hlt (show α1 n = _ from z).symm), fun k x hk => ?_⟩
        by_cases q : k = i
        · subst q
          have : x = xi := by rw [hxi] at hk; exact (Option.some.inj hk).symm
          subst this
          obtain ⟨z0, _, us, z1, z2⟩ := R4.live 99 _ List.mem_cons_self
          rw [h99] at z0 z1
          rw [if_pos (Nat.lt_succ_self k)]
          exact ⟨z0, us, z1, z2⟩
        · obtain ⟨z0, us, z1, z2⟩ := iI k x hk
          have hkl : k < xss.length := (List.getElem?_eq_some_iff.mp hk).1
          have hni : α1 (b + k) ≠ α1 (b + i) := fun z => q (hinj k i hkl hlt z)
          refine ⟨nF _ _ z1 hni z0, us, R4.frame _ _ z1 hni, ?_⟩
          have e2 : (if k < i + 1 then g x else x) = (if k < i then g x else x) := by
            by_cases w : k < i
            · rw [if_pos w, if_pos (by omega)]
            · rw [if_neg w, if_neg (by omega)]
          rw [e2]; exact z2.mono hF
      refine ⟨fun S' F4 α4 H4 σ4 k4 R4 s4 => key S' F4 α4 H4 σ4 k4.1 k4.2 R4, fun S' F4 α4 H4 σ4 k4 R4 s4 => k4.elim, fun S' F4 α4 H4 σ4 k4 R4 s4 => key S' F4 α4 H4 σ4 k4.1 k4.2 R4, fun c S' F4 α4 H4 σ4 v k4 R4 s4 r4 => ?_⟩
      obtain ⟨d, rfl, hk⟩ := k4
      have hF : Same F' F4 := R4.bF
      exact o1.ret (.fr d) ⟨List.replicate S'.ρ.length none, []⟩ F4 α4 H4 σ4 v (hk _) (back (hB i hlt) R4 (slr_none R4.slots)) (sm.trans hF) r4
    · have hie : i = xss.length := by omega
      subst hie
      refine .inl ⟨⟨vs, SqL.of iH, by omega⟩, ?_⟩
      have hIn : ∀ k y, (xss.map g)[k]? = some y → F' (α1 (b + k)) = none ∧ (B.H0 (α1 (b + k)) = none ∨ B.fp (α1 (b + k))) ∧ ∃ ws, H' (α1 (b + k)) = some (.lst ws) ∧ Reps X.K X.mg F' (y.map enc) ws := fun k y hy => by
        rw [List.getElem?_map] at hy
        cases q : xss[k]? with
        | none => rw [q] at hy; cases hy
        | some x =>
          rw [q] at hy
          have hy : g x = y := Option.some.inj hy
          have hkl : k < xss.length := (List.getElem?_eq_some_iff.mp q).1
          obtain ⟨z0, us, z1, z2⟩ := iI k x q
          rw [if_pos hkl, hy] at z2
          exact ⟨z0, hB k hkl, us, z1, z2⟩
      have hml : (xss.map g).length = xss.length := List.length_map _
      obtain ⟨α2, R2, k2, n2⟩ := R'.adoptIn (e := enc) (xss := xss.map g) (b := b) (b' := b) (α' := α1) (L := []) (by omega) (fun i hi z => absurd z (by simp [names])) hIn
        (fun i j hi hj q => hinj i j (by omega) (by omega) q) (fun k hk => absurd hk (by simp [names]))
      have hnI : n ∉ names (([] : List (Nat × LO)) ++ inL enc b (xss.map g)) := fun z => by
        rw [List.nil_append] at z
        have := names_inL.mp z; omega
      have R3 := R2.adoptO (m := n) (u := .cl (ceL b (xss.map g).length)) (p := α1 n) hnI h100 iO (by have := (R1.live n _ hmO).2.1; exact this) ⟨vs, iH, by
        have hcc := crels_ceL_of (K := X.K) (mg := X.mg) (F := F') (α := setα α2 n (α1 n)) (L := [] ++ inL enc b (xss.map g) ++ [(n, .cl (ceL b (xss.map g).length))]) (k := (xss.map g).length) (b := b) fun i hi => by
          rw [names_app, List.nil_append]
          exact List.mem_append_left _ (names_inL.mpr (by omega))
        have eus : vs = (List.range (xss.map g).length).map fun i => V.ref (setα α2 n (α1 n) (b + i)) := by
          apply List.ext_getElem?
          intro i
          by_cases hi : i < xss.length
          · rw [(hvg i hi).1, List.getElem?_map, List.getElem?_range (by omega)]
            show _ = some (V.ref (if b + i = n then α1 n else α2 (b + i)))
            rw [if_neg (by omega), n2 i (by omega)]
          · rw [List.getElem?_eq_none (by omega), List.getElem?_eq_none (by simp; omega)]
        rw [eus]; exact hcc⟩ (fun k hk q => by
          rw [List.nil_append] at hk
          obtain ⟨z1, z2⟩ := names_inL.mp hk
          have e1 := n2 (k - b) (by omega)
          rw [show b + (k - b) = k by omega, q] at e1
          exact hne (k - b) (by omega) (by rw [show b + (k - b) = k by omega]; exact e1.symm))
      have R4 := R3.perm (L' := [] ++ nest n b enc (xss.map g)) (by
        rw [List.append_assoc]
        exact List.Perm.append_left _ (List.perm_append_singleton (n, LO.cl (ceL b (xss.map g).length)) (inL enc b (xss.map g))))
      have self : setα α2 n (α1 n) n = α1 n := by unfold setα; rw [if_pos rfl]
      exact o1.nx ⟨ρ, [] ++ nest n b enc (xss.map g)⟩ F' _ H' σ' (hd iQ) ⟨R4.sub, R4.bF, R4.nF, R4.frame, R4.nd, R4.inj, R4.live, slr_out self List.mem_cons_self hρ R4.slots, R4.fix⟩ sm)
/-- .. a loop that may return and changes nothing -/
theorem ex_forNestE {ρ' : Type} (step : Unit → List τ → Except ρ' Unit) (eR : ρ' → D) (hp : PassesOwn (model X.prog X.w) X.A X.env X.xe) (hc : X.calm = true) (he : Ev X B e ⟨ρ, [] ++ nest n b enc xss⟩ (.ad n) ⟨ρ, [] ++ nest n b enc xss⟩) (hnb : n < b) (h100 : 100 ≤ n) (hρ : okC n ρ = true)
    (hs : ∀ (B' : Bd) (a : Addr) (i : Nat) (x : List τ), xss[i]? = some x → runE step (xss.take i) () = .ok () → ∃ S2, Eg X B' tg (.ad 99) ⟨ρ.map (xvC n a), [(99, .fl (x.map enc))]⟩ S2 ∧ Exs X B' body S2 (loopE (fun _ => (⟨ρ.map (xvC n a), [(99, .fl (x.map enc))]⟩ : Nz.S)) (step () x) (fun _ => True) (fun r c _ => c = .fr (eR r) ∧ True)))
    (hr : ∀ r, runE step xss () = .error r → ∀ S, K (.ret (.fr (eR r)) S)) (hd : runE step xss () = .ok () → K (.nx ⟨ρ, [] ++ nest n b enc xss⟩)) (hf : ∀ x, foldedSetIterable e X.env x = pure x := by intro _; rfl) : Ex X B (.For tg e body [] pos) ⟨ρ, [] ++ nest n b enc xss⟩ K := by
  refine ex_forNest (fun x => x) (fun i => runE step (xss.take i) () = .ok ()) rfl hp hc he hnb h100 hρ (fun B' a i x hx hq => ?_) (fun hq => ?_) hf
  · obtain ⟨S2, h1, h2⟩ := hs B' a i x hx hq
    refine ⟨S2, h1, h2.mono fun o ho => ?_⟩
    cases o with
    | nx S => obtain ⟨s', e1, l, _⟩ := ho; exact ⟨l, by rw [runE_split hx hq, e1]⟩
    | ct S => obtain ⟨s', e1, l, _⟩ := ho; exact ⟨l, by rw [runE_split hx hq, e1]⟩
    | bk S => exact ho
    | ret c S => obtain ⟨r, e1, e2, _⟩ := ho; exact ⟨_, e2, fun S => hr r (runE_err hx hq e1) S⟩
  · rw [List.take_length] at hq
    rw [List.map_id' xss] 
    exact hd hq
end
end Nz
namespace Nz
open PySem PySem.Spec PyProof.Rows L2
section
variable {K : Frag} {mg : Mg} {B : Bd} {F : Hp} {α : Nat → Addr} {H : Hp} {σ : L2.St} {L L' : List (Nat × LO)} {ρ : List (Option Ce)} {m : Nat}
def noRef (m : Nat) : LO → Prop
  | .fl _ => True
  | .cl cs => ∀ c ∈ cs, c ≠ .ad m
  | _ => False
theorem crel_drop (hN : ∀ k, k ∈ names L → k ≠ m → k ∈ names L') : ∀ {c : Ce} {v : V}, c ≠ .ad m → CRel K mg F α L c v → CRel K mg F α L' c v
  | .fr _, _, _, h => h
  | .xv _, _, _, h => h
  | .ad k, _, q, ⟨h1, h2⟩ => ⟨hN k h1 fun z => q (by rw [z]), h2⟩
theorem crels_drop (hN : ∀ k, k ∈ names L → k ≠ m → k ∈ names L') : ∀ {cs : List Ce} {vs : List V}, (∀ c ∈ cs, c ≠ .ad m) → CRels K mg F α L cs vs → CRels K mg F α L' cs vs
  | _, _, _, .nil => .nil
  | _, _, q, .cons h r => .cons (crel_drop hN (q _ List.mem_cons_self) h) (crels_drop hN (fun c hc => q c (List.mem_cons_of_mem _ hc)) r)
theorem slr_drop (hN : ∀ k, k ∈ names L → k ≠ m → k ∈ names L') : ∀ {ρ : List (Option Ce)} {σ : L2.St}, (∀ c, some c ∈ ρ → c ≠ .ad m) → SlR K mg F α L ρ σ → SlR K mg F α L' ρ σ
  | _, _, _, .nil => .nil
  | _, _, q, .no r => .no (slr_drop hN (fun c hc => q c (List.mem_cons_of_mem _ hc)) r)
  | _, _, q, .so h r => .so (crel_drop hN (q _ List.mem_cons_self) h) (slr_drop hN (fun c hc => q c (List.mem_cons_of_mem _ hc)) r)
theorem Rel.drop1 (R : Rel K mg B F α H σ ⟨ρ, L⟩) (hL : ∀ p, p ∈ L' → p ∈ L) (hN : ∀ k, k ∈ names L → k ≠ m → k ∈ names L') (nd : (names L').Nodup) (hρ : ∀ c, some c ∈ ρ → c ≠ .ad m) (hO : ∀ p ∈ L', noRef m p.2) : Rel K mg B F α H σ ⟨ρ, L'⟩ := by
  have hn : ∀ k, k ∈ names L' → k ∈ names L := fun k q => by obtain ⟨p, h1, h2⟩ := List.mem_map.mp q; exact List.mem_map.mpr ⟨p, hL p h1, h2⟩
  refine ⟨R.sub, R.bF, R.nF, R.frame, nd, fun a b ha hb => R.inj a b (hn a ha) (hn b hb), fun n o hm => ?_, slr_drop hN hρ R.slots, fun n a q hm => R.fix n a q (hn n hm)⟩
  obtain ⟨h1, h2, h3⟩ := R.live n o (hL _ hm)
  refine ⟨h1, h2, ?_⟩
  have hr := hO _ hm
  cases o with
  | fl ds => exact h3
  | cl cs => obtain ⟨vs, e, r⟩ := h3; exact ⟨vs, e, crels_drop hN hr r⟩
  | ins _ _ => exact hr.elim
  | dT _ => exact hr.elim
  | dK _ => exact hr.elim
variable {τ : Type} {e : τ → D} {xss yss : List (List τ)} {n b : Nat}
theorem mem_ceL : ∀ {k b : Nat} {c : Ce}, c ∈ ceL b k → ∃ i, i < k ∧ c = .ad (b + i)
  | k + 1, b, c, h => by
    rcases List.mem_cons.mp h with h | h
    · exact ⟨0, by omega, h⟩
    · obtain ⟨i, h1, h2⟩ := mem_ceL h
      exact ⟨i + 1, by omega, by rw [h2, show b + 1 + i = b + (i + 1) by omega]⟩
theorem Rel.nestExt (R : Rel K mg B F α H σ ⟨ρ, [] ++ (n, .cl (ceL b xss.length ++ ceL (b + xss.length) yss.length)) :: inL e b xss ++ nest m (b + xss.length) e yss⟩) (hmn : m ≠ n) (hmb : m < b) (hρ : noAd m ρ = true) : Rel K mg B F α H σ ⟨ρ, [] ++ nest n b e (xss ++ yss)⟩ := by
  have e1 : ([] ++ nest n b e (xss ++ yss) : List (Nat × LO)) = (n, .cl (ceL b xss.length ++ ceL (b + xss.length) yss.length)) :: (inL e b xss ++ inL e (b + xss.length) yss) := by
    show (n, LO.cl (ceL b (xss ++ yss).length)) :: inL e b (xss ++ yss) = _
    rw [inL_append, List.length_append, ceL_add]
  rw [e1]
  have nd : (names ([] ++ (n, LO.cl (ceL b xss.length ++ ceL (b + xss.length) yss.length)) :: inL e b xss ++ nest m (b + xss.length) e yss)).Nodup := R.nd
  refine R.drop1 (m := m) (fun p hp => ?_) (fun k hk hkm => ?_) ?_ (noAd_ok hρ) fun p hp => ?_
  · rcases List.mem_cons.mp hp with hp | hp
    · rw [hp]; exact List.mem_cons_self
    · rcases List.mem_append.mp hp with hp | hp
      · exact List.mem_append_left _ (List.mem_cons_of_mem _ hp)
      · exact List.mem_append_right _ (List.mem_cons_of_mem _ hp)
  · rw [names_app] at hk
    show k ∈ n :: names (inL e b xss ++ inL e (b + xss.length) yss)
    rw [names_app]
    rcases List.mem_append.mp hk with hk | hk
    · have hk : k ∈ n :: names (inL e b xss) := hk
      rcases List.mem_cons.mp hk with z | z
      · rw [z]; exact List.mem_cons_self
      · exact List.mem_cons_of_mem _ (List.mem_append_left _ z)
    · have hk : k ∈ m :: names (inL e (b + xss.length) yss) := hk
      rcases List.mem_cons.mp hk with z | z
      · exact absurd z hkm
      · exact List.mem_cons_of_mem _ (List.mem_append_right _ z)
  · have nd2 : ((n :: names (inL e b xss)) ++ (m :: names (inL e (b + xss.length) yss))).Nodup := by
      have h := nd
      rw [names_app] at h
      exact h
    show (n :: names (inL e b xss ++ inL e (b + xss.length) yss)).Nodup
    rw [names_app]
    exact nd2.sublist (List.Sublist.append (List.Sublist.refl (n :: names (inL e b xss))) (List.sublist_cons_self m _))
  · rcases List.mem_cons.mp hp with hp | hp
    · rw [hp]
      intro c hc q
      rw [q] at hc
      rcases List.mem_append.mp hc with hc | hc
      · obtain ⟨i, _, h2⟩ := mem_ceL hc
        have := Ce.ad.inj h2; omega
      · obtain ⟨i, _, h2⟩ := mem_ceL hc
        have := Ce.ad.inj h2; omega
    · obtain ⟨k, o⟩ := p
      rcases List.mem_append.mp hp with hp | hp
      · obtain ⟨i, x, _, _, h⟩ := mem_inL.mp hp
        rw [h]; trivial
      · obtain ⟨i, x, _, _, h⟩ := mem_inL.mp hp
        rw [h]; trivial
end
section
variable {X : Cx} {B : Bd} {S S1 : Nz.S} {o e : Expr} {apos pos : Pos} {K : Out → Prop} {sts : List Stmt} {ρ : List (Option Ce)} {τ : Type} {enc : τ → D} {xss yss : List (List τ)} {n b m : Nat} {cs cs0 cs2 : List Ce}
theorem ev_extendC (ho : Ev X B o S (.ad n) S) (ha : Ev X B e S (.ad m) S1) (hn : getL n S1.L = some (.cl cs)) (hn2 : getL m S1.L = some (.cl cs2)) (hn0 : getL n S.L = some (.cl cs0)) (hz : cs.length + cs2.length ≤ sizeLine) (h1 : Sub S.L S1.L := by exact Sub.app)
    (hbase : attributeBase o "extend" X.env (eval o X.env) = eval o X.env := by rfl)
    (hfew : ((backTo pos (starEach (e :: []) X.env)).all (fun x => !x.1) && (backToKw pos (keywordEach [] X.env)).all (fun x => x.1.isSome)
      && decide ((e :: ([] : List Expr)).length + ([] : List Keyword).length + (if ([] : List Keyword).isEmpty then 0 else 1) < 30)) = true := by rfl)
    (hline : (apos.endLine == pos.line) = true := by rfl) (hs : starEach (e :: []) X.env = (false, eval e X.env) :: starEach [] X.env := by rfl) (hplain : (backTo pos (starEach [] X.env)).any (·.1) = false := by rfl) :
    Ev X B (.Call (.Attribute o "extend" apos) [e] [] pos) S (.fr .non) ⟨S1.ρ, setL n (.cl (cs ++ cs2)) S1.L⟩ :=
  fun F α H σ Q R k => wE.of (pe_bm PySem.F.plainAttrs_list PySem.F.slot_list_extend PySem.F.type_list_extend mt_extS pe_w (pa_cons pe_w pa_nil hs) hbase hfew hline hs hplain) (ho F α H σ _ R fun F1 α1 v1 H1 R1 st1 r1 => by
    obtain ⟨hm, rfl⟩ := r1
    refine ⟨?_, ha F1 α1 H1 σ _ R1 fun F2 α2 v2 H2 R2 st2 r2 => ?_⟩
    · obtain ⟨_, _, vs, e1, rs⟩ := R1.live n _ (getL_mem hn0)
      exact .inl ⟨rfl, _, SqL.of e1⟩
    · have hmm := getL_mem hn
      obtain ⟨f0, f1, vs, e1, rs⟩ := R2.live n _ hmm
      obtain ⟨_, _, ws, e2, rs2⟩ := R2.live m _ (getL_mem hn2)
      obtain ⟨hm2, rfl⟩ := r2
      have en : α2 n = α1 n := st2.nm n hm
      have hsub : ∀ k, k ∈ names S1.L → k ∈ names (setL n (.cl (cs ++ cs2)) S1.L) := fun k hk => by rw [names_setL]; exact hk
      refine ⟨α1 n, α2 m, vs, ws, rfl, rfl, by rw [← en]; exact e1, SqL.of e2, by rw [← rs.length, ← rs2.length]; exact hz, ?_⟩
      have Rp := R2.put (n := n) (u := .cl (cs ++ cs2)) (o' := .lst (vs ++ ws)) hmm ⟨vs ++ ws, upd_same, CRels.append (rs.step Stp.refl hsub) (rs2.step Stp.refl hsub)⟩
      rw [en] at Rp
      exact k F2 α2 .non _ Rp ((st1.trans st2 Sub.refl).trans Stp.refl h1) .non)
theorem exs_nestExt (hmn : m ≠ n) (hmb : m < b) (hρ : noAd m ρ = true) (h : Exs X B sts ⟨ρ, [] ++ nest n b enc (xss ++ yss)⟩ K) : Exs X B sts ⟨ρ, [] ++ (n, .cl (ceL b xss.length ++ ceL (b + xss.length) yss.length)) :: inL enc b xss ++ nest m (b + xss.length) enc yss⟩ K := fun F α H σ D R o => h F α H σ D (R.nestExt hmn hmb hρ) o
theorem getL_nest2 {b2 : Nat} (h1 : m ≠ n) (h2 : m < b) : getL m ([] ++ nest n b enc xss ++ nest m b2 enc yss) = some (.cl (ceL b2 yss.length)) := by
  rw [getL_appR (fresh_nest (by simp [names]) h1 h2)]
  show (if m = m then _ else _) = _
  rw [if_pos rfl]
theorem fresh_nestB {i : Nat} (h : n < b) : b + xss.length + i ∉ names ([] ++ nest n b enc xss) := fun z => by
  rw [List.nil_append, names_nest] at z
  omega
end
end Nz
set_option maxRecDepth 100000
set_option maxHeartbeats 4000000
namespace My
open PySem PySem.Spec PyProof.Rows L2 Nz
def top (i : Nat) : Stmt := PySem.Challenge.pw_neverlate_k25_all_circuits.main.body.getD i (.Pass ⟨0, 0, 0, 0⟩)
local macro_rules | `(tactic| walk_at "pad") => `(tactic| decide)
local macro_rules | `(tactic| walk_at "okd") => `(tactic| first | exact okD_int (by omega) | exact okD_str (by omega))
local macro_rules | `(tactic| walk_at "intt") => `(tactic| fail)
local macro_rules | `(tactic| walk_at "rep") => `(tactic| omega)
local macro_rules | `(tactic| walk_at "ext") => `(tactic| omega)
local macro_rules | `(tactic| walk_at "lcm") => `(tactic| omega)
local macro_rules | `(tactic| walk_at "fdivw") => `(tactic| exact fdivW_of (by omega) (by omega))
local macro_rules | `(tactic| walk_at "str") => `(tactic| (apply small_log; omega))
local macro_rules | `(tactic| walk_at "scan") => `(tactic| (unfold PySem.scanBound; omega))
local macro_rules | `(tactic| walk_at "mulw") => `(tactic| first | exact mulW_of (by omega) | with_reducible assumption)
local macro_rules | `(tactic| walk_at "divw") => `(tactic| first | exact divW_of (by omega) | with_reducible assumption)
local macro_rules | `(tactic| walk_at "some") => `(tactic| first | assumption | exact some_ofW (by assumption) | exact some_of (by assumption) | exact some_of2 (by assumption) | exact some_of3 (by assumption) | exact some_of4 (by assumption) | exact some_of5 (by assumption) | (simp_all; done))
local macro_rules | `(tactic| walk_at "mem") => `(tactic| first | assumption | exact minL_mem (by walk_at "ne") | exact maxL_mem (by walk_at "ne"))
local macro_rules | `(tactic| walk_at "sd") => `(tactic| first | omega | (have hyy := seq_range (by assumption); omega) | (have hyy := rng_lt (by assumption); omega) | (simp only [List.length_append, List.length_map, List.length_cons, List.length_nil, List.length_range, List.length_replicate] at *; omega) | decide | with_reducible assumption | exact Int.emod_nonneg _ (by omega) | exact Int.emod_lt_of_pos _ (by omega) | (constructor <;> omega) | (refine ⟨?_, ?_⟩ <;> omega))
local macro_rules | `(tactic| walk_at "mul") => `(tactic| first | exact Or.inl ⟨by omega, by omega⟩ | (have hyy := seq_range (by assumption); exact Or.inl ⟨by omega, by omega⟩) | exact Or.inr ⟨by omega, by omega⟩ | with_reducible assumption)
local macro_rules | `(tactic| walk_at "ne") => `(tactic| first | assumption | (intro h; subst h; contradiction) | (intro h; simp only [h, List.isEmpty_nil, not_true_eq_false] at *; done) | (intro h; have := congrArg List.length h; simp only [List.length_map, List.length_range, List.length_nil, List.length_append, List.length_cons] at this; omega) | (simp; done) | (intro h; simp [h] at *; done) | (intro h; simp [h] at *; omega))
local macro_rules | `(tactic| walk_at "pre") => `(tactic| first | omega | with_reducible assumption | (simp only [List.length_map]; omega) | (refine ⟨?_, ?_⟩ <;> first | omega | with_reducible assumption) | (refine ⟨?_, ?_, ?_⟩ <;> first | omega | with_reducible assumption) | (refine ⟨?_, ?_, ?_, ?_⟩ <;> first | omega | with_reducible assumption) | (have hyy := seq_range (by assumption); (repeat' apply And.intro) <;> omega))
structure Task where
  name : Str
  kinds : List (Str × Int × Int)
  ways : List (Str × Str × Int)
  deriving Inhabited
def fTask (t : Task) : List (Str × D) := [("name", D.str t.name), ("kinds", (eU (eT3 D.str D.int D.int)) t.kinds), ("ways", (eU (eT3 D.str D.str D.int)) t.ways)]
abbrev eTask (t : Task) : D := .obj "Task" (fTask t)
abbrev s_law_row : Stmt := top 24
abbrev s_law_numbers : Stmt := top 25
abbrev s_is_integer : Stmt := top 14
abbrev s_is_name : Stmt := top 15
abbrev s_is_kind : Stmt := top 16
abbrev s_is_way : Stmt := top 17
abbrev s_are_different : Stmt := top 18
abbrev s_are_kinds : Stmt := top 19
abbrev s_are_ways : Stmt := top 20
abbrev s_Task_init__ : Stmt := inClass (top 22) 0
abbrev s_Task_kind_number : Stmt := inClass (top 22) 3
abbrev s_law_is_integer : Stmt := top 27
abbrev s_law_pick : Stmt := top 26
abbrev s_law_scale : Stmt := top 28
abbrev s_law_name : Stmt := top 29
abbrev s_law_kinds : Stmt := top 30
abbrev s_law_ways : Stmt := top 31
abbrev s_law_number : Stmt := top 32
abbrev s_circuits_behind : Stmt := top 7
abbrev s_circuits : Stmt := top 6
abbrev s_circuits_behindn : Stmt := top 7
abbrev s_law_closes : Stmt := top 33
abbrev s_law_circuits : Stmt := top 34
abbrev s_circuitsn : Stmt := top 6
abbrev s_law : Stmt := top 35
structure TX (P : Program) (K : Frag) (mg : Mg) where
  n_abs : mg "abs" = none
  n_all : mg "all" = none
  n_bool : mg "bool" = none
  n_enumerate : mg "enumerate" = none
  n_int : mg "int" = none
  n_isinstance : mg "isinstance" = none
  n_len : mg "len" = none
  n_list : mg "list" = none
  n_max : mg "max" = none
  n_range : mg "range" = none
  n_set : mg "set" = none
  n_sorted : mg "sorted" = none
  n_str : mg "str" = none
  n_tuple : mg "tuple" = none
  t_LONGEST_NAME : Tok
  c_LONGEST_NAME : mg "LONGEST_NAME" = some (.int 12 t_LONGEST_NAME)
  t_MOST_KINDS : Tok
  c_MOST_KINDS : mg "MOST_KINDS" = some (.int 8 t_MOST_KINDS)
  t_MOST_UNITS : Tok
  c_MOST_UNITS : mg "MOST_UNITS" = some (.int 1000 t_MOST_UNITS)
  t_MOST_WAYS : Tok
  c_MOST_WAYS : mg "MOST_WAYS" = some (.int 16 t_MOST_WAYS)
  t_NAME_CHARACTERS : Tok
  c_NAME_CHARACTERS : mg "NAME_CHARACTERS" = some (.str "abcdefghijklmnopqrstuvwxyz0123456789" t_NAME_CHARACTERS)
  C_Task : Addr
  q_Task : mg "Task" = some (.ref C_Task)
  cl_Task : Cls K C_Task
  na_Task_name : NoAttr K C_Task "name"
  na_Task_kinds : NoAttr K C_Task "kinds"
  na_Task_ways : NoAttr K C_Task "ways"
  a_law_row : Addr
  d_law_row : FuncData
  F_law_row : Fun K "_law_row" "_law_row" s_law_row a_law_row d_law_row
  k_law_row : PySem.W.keepIn K (.ref a_law_row) = true
  m_law_row : mg "_law_row" = some (.ref a_law_row)
  b_law_row : Binds K d_law_row ["cell", "many"] []
  a_law_numbers : Addr
  d_law_numbers : FuncData
  F_law_numbers : Fun K "_law_numbers" "_law_numbers" s_law_numbers a_law_numbers d_law_numbers
  k_law_numbers : PySem.W.keepIn K (.ref a_law_numbers) = true
  m_law_numbers : mg "_law_numbers" = some (.ref a_law_numbers)
  b_law_numbers : Binds K d_law_numbers ["script", "many"] []
  a_is_integer : Addr
  d_is_integer : FuncData
  F_is_integer : Fun K "is_integer" "is_integer" s_is_integer a_is_integer d_is_integer
  k_is_integer : PySem.W.keepIn K (.ref a_is_integer) = true
  m_is_integer : mg "is_integer" = some (.ref a_is_integer)
  b_is_integer : Binds K d_is_integer ["value", "low", "high"] []
  a_is_name : Addr
  d_is_name : FuncData
  F_is_name : Fun K "is_name" "is_name" s_is_name a_is_name d_is_name
  k_is_name : PySem.W.keepIn K (.ref a_is_name) = true
  m_is_name : mg "is_name" = some (.ref a_is_name)
  b_is_name : Binds K d_is_name ["value"] []
  a_is_kind : Addr
  d_is_kind : FuncData
  F_is_kind : Fun K "is_kind" "is_kind" s_is_kind a_is_kind d_is_kind
  k_is_kind : PySem.W.keepIn K (.ref a_is_kind) = true
  m_is_kind : mg "is_kind" = some (.ref a_is_kind)
  b_is_kind : Binds K d_is_kind ["value"] []
  a_is_way : Addr
  d_is_way : FuncData
  F_is_way : Fun K "is_way" "is_way" s_is_way a_is_way d_is_way
  k_is_way : PySem.W.keepIn K (.ref a_is_way) = true
  m_is_way : mg "is_way" = some (.ref a_is_way)
  b_is_way : Binds K d_is_way ["value", "kind_names"] []
  a_are_different : Addr
  d_are_different : FuncData
  F_are_different : Fun K "are_different" "are_different" s_are_different a_are_different d_are_different
  k_are_different : PySem.W.keepIn K (.ref a_are_different) = true
  m_are_different : mg "are_different" = some (.ref a_are_different)
  b_are_different : Binds K d_are_different ["names"] []
  a_are_kinds : Addr
  d_are_kinds : FuncData
  F_are_kinds : Fun K "are_kinds" "are_kinds" s_are_kinds a_are_kinds d_are_kinds
  k_are_kinds : PySem.W.keepIn K (.ref a_are_kinds) = true
  m_are_kinds : mg "are_kinds" = some (.ref a_are_kinds)
  b_are_kinds : Binds K d_are_kinds ["kinds"] []
  a_are_ways : Addr
  d_are_ways : FuncData
  F_are_ways : Fun K "are_ways" "are_ways" s_are_ways a_are_ways d_are_ways
  k_are_ways : PySem.W.keepIn K (.ref a_are_ways) = true
  m_are_ways : mg "are_ways" = some (.ref a_are_ways)
  b_are_ways : Binds K d_are_ways ["ways", "kinds"] []
  a_Task_init__ : Addr
  d_Task_init__ : FuncData
  F_Task_init__ : Fun K "__init__" "Task.__init__" s_Task_init__ a_Task_init__ d_Task_init__
  k_Task_init__ : PySem.W.keepIn K (.ref a_Task_init__) = true
  mk_Task_init__ : Mk K C_Task a_Task_init__
  kb_Task_init___1_kinds_ways : KBn K d_Task_init__ ["self", "name", "kinds", "ways"] (1 + 1) ["kinds", "ways"] (fun us ws => us ++ ws) (fun vs zs => vs ++ zs)
  a_Task_kind_number : Addr
  d_Task_kind_number : FuncData
  F_Task_kind_number : Fun K "kind_number" "Task.kind_number" s_Task_kind_number a_Task_kind_number d_Task_kind_number
  k_Task_kind_number : PySem.W.keepIn K (.ref a_Task_kind_number) = true
  me_Task_kind_number : Meth K C_Task "kind_number" a_Task_kind_number
  b_Task_kind_number : Binds K d_Task_kind_number ["self", "kind_name"] []
  a_law_is_integer : Addr
  d_law_is_integer : FuncData
  F_law_is_integer : Fun K "_law_is_integer" "_law_is_integer" s_law_is_integer a_law_is_integer d_law_is_integer
  k_law_is_integer : PySem.W.keepIn K (.ref a_law_is_integer) = true
  m_law_is_integer : mg "_law_is_integer" = some (.ref a_law_is_integer)
  b_law_is_integer : Binds K d_law_is_integer ["actual"] []
  a_law_pick : Addr
  d_law_pick : FuncData
  F_law_pick : Fun K "_law_pick" "_law_pick" s_law_pick a_law_pick d_law_pick
  k_law_pick : PySem.W.keepIn K (.ref a_law_pick) = true
  m_law_pick : mg "_law_pick" = some (.ref a_law_pick)
  b_law_pick : Binds K d_law_pick ["numbers", "at", "count"] []
  a_law_scale : Addr
  d_law_scale : FuncData
  F_law_scale : Fun K "_law_scale" "_law_scale" s_law_scale a_law_scale d_law_scale
  k_law_scale : PySem.W.keepIn K (.ref a_law_scale) = true
  m_law_scale : mg "_law_scale" = some (.ref a_law_scale)
  b_law_scale : Binds K d_law_scale ["numbers"] []
  a_law_name : Addr
  d_law_name : FuncData
  F_law_name : Fun K "_law_name" "_law_name" s_law_name a_law_name d_law_name
  k_law_name : PySem.W.keepIn K (.ref a_law_name) = true
  m_law_name : mg "_law_name" = some (.ref a_law_name)
  b_law_name : Binds K d_law_name ["numbers", "k"] []
  a_law_kinds : Addr
  d_law_kinds : FuncData
  F_law_kinds : Fun K "_law_kinds" "_law_kinds" s_law_kinds a_law_kinds d_law_kinds
  k_law_kinds : PySem.W.keepIn K (.ref a_law_kinds) = true
  m_law_kinds : mg "_law_kinds" = some (.ref a_law_kinds)
  b_law_kinds : Binds K d_law_kinds ["numbers", "at", "most"] []
  a_law_ways : Addr
  d_law_ways : FuncData
  F_law_ways : Fun K "_law_ways" "_law_ways" s_law_ways a_law_ways d_law_ways
  k_law_ways : PySem.W.keepIn K (.ref a_law_ways) = true
  m_law_ways : mg "_law_ways" = some (.ref a_law_ways)
  b_law_ways : Binds K d_law_ways ["numbers", "at", "kinds", "most"] []
  a_law_number : Addr
  d_law_number : FuncData
  F_law_number : Fun K "_law_number" "_law_number" s_law_number a_law_number d_law_number
  k_law_number : PySem.W.keepIn K (.ref a_law_number) = true
  m_law_number : mg "_law_number" = some (.ref a_law_number)
  b_law_number : Binds K d_law_number ["kinds", "name"] []
  a_circuits_behind : Addr
  d_circuits_behind : FuncData
  F_circuits_behind : Fun K "_circuits_behind" "_circuits_behind" s_circuits_behind a_circuits_behind d_circuits_behind
  k_circuits_behind : PySem.W.keepIn K (.ref a_circuits_behind) = true
  m_circuits_behind : mg "_circuits_behind" = some (.ref a_circuits_behind)
  b_circuits_behind : Binds K d_circuits_behind ["ends", "sources", "path"] []
  a_circuits : Addr
  d_circuits : FuncData
  F_circuits : Fun K "circuits" "circuits" s_circuits a_circuits d_circuits
  k_circuits : PySem.W.keepIn K (.ref a_circuits) = true
  m_circuits : mg "circuits" = some (.ref a_circuits)
  b_circuits : Binds K d_circuits ["task"] []
  a_circuits_behindn : Addr
  d_circuits_behindn : FuncData
  F_circuits_behindn : Fun K "_circuits_behind" "_circuits_behind" s_circuits_behindn a_circuits_behindn d_circuits_behindn
  k_circuits_behindn : PySem.W.keepIn K (.ref a_circuits_behindn) = true
  m_circuits_behindn : mg "_circuits_behind" = some (.ref a_circuits_behindn)
  b_circuits_behindn : Binds K d_circuits_behindn ["ends", "sources", "path"] []
  a_law_closes : Addr
  d_law_closes : FuncData
  F_law_closes : Fun K "_law_closes" "_law_closes" s_law_closes a_law_closes d_law_closes
  k_law_closes : PySem.W.keepIn K (.ref a_law_closes) = true
  m_law_closes : mg "_law_closes" = some (.ref a_law_closes)
  b_law_closes : Binds K d_law_closes ["kinds", "ways", "circuit"] []
  a_law_circuits : Addr
  d_law_circuits : FuncData
  F_law_circuits : Fun K "_law_circuits" "_law_circuits" s_law_circuits a_law_circuits d_law_circuits
  k_law_circuits : PySem.W.keepIn K (.ref a_law_circuits) = true
  m_law_circuits : mg "_law_circuits" = some (.ref a_law_circuits)
  b_law_circuits : Binds K d_law_circuits ["kinds", "ways"] []
  a_circuitsn : Addr
  d_circuitsn : FuncData
  F_circuitsn : Fun K "circuits" "circuits" s_circuitsn a_circuitsn d_circuitsn
  k_circuitsn : PySem.W.keepIn K (.ref a_circuitsn) = true
  m_circuitsn : mg "circuits" = some (.ref a_circuitsn)
  b_circuitsn : Binds K d_circuitsn ["task"] []
  a_law : Addr
  d_law : FuncData
  F_law : Fun K "law" "law" s_law a_law d_law
  k_law : PySem.W.keepIn K (.ref a_law) = true
  m_law : mg "law" = some (.ref a_law)
  b_law : Binds K d_law ["script"] []
  e_law : ∀ (s : Shared) (v : Value), BindsTo s d_law ⟨[v], []⟩ [("script", v)]
section
variable {P : Program} {w : World} {K : Frag} {mg : Mg} {base : Heap}
def m_law_row_l0 (cell : Int) (zs0 : (List Int) × Int) (zy0 : Nat) : (List Int) × Int :=
  if (((10 : Int) ^ ((18 : Int)).toNat) ≤ (if cell < 0 then -cell else cell)) then ((zs0.1 ++ [(zs0.2 % (1009 : Int))]), (zs0.2 / (1009 : Int))) else let mixed : Int := (((zs0.2 * (48271 : Int)) + ((((0 : Int) + (zy0 : Int)) + (1 : Int)) * (69621 : Int))) % (2147483647 : Int))
  let mixed : Int := (((mixed * (16807 : Int)) + ((271 : Int) * (((0 : Int) + (zy0 : Int)) + (3 : Int)))) % (2147483629 : Int))
  ((zs0.1 ++ [(mixed % (1009 : Int))]), zs0.2)
def m_law_row (cell : Int) (many : Int) : List Int :=
  let rest1 : Int := (if cell < 0 then -cell else cell)
  ((List.range (many).toNat).foldl (m_law_row_l0 cell) (([] : List Int), rest1)).1
theorem len_row (cell many : Int) : (m_law_row cell many).length = many.toNat := by
  have key : ∀ (n : Nat) (xs : List Nat) (s : List Int × Int), ((xs.foldl (m_law_row_l0 cell) s).1).length = s.1.length + xs.length := by
    intro _ xs
    induction xs with
    | nil => intro s; rfl
    | cons x r ih =>
      intro s
      rw [List.foldl_cons, ih]
      have : ((m_law_row_l0 cell s x).1).length = s.1.length + 1 := by
        unfold m_law_row_l0
        split <;> split <;> simp
      rw [this, List.length_cons]; omega
  have := key 0 (List.range (many).toNat) (([] : List Int), (if cell < 0 then -cell else cell))
  unfold m_law_row
  simpa using this
theorem mem_row (cell many : Int) : ∀ x ∈ m_law_row cell many, 0 ≤ x ∧ x ≤ 1008 := by
  have key : ∀ (xs : List Nat) (s : List Int × Int), (∀ x ∈ s.1, 0 ≤ x ∧ x ≤ 1008) → ∀ x ∈ ((xs.foldl (m_law_row_l0 cell) s).1), 0 ≤ x ∧ x ≤ 1008 := by
    intro xs
    induction xs with
    | nil => intro s h; exact h
    | cons y r ih =>
      intro s h
      rw [List.foldl_cons]
      refine ih _ ?_
      have app : ∀ (v : Int), 0 ≤ v ∧ v ≤ 1008 → ∀ x ∈ s.1 ++ [v], 0 ≤ x ∧ x ≤ 1008 := fun v hv x hx => by
        rcases List.mem_append.mp hx with hx | hx
        · exact h x hx
        · rw [List.mem_singleton.mp hx]; exact hv
      unfold m_law_row_l0
      split <;> split <;> exact app _ (by omega)
  unfold m_law_row
  exact key _ _ (fun x hx => absurd hx (by simp))
theorem sc_law_row : FnScope ["cell", "many", "row", "rest", "k", "mixed"] ["cell", "many"] (defScope s_law_row) := ⟨rfl, rfl, rfl, by decide +kernel, rfl, by decide +kernel, by decide +kernel⟩
def sp_law_row : SpN := fun zcs zL zKc => ∃ cell : Int, ∃ many : Int, zcs = [.fr (D.int cell), .fr (D.int many)] ∧ zL = [] ∧ (0 ≤ many ∧ many ≤ 1001) ∧ ∀ zL', zKc (.fr ((eL D.int) (m_law_row cell many))) zL'
theorem ok_law_row (T : TX P K mg) : FnOk P w K mg base CX0 1 T.a_law_row T.d_law_row ["cell", "many"] (SpOf K mg sp_law_row) := by
  refine T.F_law_row.okN sc_law_row (fun zcs zL zKc zh => by obtain ⟨cell, many, rfl, _⟩ := zh; rfl) fun zcdv zA zout zst zH zE zB zcs zL zKc zhr zh => ?_
  obtain ⟨cell, many, rfl, rfl, hpre, zk⟩ := zh
  have nd := sc_law_row.nd
  have hSL := sizeLine_eq
  show Exs _ _ _ ⟨[some (.fr (D.int cell)), some (.fr (D.int many)), none, none, none, none], []⟩ _
  refine exs_cons (ex_set 2 (ev_lstN 100 (enc := D.int) ([] : List Int) ea_nil rfl (by simp only [List.length_cons, List.length_nil]; decide) (by simp [names]) (by decide)) ?_ nd rfl (.inl rfl))
  show Exs _ _ _ ⟨[some (.fr (D.int cell)), some (.fr (D.int many)), some (.ad 100), none, none, none], [(100, .fl ((([] : List Int)).map D.int))]⟩ _
  refine exs_cons (ex_set 3 (ev_callB (ds := [D.int cell]) c_abs (ea_cons (ev_var 0 rfl (.inl rfl) rfl) ea_nil) (by exact rfl) T.n_abs (by decide +kernel)) ?_ nd rfl (.inl rfl))
  show Exs _ _ _ ⟨[some (.fr (D.int cell)), some (.fr (D.int many)), some (.ad 100), some (.fr (D.int (if cell < 0 then -cell else cell))), none, none], [(100, .fl ((([] : List Int)).map D.int))]⟩ _
  generalize zg_rest : (if cell < 0 then -cell else cell) = rest
  show Exs _ _ _ ⟨[some (.fr (D.int cell)), some (.fr (D.int many)), some (.ad 100), some (.fr (D.int rest)), none, none], [(100, .fl ((([] : List Int)).map D.int))]⟩ _
  refine exs_cons (ex_forF (enc := (fun i : Nat => D.int ((0 : Int) + (i : Int)))) (fun (zs0 : (List Int) × Int) => (⟨[some (.fr (D.int cell)), some (.fr (D.int many)), some (.ad 100), some (.fr (D.int zs0.2)), none, none], [(100, .fl ((zs0.1).map D.int))]⟩ : Nz.S)) (m_law_row_l0 cell) (([] : List Int), rest) (fun (zi0 : Nat) (zs0 : (List Int) × Int) => zs0.1.length ≤ zi0) (src_range1 (ea_cons (ev_var 1 rfl (.inl rfl) rfl) ea_nil) (by exact rfl) T.n_range (by walk_at "sd") (by walk_at "sd")) ⟨⟨.inr rfl, .inr rfl, .inr rfl, .inr rfl, .inl rfl, .inl rfl, trivial⟩, rfl⟩ (by simp) ?_ ?_ PassesOwn.never rfl)
  · intro zi0 zy0 zs0 zhy0 zq0
    skip
    have hi := (List.getElem?_eq_some_iff.mp zhy0).1
    simp only [List.length_range] at hi
    refine ⟨⟨[some (.fr (D.int cell)), some (.fr (D.int many)), some (.ad 100), some (.fr (D.int zs0.2)), some (.fr (D.int ((0 : Int) + (zy0 : Int)))), none], [(100, .fl ((zs0.1).map D.int))]⟩, (eg_name 4 nd rfl (.inl rfl)), ?_⟩
    refine exs_one (ex_ifP bd_d (et_cmp o_ge (ev_callB (ds := [D.int cell]) c_abs (ea_cons (ev_var 0 rfl (.inl rfl) rfl) ea_nil) (by exact rfl) T.n_abs (by decide +kernel)) (ev_bin (o_pow (by unfold CPow; decide)) ev_int ev_int) (nomark _)) (fun (zh1 : (((10 : Int) ^ ((18 : Int)).toNat) ≤ (if cell < 0 then -cell else cell))) => ?_) (fun (zh1 : ¬ (((10 : Int) ^ ((18 : Int)).toNat) ≤ (if cell < 0 then -cell else cell))) => ?_))
    · skip
      refine exs_cons (ex_expr (ev_appendT (n := 100) (enc := D.int) (xs := zs0.1) (xs0 := zs0.1) (zs0.2 % (1009 : Int)) rfl rfl rfl (by walk_at "sd") (ev_var 2 rfl (.inl rfl) rfl) (ev_bin (o_mod (by walk_at "sd")) (ev_callTy (ds := [D.int zs0.2]) c_int (ea_cons (ev_var 3 rfl (.inl rfl) rfl) ea_nil) (by exact rfl) T.n_int (by decide +kernel)) ev_int)) ?_)
      show Exs _ _ _ ⟨[some (.fr (D.int cell)), some (.fr (D.int many)), some (.ad 100), some (.fr (D.int zs0.2)), some (.fr (D.int ((0 : Int) + (zy0 : Int)))), none], [(100, .fl (((zs0.1 ++ [(zs0.2 % (1009 : Int))])).map D.int))]⟩ _
      refine exs_one (ex_set 3 (ev_bin (o_div (by walk_at "sd") (by walk_at "sd")) (ev_var 3 rfl (.inl rfl) rfl) ev_int) ?_ nd rfl (.inl rfl))
      have est : (m_law_row_l0 cell) zs0 zy0 = ((zs0.1 ++ [(zs0.2 % (1009 : Int))]), (zs0.2 / (1009 : Int))) := by simp only [m_law_row_l0, not_true_eq_false, not_false_eq_true, ↓reduceIte, ↓if_pos zh1]
      show Le _ _ ∧ _
      try rw [est]
      exact ⟨⟨⟨.inr rfl, .inr rfl, .inr rfl, .inr rfl, .inl rfl, .inl rfl, trivial⟩, rfl⟩, (by simp; omega)⟩
    · skip
      refine exs_cons (ex_set 5 (ev_bin (o_mod (by walk_at "sd")) (ev_callTy (ds := [D.int ((zs0.2 * (48271 : Int)) + ((((0 : Int) + (zy0 : Int)) + (1 : Int)) * (69621 : Int)))]) c_int (ea_cons (ev_bin o_add (ev_bin (o_mul (by walk_at "mul")) (ev_var 3 rfl (.inl rfl) rfl) ev_int) (ev_bin (o_mul (by walk_at "mul")) (ev_bin o_add (ev_var 4 rfl (.inl rfl) rfl) ev_int) ev_int)) ea_nil) (by exact rfl) T.n_int (by decide +kernel)) ev_int) ?_ nd rfl (.inl rfl))
      show Exs _ _ _ ⟨[some (.fr (D.int cell)), some (.fr (D.int many)), some (.ad 100), some (.fr (D.int zs0.2)), some (.fr (D.int ((0 : Int) + (zy0 : Int)))), some (.fr (D.int (((zs0.2 * (48271 : Int)) + ((((0 : Int) + (zy0 : Int)) + (1 : Int)) * (69621 : Int))) % (2147483647 : Int))))], [(100, .fl ((zs0.1).map D.int))]⟩ _
      generalize zg_mixed : (((zs0.2 * (48271 : Int)) + ((((0 : Int) + (zy0 : Int)) + (1 : Int)) * (69621 : Int))) % (2147483647 : Int)) = mixed
      show Exs _ _ _ ⟨[some (.fr (D.int cell)), some (.fr (D.int many)), some (.ad 100), some (.fr (D.int zs0.2)), some (.fr (D.int ((0 : Int) + (zy0 : Int)))), some (.fr (D.int mixed))], [(100, .fl ((zs0.1).map D.int))]⟩ _
      refine exs_cons (ex_set 5 (ev_bin (o_mod (by walk_at "sd")) (ev_callTy (ds := [D.int ((mixed * (16807 : Int)) + ((271 : Int) * (((0 : Int) + (zy0 : Int)) + (3 : Int))))]) c_int (ea_cons (ev_bin o_add (ev_bin (o_mul (by walk_at "mul")) (ev_var 5 rfl (.inl rfl) rfl) ev_int) (ev_bin (o_mul (by walk_at "mul")) ev_int (ev_bin o_add (ev_var 4 rfl (.inl rfl) rfl) ev_int))) ea_nil) (by exact rfl) T.n_int (by decide +kernel)) ev_int) ?_ nd rfl (.inl rfl))
      show Exs _ _ _ ⟨[some (.fr (D.int cell)), some (.fr (D.int many)), some (.ad 100), some (.fr (D.int zs0.2)), some (.fr (D.int ((0 : Int) + (zy0 : Int)))), some (.fr (D.int (((mixed * (16807 : Int)) + ((271 : Int) * (((0 : Int) + (zy0 : Int)) + (3 : Int)))) % (2147483629 : Int))))], [(100, .fl ((zs0.1).map D.int))]⟩ _
      generalize zg_mixed1 : (((mixed * (16807 : Int)) + ((271 : Int) * (((0 : Int) + (zy0 : Int)) + (3 : Int)))) % (2147483629 : Int)) = mixed1
      show Exs _ _ _ ⟨[some (.fr (D.int cell)), some (.fr (D.int many)), some (.ad 100), some (.fr (D.int zs0.2)), some (.fr (D.int ((0 : Int) + (zy0 : Int)))), some (.fr (D.int mixed1))], [(100, .fl ((zs0.1).map D.int))]⟩ _
      refine exs_one (ex_expr (ev_appendT (n := 100) (enc := D.int) (xs := zs0.1) (xs0 := zs0.1) (mixed1 % (1009 : Int)) rfl rfl rfl (by walk_at "sd") (ev_var 2 rfl (.inl rfl) rfl) (ev_bin (o_mod (by walk_at "sd")) (ev_callTy (ds := [D.int mixed1]) c_int (ea_cons (ev_var 5 rfl (.inl rfl) rfl) ea_nil) (by exact rfl) T.n_int (by decide +kernel)) ev_int)) ?_)
      have est : (m_law_row_l0 cell) zs0 zy0 = ((zs0.1 ++ [(mixed1 % (1009 : Int))]), zs0.2) := by subst zg_mixed1; subst zg_mixed; simp only [m_law_row_l0, not_true_eq_false, not_false_eq_true, ↓reduceIte, ↓if_neg zh1]
      show Le _ _ ∧ _
      try rw [est]
      exact ⟨⟨⟨.inr rfl, .inr rfl, .inr rfl, .inr rfl, .inl rfl, .inl rfl, trivial⟩, rfl⟩, (by simp; omega)⟩
  · intro zq0
    show Exs _ _ _ ⟨[some (.fr (D.int cell)), some (.fr (D.int many)), some (.ad 100), some (.fr (D.int (((List.range (many).toNat).foldl (m_law_row_l0 cell) (([] : List Int), rest)).2))), none, none], [(100, .fl ((((List.range (many).toNat).foldl (m_law_row_l0 cell) (([] : List Int), rest)).1).map D.int))]⟩ _
    refine exs_freezeT 100 (xs := ((List.range (many).toNat).foldl (m_law_row_l0 cell) (([] : List Int), rest)).1) (enc := D.int) (by exact rfl) ?_
    show Exs _ _ _ ⟨[some (.fr (D.int cell)), some (.fr (D.int many)), some (.fr ((eL D.int) (((List.range (many).toNat).foldl (m_law_row_l0 cell) (([] : List Int), rest)).1))), some (.fr (D.int (((List.range (many).toNat).foldl (m_law_row_l0 cell) (([] : List Int), rest)).2))), none, none], []⟩ _
    refine exs_one (ex_ret (ev_var 2 rfl (.inl rfl) rfl) ?_)
    have efin : m_law_row cell many = ((List.range (many).toNat).foldl (m_law_row_l0 cell) (([] : List Int), rest)).1 := by subst zg_rest; simp only [m_law_row, not_true_eq_false, not_false_eq_true, ↓reduceIte]
    rw [efin] at zk
    exact zk _
def m_law_numbers_l1 (zs1 : (List Int)) (zy1 : Int) : (List Int) :=
  (zs1 ++ [zy1])
def m_law_numbers_l0 (each : Int) (zs0 : (List Int)) (zy0 : Int) : (List Int) :=
  ((m_law_row zy0 each).foldl (m_law_numbers_l1) zs0)
def m_law_numbers_c2 (many : Int) (zs0 : (List Int)) : Bool := (decide ((zs0.length : Int) < many))
def m_law_numbers_w2 (many : Int) (zs0 : (List Int)) : (List Int) :=
  (zs0 ++ [(0 : Int)])
def m_law_numbers (script : List Int) (many : Int) : List Int :=
  let cells1 : List Int := (slcD script none (some (63 : Int)))
  let each1 : Int := ((1 : Int) + (many / (if (cells1.length : Int) > (1 : Int) then (cells1.length : Int) else (1 : Int))))
  (slcD (iterW (m_law_numbers_c2 many) (m_law_numbers_w2 many) ((many).toNat) (cells1.foldl (m_law_numbers_l0 each1) ([] : List Int))) none (some many))
theorem cut63_len (xs : List Int) : (slcD xs none (some (63 : Int))).length ≤ 63 := by
  unfold slcD
  rw [List.length_take, HT.sIx_none, show (63 : Int) = ((63 : Nat) : Int) from rfl, HT.sIx_nat]
  omega
theorem fold_app (xs s : List Int) : xs.foldl m_law_numbers_l1 s = s ++ xs := by
  induction xs generalizing s with
  | nil => simp
  | cons x r ih => rw [List.foldl_cons, ih]; unfold m_law_numbers_l1; simp
theorem fill_eq (many : Int) : ∀ (n : Nat) (s : List Int), (many - (s.length : Int)).toNat ≤ n → iterW (m_law_numbers_c2 many) (m_law_numbers_w2 many) n s = s ++ List.replicate (many - (s.length : Int)).toNat 0
  | 0, s, h => by
    have e : (many - (s.length : Int)).toNat = 0 := by omega
    rw [e]; simp [iterW]
  | n + 1, s, h => by
    unfold iterW
    by_cases hc : (s.length : Int) < many
    · have e : (many - (s.length : Int)).toNat = (many - ((s ++ [(0 : Int)]).length : Int)).toNat + 1 := by
        simp only [List.length_append, List.length_cons, List.length_nil]; omega
      rw [if_pos (by simpa [m_law_numbers_c2] using hc)]
      show iterW _ _ n (s ++ [(0 : Int)]) = _
      rw [fill_eq many n _ (by simp only [List.length_append, List.length_cons, List.length_nil] at e ⊢; omega), e, List.replicate_succ, List.append_assoc]
      rfl
    · have e : (many - (s.length : Int)).toNat = 0 := by omega
      rw [if_neg (by simpa [m_law_numbers_c2] using hc), e]; simp
theorem numbers_facts (script : List Int) (many : Int) (h0 : 0 ≤ many) : (m_law_numbers script many).length = many.toNat ∧ ∀ x ∈ m_law_numbers script many, 0 ≤ x ∧ x ≤ 1008 := by
  have key : ∀ (each : Int) (xs s : List Int), (∀ x ∈ s, 0 ≤ x ∧ x ≤ 1008) → ∀ x ∈ xs.foldl (m_law_numbers_l0 each) s, 0 ≤ x ∧ x ≤ 1008 := by
    intro each xs
    induction xs with
    | nil => intro s h; exact h
    | cons y r ih =>
      intro s h
      rw [List.foldl_cons]
      refine ih _ fun x hx => ?_
      unfold m_law_numbers_l0 at hx
      rw [fold_app] at hx
      rcases List.mem_append.mp hx with hx | hx
      · exact h x hx
      · exact mem_row _ _ x hx
  unfold m_law_numbers
  dsimp only
  generalize hS : (slcD script none (some (63 : Int))).foldl _ _ = S
  have hm : ∀ x ∈ S, 0 ≤ x ∧ x ≤ 1008 := by rw [← hS]; exact key _ _ _ (fun x hx => absurd hx (by simp))
  rw [fill_eq many _ S (by omega)]
  unfold slcD
  rw [HT.sIx_none, List.drop_zero]
  have hl : (S ++ List.replicate (many - (S.length : Int)).toNat (0 : Int)).length = S.length + (many - (S.length : Int)).toNat := by simp
  have e1 : HT.sIx (S ++ List.replicate (many - (S.length : Int)).toNat (0 : Int)).length (S ++ List.replicate (many - (S.length : Int)).toNat (0 : Int)).length (some many) = many.toNat := by
    obtain ⟨n, rfl⟩ := Int.eq_ofNat_of_zero_le h0
    rw [HT.sIx_nat, hl]
    omega
  rw [e1]
  refine ⟨by rw [List.length_take, hl]; omega, fun x hx => ?_⟩
  have hx := List.mem_of_mem_take hx
  rcases List.mem_append.mp hx with hx | hx
  · exact hm x hx
  · rw [(List.mem_replicate.mp hx).2]; omega
theorem getD_bound {xs : List Int} (h : ∀ x ∈ xs, 0 ≤ x ∧ x ≤ 1008) (i : Nat) : 0 ≤ xs.getD i default ∧ xs.getD i default ≤ 1008 := by
  rw [List.getD_eq_getElem?_getD]
  cases e : xs[i]? with
  | none => exact ⟨Int.le_refl _, by decide⟩
  | some v => exact h v (List.mem_of_getElem? e)
theorem sc_law_numbers : FnScope ["script", "many", "cells", "each", "numbers", "cell", "number"] ["script", "many"] (defScope s_law_numbers) := ⟨rfl, rfl, rfl, by decide +kernel, rfl, by decide +kernel, by decide +kernel⟩
def sp_law_numbers : SpN := fun zcs zL zKc => ∃ script : List Int, ∃ many : Int, zcs = [.fr ((eL D.int) script), .fr (D.int many)] ∧ zL = [] ∧ (script.length ≤ 63 ∧ 0 ≤ many ∧ many ≤ 1000) ∧ ∀ zL', zKc (.fr ((eL D.int) (m_law_numbers script many))) zL'
theorem ok_law_numbers (T : TX P K mg) : FnOk P w K mg base CX0 2 T.a_law_numbers T.d_law_numbers ["script", "many"] (SpOf K mg sp_law_numbers) := by
  have O_law_row := ok_law_row (P := P) (w := w) (base := base) T
  refine T.F_law_numbers.okN sc_law_numbers (fun zcs zL zKc zh => by obtain ⟨script, many, rfl, _⟩ := zh; rfl) fun zcdv zA zout zst zH zE zB zcs zL zKc zhr zh => ?_
  obtain ⟨script, many, rfl, rfl, hpre, zk⟩ := zh
  have nd := sc_law_numbers.nd
  have hSL := sizeLine_eq
  show Exs _ _ _ ⟨[some (.fr ((eL D.int) script)), some (.fr (D.int many)), none, none, none, none, none], []⟩ _
  refine exs_cons (ex_set 2 (ev_sliceT (enc := D.int) (xs := script) (by exact rfl) (ev_var 0 rfl (.inl rfl) rfl) eo_none (eo_some ev_int)) ?_ nd rfl (.inl rfl))
  show Exs _ _ _ ⟨[some (.fr ((eL D.int) script)), some (.fr (D.int many)), some (.fr ((eL D.int) (slcD script none (some (63 : Int))))), none, none, none, none], []⟩ _
  generalize zg_cells : (slcD script none (some (63 : Int))) = cells
  show Exs _ _ _ ⟨[some (.fr ((eL D.int) script)), some (.fr (D.int many)), some (.fr ((eL D.int) cells)), none, none, none, none], []⟩ _
  have hcl : cells.length ≤ 63 := by rw [← zg_cells]; exact cut63_len script
  refine exs_cons (ex_set 3 (ev_bin o_add ev_int (ev_bin (o_div (by walk_at "sd") (by walk_at "sd")) (ev_var 1 rfl (.inl rfl) rfl) (ev_callB (ds := [D.int (1 : Int), D.int (cells.length : Int)]) (c_max2 rfl) (ea_cons ev_int (ea_cons (ev_len (ln_L (xs := cells) (enc := D.int) (by exact rfl)) (ev_var 2 rfl (.inl rfl) rfl) (by exact rfl) T.n_len) ea_nil)) (by exact rfl) T.n_max (by decide +kernel)))) ?_ nd rfl (.inl rfl))
  show Exs _ _ _ ⟨[some (.fr ((eL D.int) script)), some (.fr (D.int many)), some (.fr ((eL D.int) cells)), some (.fr (D.int ((1 : Int) + (many / (if (cells.length : Int) > (1 : Int) then (cells.length : Int) else (1 : Int)))))), none, none, none], []⟩ _
  generalize zg_each : ((1 : Int) + (many / (if (cells.length : Int) > (1 : Int) then (cells.length : Int) else (1 : Int)))) = each
  show Exs _ _ _ ⟨[some (.fr ((eL D.int) script)), some (.fr (D.int many)), some (.fr ((eL D.int) cells)), some (.fr (D.int each)), none, none, none], []⟩ _
  have heach : 1 ≤ each ∧ each ≤ 1001 := by rw [← zg_each]; split <;> (constructor <;> first | omega | (have := Int.ediv_le_self (cells.length : Int) hpre.2.1; have := Int.ediv_nonneg hpre.2.1 (show (0:Int) ≤ (cells.length : Int) by omega); omega))
  refine exs_cons (ex_set 4 (ev_lstN 100 (enc := D.int) ([] : List Int) ea_nil rfl (by simp only [List.length_cons, List.length_nil]; decide) (by simp [names]) (by decide)) ?_ nd rfl (.inl rfl))
  show Exs _ _ _ ⟨[some (.fr ((eL D.int) script)), some (.fr (D.int many)), some (.fr ((eL D.int) cells)), some (.fr (D.int each)), some (.ad 100), none, none], [(100, .fl ((([] : List Int)).map D.int))]⟩ _
  refine exs_cons (ex_forF (enc := D.int) (fun (zs0 : (List Int)) => (⟨[some (.fr ((eL D.int) script)), some (.fr (D.int many)), some (.fr ((eL D.int) cells)), some (.fr (D.int each)), some (.ad 100), none, none], [(100, .fl ((zs0).map D.int))]⟩ : Nz.S)) (m_law_numbers_l0 each) ([] : List Int) (fun (zi0 : Nat) (zs0 : (List Int)) => zs0.length ≤ 1001 * zi0) (src_listT (ev_var 2 rfl (.inl rfl) rfl)) ⟨⟨.inr rfl, .inr rfl, .inr rfl, .inr rfl, .inr rfl, .inl rfl, .inl rfl, trivial⟩, rfl⟩ (by simp) ?_ ?_ PassesOwn.never rfl)
  · intro zi0 zy0 zs0 zhy0 zq0
    skip
    have hi := (List.getElem?_eq_some_iff.mp zhy0).1
    have hrl := len_row zy0 each
    refine ⟨⟨[some (.fr ((eL D.int) script)), some (.fr (D.int many)), some (.fr ((eL D.int) cells)), some (.fr (D.int each)), some (.ad 100), some (.fr (D.int zy0)), none], [(100, .fl ((zs0).map D.int))]⟩, (eg_name 5 nd rfl (.inl rfl)), ?_⟩
    refine exs_one (ex_forF (enc := D.int) (fun (zs1 : (List Int)) => (⟨[some (.fr ((eL D.int) script)), some (.fr (D.int many)), some (.fr ((eL D.int) cells)), some (.fr (D.int each)), some (.ad 100), some (.fr (D.int zy0)), none], [(100, .fl ((zs1).map D.int))]⟩ : Nz.S)) (m_law_numbers_l1) zs0 (fun (zi1 : Nat) (zs1 : (List Int)) => zs1.length ≤ 1001 * zi0 + zi1) (src_listT (ev_call (ds := [D.int zy0, D.int each]) (ds' := []) (dvs := []) (dfs := []) O_law_row (zhr.mono (by decide)) T.m_law_row T.k_law_row T.b_law_row .nil (fun _ => .nil) (ea_cons (ev_var 5 rfl (.inl rfl) rfl) (ea_cons (ev_var 3 rfl (.inl rfl) rfl) ea_nil)) (fun _ zkk => ⟨zy0, each, rfl, rfl, (by walk_at "pre"), zkk⟩) (by exact rfl))) ⟨⟨.inr rfl, .inr rfl, .inr rfl, .inr rfl, .inr rfl, .inr rfl, .inl rfl, trivial⟩, rfl⟩ (by omega) ?_ ?_ PassesOwn.never rfl)
    · intro zi1 zy1 zs1 zhy1 zq1
      skip
      have hi1 := (List.getElem?_eq_some_iff.mp zhy1).1
      refine ⟨⟨[some (.fr ((eL D.int) script)), some (.fr (D.int many)), some (.fr ((eL D.int) cells)), some (.fr (D.int each)), some (.ad 100), some (.fr (D.int zy0)), some (.fr (D.int zy1))], [(100, .fl ((zs1).map D.int))]⟩, (eg_name 6 nd rfl (.inl rfl)), ?_⟩
      refine exs_one (ex_expr (ev_appendT (n := 100) (enc := D.int) (xs := zs1) (xs0 := zs1) zy1 rfl rfl rfl (by walk_at "sd") (ev_var 4 rfl (.inl rfl) rfl) (ev_var 6 rfl (.inl rfl) rfl)) ?_)
      have est : (m_law_numbers_l1) zs1 zy1 = (zs1 ++ [zy1]) := by simp only [m_law_numbers_l1, not_true_eq_false, not_false_eq_true, ↓reduceIte]
      show Le _ _ ∧ _
      try rw [est]
      exact ⟨⟨⟨.inr rfl, .inr rfl, .inr rfl, .inr rfl, .inr rfl, .inr rfl, .inl rfl, trivial⟩, rfl⟩, (by simp; omega)⟩
    · intro zq1
      have est : (m_law_numbers_l0 each) zs0 zy0 = ((m_law_row zy0 each).foldl (m_law_numbers_l1) zs0) := by simp only [m_law_numbers_l0, not_true_eq_false, not_false_eq_true, ↓reduceIte]
      show Le _ _ ∧ _
      try rw [est]
      exact ⟨⟨⟨.inr rfl, .inr rfl, .inr rfl, .inr rfl, .inr rfl, .inl rfl, .inl rfl, trivial⟩, rfl⟩, (by omega)⟩
  · intro zq0
    show Exs _ _ _ ⟨[some (.fr ((eL D.int) script)), some (.fr (D.int many)), some (.fr ((eL D.int) cells)), some (.fr (D.int each)), some (.ad 100), none, none], [(100, .fl (((cells.foldl (m_law_numbers_l0 each) ([] : List Int))).map D.int))]⟩ _
    refine exs_cons (ex_whileF (fun (zs0 : (List Int)) => (⟨[some (.fr ((eL D.int) script)), some (.fr (D.int many)), some (.fr ((eL D.int) cells)), some (.fr (D.int each)), some (.ad 100), none, none], [(100, .fl ((zs0).map D.int))]⟩ : Nz.S)) (m_law_numbers_c2 many) (m_law_numbers_w2 many) (cells.foldl (m_law_numbers_l0 each) ([] : List Int)) ((many).toNat) (fun (zs0 : (List Int)) => zs0.length ≤ 100000) (fun (zs0 : (List Int)) => (many - (zs0.length : Int)).toNat) ⟨⟨.inr rfl, .inr rfl, .inr rfl, .inr rfl, .inr rfl, .inl rfl, .inl rfl, trivial⟩, rfl⟩ (by omega) (by walk_at "sd") ?_ ?_ ?_ ?_ PassesOwn.never)
    · intro zs0 zq0 zhc0
      simp only [m_law_numbers_c2, decide_eq_true_eq] at zhc0
      simp only [m_law_numbers_w2, List.length_append, List.length_cons, List.length_nil]
      exact ⟨by omega, by omega⟩
    · intro zs0 zq0
      exact (et_cmp o_lt (ev_len (ln_L (xs := zs0) (enc := D.int) (by exact rfl)) (ev_var 4 rfl (.inl rfl) rfl) (by exact rfl) T.n_len) (ev_var 1 rfl (.inl rfl) rfl) (nomark _))
    · intro zs0 zq0 zhc0
      simp only [m_law_numbers_c2, decide_eq_true_eq] at zhc0
      show Exs _ _ _ ⟨[some (.fr ((eL D.int) script)), some (.fr (D.int many)), some (.fr ((eL D.int) cells)), some (.fr (D.int each)), some (.ad 100), none, none], [(100, .fl ((zs0).map D.int))]⟩ _
      refine exs_one (ex_expr (ev_appendT (n := 100) (enc := D.int) (xs := zs0) (xs0 := zs0) (0 : Int) rfl rfl rfl (by walk_at "sd") (ev_var 4 rfl (.inl rfl) rfl) ev_int) ?_)
      have est : (m_law_numbers_w2 many) zs0 = (zs0 ++ [(0 : Int)]) := by simp only [m_law_numbers_w2, ↓reduceIte]
      show Le _ _ ∧ _
      rw [est]
      exact ⟨⟨⟨.inr rfl, .inr rfl, .inr rfl, .inr rfl, .inr rfl, .inl rfl, .inl rfl, trivial⟩, rfl⟩, trivial⟩
    · intro zq0 zhc0
      show Exs _ _ _ ⟨[some (.fr ((eL D.int) script)), some (.fr (D.int many)), some (.fr ((eL D.int) cells)), some (.fr (D.int each)), some (.ad 100), none, none], [(100, .fl (((iterW (m_law_numbers_c2 many) (m_law_numbers_w2 many) ((many).toNat) (cells.foldl (m_law_numbers_l0 each) ([] : List Int)))).map D.int))]⟩ _
      refine exs_one (ex_ret (ev_sliceT (enc := D.int) (xs := (iterW (m_law_numbers_c2 many) (m_law_numbers_w2 many) ((many).toNat) (cells.foldl (m_law_numbers_l0 each) ([] : List Int)))) (by exact rfl) (ev_var 4 rfl (.inl rfl) rfl) eo_none (eo_some (ev_var 1 rfl (.inl rfl) rfl))) ?_)
      have efin : m_law_numbers script many = (slcD (iterW (m_law_numbers_c2 many) (m_law_numbers_w2 many) ((many).toNat) (cells.foldl (m_law_numbers_l0 each) ([] : List Int))) none (some many)) := by subst zg_each; subst zg_cells; simp only [m_law_numbers, not_true_eq_false, not_false_eq_true, ↓reduceIte]
      rw [efin] at zk
      exact zk _
def m_is_integer (value : Int) (low : Int) (high : Int) : Bool :=
  (true && ((!false) && ((decide (low ≤ value)) && (decide (value ≤ high)))))
theorem sc_is_integer : FnScope ["value", "low", "high"] ["value", "low", "high"] (defScope s_is_integer) := ⟨rfl, rfl, rfl, by decide +kernel, rfl, by decide +kernel, by decide +kernel⟩
def sp_is_integer : SpN := fun zcs zL zKc => ∃ value : Int, ∃ low : Int, ∃ high : Int, zcs = [.fr (D.int value), .fr (D.int low), .fr (D.int high)] ∧ zL = [] ∧ (True) ∧ ∀ zL', zKc (.fr (D.bl (m_is_integer value low high))) zL'
theorem ok_is_integer (T : TX P K mg) : FnOk P w K mg base CX0 1 T.a_is_integer T.d_is_integer ["value", "low", "high"] (SpOf K mg sp_is_integer) := by
  refine T.F_is_integer.okN sc_is_integer (fun zcs zL zKc zh => by obtain ⟨value, low, high, rfl, _⟩ := zh; rfl) fun zcdv zA zout zst zH zE zB zcs zL zKc zhr zh => ?_
  obtain ⟨value, low, high, rfl, rfl, hpre, zk⟩ := zh
  have nd := sc_is_integer.nd
  have hSL := sizeLine_eq
  show Exs _ _ _ ⟨[some (.fr (D.int value)), some (.fr (D.int low)), some (.fr (D.int high))], []⟩ _
  refine exs_one (ex_ret (ev_andP Iff.rfl (ev_isi (T := "int") (b := true) (ev_var 0 rfl (.inl rfl) rfl) rfl (by decide) (by exact rfl) T.n_isinstance (by exact rfl) T.n_int (by decide +kernel)) (fun zhp => (ev_andP (bd_not Iff.rfl) (ev_not (ev_isi (T := "bool") (b := false) (ev_var 0 rfl (.inl rfl) rfl) rfl (by decide) (by exact rfl) T.n_isinstance (by exact rfl) T.n_bool (by decide +kernel))) (fun zhp => (ev_one (ev_chain bd_d o_le o_le (ev_var 1 rfl (.inl rfl) rfl) (ev_var 0 rfl (.inl rfl) rfl) (fun zhp => (ev_var 2 rfl (.inl rfl) rfl)))))))) ?_)
  have efin : m_is_integer value low high = (true && ((!false) && ((decide (low ≤ value)) && (decide (value ≤ high))))) := by simp only [m_is_integer, not_true_eq_false, not_false_eq_true, ↓reduceIte]
  rw [efin] at zk
  exact zk _
def m_is_name (value : Str) : Bool :=
  if ((¬ (true = true)) ∨ (¬ (((1 : Int) ≤ (value.length : Int)) ∧ ((value.length : Int) ≤ (12 : Int))))) then false else (((chs value).map (fun zc2 : Str => (inS zc2 (Str.ofString "abcdefghijklmnopqrstuvwxyz0123456789")))).all fun b => b)
theorem chs_len (z : Str) : (chs z).length = z.length := by unfold chs; rw [List.length_map, Array.length_toList]; rfl
theorem sc_is_name : FnScope ["value", "character"] ["value"] (defScope s_is_name) := ⟨rfl, rfl, rfl, by decide +kernel, rfl, by decide +kernel, by decide +kernel⟩
def sp_is_name : SpN := fun zcs zL zKc => ∃ value : Str, zcs = [.fr (D.str value)] ∧ zL = [] ∧ (value.length ≤ 1000) ∧ ∀ zL', zKc (.fr (D.bl (m_is_name value))) zL'
theorem ok_is_name (T : TX P K mg) : FnOk P w K mg base CX0 1 T.a_is_name T.d_is_name ["value"] (SpOf K mg sp_is_name) := by
  refine T.F_is_name.okN sc_is_name (fun zcs zL zKc zh => by obtain ⟨value, rfl, _⟩ := zh; rfl) fun zcdv zA zout zst zH zE zB zcs zL zKc zhr zh => ?_
  obtain ⟨value, rfl, rfl, hpre, zk⟩ := zh
  have nd := sc_is_name.nd
  have hSL := sizeLine_eq
  have hch := chs_len value
  show Exs _ _ _ ⟨[some (.fr (D.str value)), none], []⟩ _
  refine exs_cons (ex_ifP (bd_or (bd_not Iff.rfl) (bd_not (bd_and bd_d bd_d))) (Ew.et (ew_orP (bd_not Iff.rfl) (et_not (et_val (ev_isi (T := "str") (b := true) (ev_var 0 rfl (.inl rfl) rfl) rfl (by decide) (by exact rfl) T.n_isinstance (by exact rfl) T.n_str (by decide +kernel)))) (fun zhp => (ew_or1 (et_not (et_chain bd_d o_le o_le ev_int (ev_len (.s (by walk_at "sd")) (ev_var 0 rfl (.inl rfl) rfl) (by exact rfl) T.n_len) (fun zhp => (ev_gi rfl T.c_LONGEST_NAME)))))))) (fun (zh1 : ((¬ (true = true)) ∨ (¬ (((1 : Int) ≤ (value.length : Int)) ∧ ((value.length : Int) ≤ (12 : Int)))))) => ?_) (fun (zh1 : ¬ ((¬ (true = true)) ∨ (¬ (((1 : Int) ≤ (value.length : Int)) ∧ ((value.length : Int) ≤ (12 : Int)))))) => ?_))
  · skip
    refine exs_one (ex_ret ev_bl ?_)
    have efin : m_is_name value = false := by simp only [m_is_name, not_true_eq_false, not_false_eq_true, ↓reduceIte, ↓if_pos zh1]
    rw [efin] at zk
    exact zk _
  · skip
    refine exs_nil ?_
    show Exs _ _ _ ⟨[some (.fr (D.str value)), none], []⟩ _
    refine exs_one (ex_ret (ev_callB (ds := [(eL D.bl) ((chs value).map (fun zc1 : Str => (inS zc1 (Str.ofString "abcdefghijklmnopqrstuvwxyz0123456789"))))]) (c_all (bs := ((chs value).map (fun zc1 : Str => (inS zc1 (Str.ofString "abcdefghijklmnopqrstuvwxyz0123456789"))))) rfl) (ea_cons (ev_lcM (enc2 := D.bl) 199 (fun zc1 : Str => (inS zc1 (Str.ofString "abcdefghijklmnopqrstuvwxyz0123456789"))) _ rfl nd (blkOk_by (N := ["value", "character"]) (sc := defScope s_is_name) (own := [(("character" : Str), 1)]) (by decide +kernel)) (src_str (ev_var 0 rfl (.inl rfl) rfl)) (by simp [names]) (by decide) (by walk_at "sd") (fun _ zc1 _ zhyzc1 _ _ _ _ _ => (eg_nameC 1 nd rfl (.inl rfl) (by decide) (.inr rfl))) (fun _ zc1 _ zhyzc1 _ _ _ _ _ => (ev_cmp o_inS (ev_var 1 rfl (.inl rfl) rfl) (ev_gs rfl T.c_NAME_CHARACTERS) (by rfl)))) ea_nil) (by exact rfl) T.n_all (by decide +kernel)) ?_)
    have efin : m_is_name value = (((chs value).map (fun zc1 : Str => (inS zc1 (Str.ofString "abcdefghijklmnopqrstuvwxyz0123456789")))).all fun b => b) := by simp only [m_is_name, not_true_eq_false, not_false_eq_true, ↓reduceIte, ↓if_neg zh1]
    rw [efin] at zk
    exact zk _
def m_is_kind (value : Str × Int × Int) : Bool :=
  if ((¬ (true = true)) ∨ (¬ ((3 : Int) = (3 : Int)))) then false else ((m_is_name value.1) && ((m_is_integer value.2.1 (1 : Int) (1000 : Int)) && (m_is_integer value.2.2 (1 : Int) (1000 : Int))))
theorem sc_is_kind : FnScope ["value", "name", "cost", "deadline"] ["value"] (defScope s_is_kind) := ⟨rfl, rfl, rfl, by decide +kernel, rfl, by decide +kernel, by decide +kernel⟩
def sp_is_kind : SpN := fun zcs zL zKc => ∃ value : Str × Int × Int, zcs = [.fr ((eT3 D.str D.int D.int) value)] ∧ zL = [] ∧ (value.1.length ≤ 1000) ∧ ∀ zL', zKc (.fr (D.bl (m_is_kind value))) zL'
theorem ok_is_kind (T : TX P K mg) : FnOk P w K mg base CX0 2 T.a_is_kind T.d_is_kind ["value"] (SpOf K mg sp_is_kind) := by
  have O_is_integer := ok_is_integer (P := P) (w := w) (base := base) T
  have O_is_name := ok_is_name (P := P) (w := w) (base := base) T
  refine T.F_is_kind.okN sc_is_kind (fun zcs zL zKc zh => by obtain ⟨value, rfl, _⟩ := zh; rfl) fun zcdv zA zout zst zH zE zB zcs zL zKc zhr zh => ?_
  obtain ⟨value, rfl, rfl, hpre, zk⟩ := zh
  have nd := sc_is_kind.nd
  have hSL := sizeLine_eq
  show Exs _ _ _ ⟨[some (.fr ((eT3 D.str D.int D.int) value)), none, none, none], []⟩ _
  refine exs_cons (ex_ifP (bd_or (bd_not Iff.rfl) bd_n) (Ew.et (ew_orP (bd_not Iff.rfl) (et_not (et_val (ev_isi (T := "tuple") (b := true) (ev_var 0 rfl (.inl rfl) rfl) rfl (by decide) (by exact rfl) T.n_isinstance (by exact rfl) T.n_tuple (by decide +kernel)))) (fun zhp => (ew_or1 (et_cmp o_nei (ev_len .t (ev_var 0 rfl (.inl rfl) rfl) (by exact rfl) T.n_len) ev_int (nomark _)))))) (fun (zh1 : ((¬ (true = true)) ∨ (¬ ((3 : Int) = (3 : Int))))) => ?_) (fun (zh1 : ¬ ((¬ (true = true)) ∨ (¬ ((3 : Int) = (3 : Int))))) => ?_))
  · skip
    refine exs_one (ex_ret ev_bl ?_)
    have efin : m_is_kind value = false := by simp only [m_is_kind, not_true_eq_false, not_false_eq_true, ↓reduceIte, ↓if_pos zh1]
    rw [efin] at zk
    exact zk _
  · skip
    refine exs_nil ?_
    show Exs _ _ _ ⟨[some (.fr ((eT3 D.str D.int D.int) value)), none, none, none], []⟩ _
    refine exs_cons (ex_asg (ev_var 0 rfl (.inl rfl) rfl) (eg_tup rfl (egs_cons (eg_name 1 nd rfl (.inl rfl)) (egs_cons (eg_name 2 nd rfl (.inl rfl)) (egs_cons (eg_name 3 nd rfl (.inl rfl)) egs_nil)))) ?_)
    show Exs _ _ _ ⟨[some (.fr ((eT3 D.str D.int D.int) value)), some (.fr (D.str value.1)), some (.fr (D.int value.2.1)), some (.fr (D.int value.2.2))], []⟩ _
    refine exs_one (ex_ret (ev_andP Iff.rfl (ev_call (ds := [D.str value.1]) (ds' := []) (dvs := []) (dfs := []) O_is_name (zhr.mono (by decide)) T.m_is_name T.k_is_name T.b_is_name .nil (fun _ => .nil) (ea_cons (ev_var 1 rfl (.inl rfl) rfl) ea_nil) (fun _ zkk => ⟨value.1, rfl, rfl, (by walk_at "pre"), zkk⟩) (by exact rfl)) (fun zhp => (ev_andP Iff.rfl (ev_call (ds := [D.int value.2.1, D.int (1 : Int), D.int (1000 : Int)]) (ds' := []) (dvs := []) (dfs := []) O_is_integer (zhr.mono (by decide)) T.m_is_integer T.k_is_integer T.b_is_integer .nil (fun _ => .nil) (ea_cons (ev_var 2 rfl (.inl rfl) rfl) (ea_cons ev_int (ea_cons (ev_gi rfl T.c_MOST_UNITS) ea_nil))) (fun _ zkk => ⟨value.2.1, (1 : Int), (1000 : Int), rfl, rfl, trivial, zkk⟩) (by exact rfl)) (fun zhp => (ev_one (ev_call (ds := [D.int value.2.2, D.int (1 : Int), D.int (1000 : Int)]) (ds' := []) (dvs := []) (dfs := []) O_is_integer (zhr.mono (by decide)) T.m_is_integer T.k_is_integer T.b_is_integer .nil (fun _ => .nil) (ea_cons (ev_var 3 rfl (.inl rfl) rfl) (ea_cons ev_int (ea_cons (ev_gi rfl T.c_MOST_UNITS) ea_nil))) (fun _ zkk => ⟨value.2.2, (1 : Int), (1000 : Int), rfl, rfl, trivial, zkk⟩) (by exact rfl))))))) ?_)
    have efin : m_is_kind value = ((m_is_name value.1) && ((m_is_integer value.2.1 (1 : Int) (1000 : Int)) && (m_is_integer value.2.2 (1 : Int) (1000 : Int)))) := by simp only [m_is_kind, not_true_eq_false, not_false_eq_true, ↓reduceIte, ↓if_neg zh1]
    rw [efin] at zk
    exact zk _
def m_is_way (value : Str × Str × Int) (kind_names : List Str) : Bool :=
  if ((¬ (true = true)) ∨ (¬ ((3 : Int) = (3 : Int)))) then false else ((decide (value.1 ∈ kind_names)) && ((decide (value.2.1 ∈ kind_names)) && (m_is_integer value.2.2 (1 : Int) (1000 : Int))))
theorem sc_is_way : FnScope ["value", "kind_names", "source", "target", "distance"] ["value", "kind_names"] (defScope s_is_way) := ⟨rfl, rfl, rfl, by decide +kernel, rfl, by decide +kernel, by decide +kernel⟩
def sp_is_way : SpN := fun zcs zL zKc => ∃ value : Str × Str × Int, ∃ kind_names : List Str, zcs = [.fr ((eT3 D.str D.str D.int) value), .fr ((eL D.str) kind_names)] ∧ zL = [] ∧ (True) ∧ ∀ zL', zKc (.fr (D.bl (m_is_way value kind_names))) zL'
theorem ok_is_way (T : TX P K mg) : FnOk P w K mg base CX0 2 T.a_is_way T.d_is_way ["value", "kind_names"] (SpOf K mg sp_is_way) := by
  have O_is_integer := ok_is_integer (P := P) (w := w) (base := base) T
  refine T.F_is_way.okN sc_is_way (fun zcs zL zKc zh => by obtain ⟨value, kind_names, rfl, _⟩ := zh; rfl) fun zcdv zA zout zst zH zE zB zcs zL zKc zhr zh => ?_
  obtain ⟨value, kind_names, rfl, rfl, hpre, zk⟩ := zh
  have nd := sc_is_way.nd
  have hSL := sizeLine_eq
  show Exs _ _ _ ⟨[some (.fr ((eT3 D.str D.str D.int) value)), some (.fr ((eL D.str) kind_names)), none, none, none], []⟩ _
  refine exs_cons (ex_ifP (bd_or (bd_not Iff.rfl) bd_n) (Ew.et (ew_orP (bd_not Iff.rfl) (et_not (et_val (ev_isi (T := "tuple") (b := true) (ev_var 0 rfl (.inl rfl) rfl) rfl (by decide) (by exact rfl) T.n_isinstance (by exact rfl) T.n_tuple (by decide +kernel)))) (fun zhp => (ew_or1 (et_cmp o_nei (ev_len .t (ev_var 0 rfl (.inl rfl) rfl) (by exact rfl) T.n_len) ev_int (nomark _)))))) (fun (zh1 : ((¬ (true = true)) ∨ (¬ ((3 : Int) = (3 : Int))))) => ?_) (fun (zh1 : ¬ ((¬ (true = true)) ∨ (¬ ((3 : Int) = (3 : Int))))) => ?_))
  · skip
    refine exs_one (ex_ret ev_bl ?_)
    have efin : m_is_way value kind_names = false := by simp only [m_is_way, not_true_eq_false, not_false_eq_true, ↓reduceIte, ↓if_pos zh1]
    rw [efin] at zk
    exact zk _
  · skip
    refine exs_nil ?_
    show Exs _ _ _ ⟨[some (.fr ((eT3 D.str D.str D.int) value)), some (.fr ((eL D.str) kind_names)), none, none, none], []⟩ _
    refine exs_cons (ex_asg (ev_var 0 rfl (.inl rfl) rfl) (eg_tup rfl (egs_cons (eg_name 2 nd rfl (.inl rfl)) (egs_cons (eg_name 3 nd rfl (.inl rfl)) (egs_cons (eg_name 4 nd rfl (.inl rfl)) egs_nil)))) ?_)
    show Exs _ _ _ ⟨[some (.fr ((eT3 D.str D.str D.int) value)), some (.fr ((eL D.str) kind_names)), some (.fr (D.str value.1)), some (.fr (D.str value.2.1)), some (.fr (D.int value.2.2))], []⟩ _
    refine exs_one (ex_ret (ev_andP bd_d (ev_cmp (o_inL (e := D.str) (x := value.1) (ys := kind_names) zhr.units ee_str) (ev_var 2 rfl (.inl rfl) rfl) (ev_var 1 rfl (.inl rfl) rfl) (by rfl)) (fun zhp => (ev_andP bd_d (ev_cmp (o_inL (e := D.str) (x := value.2.1) (ys := kind_names) zhr.units ee_str) (ev_var 3 rfl (.inl rfl) rfl) (ev_var 1 rfl (.inl rfl) rfl) (by rfl)) (fun zhp => (ev_one (ev_call (ds := [D.int value.2.2, D.int (1 : Int), D.int (1000 : Int)]) (ds' := []) (dvs := []) (dfs := []) O_is_integer (zhr.mono (by decide)) T.m_is_integer T.k_is_integer T.b_is_integer .nil (fun _ => .nil) (ea_cons (ev_var 4 rfl (.inl rfl) rfl) (ea_cons ev_int (ea_cons (ev_gi rfl T.c_MOST_UNITS) ea_nil))) (fun _ zkk => ⟨value.2.2, (1 : Int), (1000 : Int), rfl, rfl, trivial, zkk⟩) (by exact rfl))))))) ?_)
    have efin : m_is_way value kind_names = ((decide (value.1 ∈ kind_names)) && ((decide (value.2.1 ∈ kind_names)) && (m_is_integer value.2.2 (1 : Int) (1000 : Int)))) := by simp only [m_is_way, not_true_eq_false, not_false_eq_true, ↓reduceIte, ↓if_neg zh1]
    rw [efin] at zk
    exact zk _
def m_are_different (names_ : List Str) : Bool :=
  (decide (((cntS names_ names_.length : Nat) : Int) = (names_.length : Int)))
theorem sc_are_different : FnScope ["names"] ["names"] (defScope s_are_different) := ⟨rfl, rfl, rfl, by decide +kernel, rfl, by decide +kernel, by decide +kernel⟩
def sp_are_different : SpN := fun zcs zL zKc => ∃ names_ : List Str, zcs = [.fr ((eL D.str) names_)] ∧ zL = [] ∧ (names_.length ≤ 1000) ∧ ∀ zL', zKc (.fr (D.bl (m_are_different names_))) zL'
theorem ok_are_different (T : TX P K mg) : FnOk P w K mg base CX0 1 T.a_are_different T.d_are_different ["names"] (SpOf K mg sp_are_different) := by
  refine T.F_are_different.okN sc_are_different (fun zcs zL zKc zh => by obtain ⟨names_, rfl, _⟩ := zh; rfl) fun zcdv zA zout zst zH zE zB zcs zL zKc zhr zh => ?_
  obtain ⟨names_, rfl, rfl, hpre, zk⟩ := zh
  have nd := sc_are_different.nd
  have hSL := sizeLine_eq
  show Exs _ _ _ ⟨[some (.fr ((eL D.str) names_))], []⟩ _
  refine exs_one (ex_ret (ev_cmp o_eqi (ev_lenSet (xs := names_) rfl (by exact rfl) T.n_len (by exact rfl) T.n_set (by walk_at "scan") (ev_var 0 rfl (.inl rfl) rfl)) (ev_len (ln_L (xs := names_) (enc := D.str) (by exact rfl)) (ev_var 0 rfl (.inl rfl) rfl) (by exact rfl) T.n_len) (nomark _)) ?_)
  have efin : m_are_different names_ = (decide (((cntS names_ names_.length : Nat) : Int) = (names_.length : Int))) := by simp only [m_are_different, not_true_eq_false, not_false_eq_true, ↓reduceIte]
  rw [efin] at zk
  exact zk _
def m_are_kinds (kinds : List (Str × Int × Int)) : Bool :=
  if (¬ (((1 : Int) ≤ (kinds.length : Int)) ∧ ((kinds.length : Int) ≤ (8 : Int)))) then false else (((kinds.map (fun zc4 : Str × Int × Int => (m_is_kind zc4))).all fun b => b) && (m_are_different (kinds.map (fun zc6 : Str × Int × Int => zc6.1))))
set_option hygiene false in
local macro_rules | `(tactic| walk_at "pre") => `(tactic| first | exact hpre.1 _ (List.mem_of_getElem? (by assumption)) | fail)
theorem sc_are_kinds : FnScope ["kinds", "kind"] ["kinds"] (defScope s_are_kinds) := ⟨rfl, rfl, rfl, by decide +kernel, rfl, by decide +kernel, by decide +kernel⟩
def sp_are_kinds : SpN := fun zcs zL zKc => ∃ kinds : List (Str × Int × Int), zcs = [.fr ((eL (eT3 D.str D.int D.int)) kinds)] ∧ zL = [] ∧ ((∀ k ∈ kinds, k.1.length ≤ 1000) ∧ kinds.length ≤ 1000) ∧ ∀ zL', zKc (.fr (D.bl (m_are_kinds kinds))) zL'
theorem ok_are_kinds (T : TX P K mg) : FnOk P w K mg base CX0 3 T.a_are_kinds T.d_are_kinds ["kinds"] (SpOf K mg sp_are_kinds) := by
  have O_are_different := ok_are_different (P := P) (w := w) (base := base) T
  have O_is_kind := ok_is_kind (P := P) (w := w) (base := base) T
  refine T.F_are_kinds.okN sc_are_kinds (fun zcs zL zKc zh => by obtain ⟨kinds, rfl, _⟩ := zh; rfl) fun zcdv zA zout zst zH zE zB zcs zL zKc zhr zh => ?_
  obtain ⟨kinds, rfl, rfl, hpre, zk⟩ := zh
  have nd := sc_are_kinds.nd
  have hSL := sizeLine_eq
  show Exs _ _ _ ⟨[some (.fr ((eL (eT3 D.str D.int D.int)) kinds)), none], []⟩ _
  refine exs_cons (ex_ifP (bd_not (bd_and bd_d bd_d)) (et_not (et_chain bd_d o_le o_le ev_int (ev_len (ln_L (xs := kinds) (enc := (eT3 D.str D.int D.int)) (by exact rfl)) (ev_var 0 rfl (.inl rfl) rfl) (by exact rfl) T.n_len) (fun zhp => (ev_gi rfl T.c_MOST_KINDS)))) (fun (zh1 : (¬ (((1 : Int) ≤ (kinds.length : Int)) ∧ ((kinds.length : Int) ≤ (8 : Int))))) => ?_) (fun (zh1 : ¬ (¬ (((1 : Int) ≤ (kinds.length : Int)) ∧ ((kinds.length : Int) ≤ (8 : Int))))) => ?_))
  · skip
    refine exs_one (ex_ret ev_bl ?_)
    have efin : m_are_kinds kinds = false := by first | (simp only [m_are_kinds, not_true_eq_false, not_false_eq_true, ↓reduceIte, ↓if_pos zh1]; done) | (first | exact absurd rfl zh1)
    rw [efin] at zk
    exact zk _
  · skip
    refine exs_nil ?_
    show Exs _ _ _ ⟨[some (.fr ((eL (eT3 D.str D.int D.int)) kinds)), none], []⟩ _
    refine exs_one (ex_ret (ev_andP Iff.rfl (ev_callB (ds := [(eL D.bl) (kinds.map (fun zc1 : Str × Int × Int => (m_is_kind zc1)))]) (c_all (bs := (kinds.map (fun zc1 : Str × Int × Int => (m_is_kind zc1)))) rfl) (ea_cons (ev_lcM (enc2 := D.bl) 199 (fun zc1 : Str × Int × Int => (m_is_kind zc1)) _ rfl nd (blkOk_by (N := ["kinds", "kind"]) (sc := defScope s_are_kinds) (own := [(("kind" : Str), 1)]) (by decide +kernel)) (src_listT (ev_var 0 rfl (.inl rfl) rfl)) (by simp [names]) (by decide) (by walk_at "sd") (fun _ zc1 _ zhyzc1 _ _ _ _ _ => (eg_nameC 1 nd rfl (.inl rfl) (by decide) (.inr rfl))) (fun _ zc1 _ zhyzc1 _ _ _ _ _ => (ev_call (ds := [(eT3 D.str D.int D.int) zc1]) (ds' := []) (dvs := []) (dfs := []) O_is_kind (zhr.mono (by decide)) T.m_is_kind T.k_is_kind T.b_is_kind .nil (fun _ => .nil) (ea_cons (ev_var 1 rfl (.inl rfl) rfl) ea_nil) (fun _ zkk => ⟨zc1, rfl, rfl, (by walk_at "pre"), zkk⟩) (by exact rfl)))) ea_nil) (by exact rfl) T.n_all (by decide +kernel)) (fun zhp => (ev_one (ev_call (ds := [(eL D.str) (kinds.map (fun zc3 : Str × Int × Int => zc3.1))]) (ds' := []) (dvs := []) (dfs := []) O_are_different (zhr.mono (by decide)) T.m_are_different T.k_are_different T.b_are_different .nil (fun _ => .nil) (ea_cons (ev_lcM (enc2 := D.str) 199 (fun zc3 : Str × Int × Int => zc3.1) _ rfl nd (blkOk_by (N := ["kinds", "kind"]) (sc := defScope s_are_kinds) (own := [(("kind" : Str), 1)]) (by decide +kernel)) (src_listT (ev_var 0 rfl (.inl rfl) rfl)) (by simp [names]) (by decide) (by walk_at "sd") (fun _ zc3 _ zhyzc3 _ _ _ _ _ => (eg_nameC 1 nd rfl (.inl rfl) (by decide) (.inr rfl))) (fun _ zc3 _ zhyzc3 _ _ _ _ _ => (ev_ix (.t (d := D.str zc3.1) rfl) (ev_var 1 rfl (.inl rfl) rfl) ev_int))) ea_nil) (fun _ zkk => ⟨(kinds.map (fun zc3 : Str × Int × Int => zc3.1)), rfl, rfl, (by walk_at "pre"), zkk⟩) (by exact rfl))))) ?_)
    have efin : m_are_kinds kinds = (((kinds.map (fun zc1 : Str × Int × Int => (m_is_kind zc1))).all fun b => b) && (m_are_different (kinds.map (fun zc3 : Str × Int × Int => zc3.1)))) := by simp only [m_are_kinds, not_true_eq_false, not_false_eq_true, ↓reduceIte, ↓if_neg zh1]
    rw [efin] at zk
    exact zk _
def m_are_ways (ways : List (Str × Str × Int)) (kinds : List (Str × Int × Int)) : Bool :=
  if ((16 : Int) < (ways.length : Int)) then false else let kind_names1 : List Str := (kinds.map (fun zc3 : Str × Int × Int => zc3.1))
  ((ways.map (fun zc4 : Str × Str × Int => (m_is_way zc4 kind_names1))).all fun b => b)
theorem sc_are_ways : FnScope ["ways", "kinds", "kind_names", "kind", "way"] ["ways", "kinds"] (defScope s_are_ways) := ⟨rfl, rfl, rfl, by decide +kernel, rfl, by decide +kernel, by decide +kernel⟩
def sp_are_ways : SpN := fun zcs zL zKc => ∃ ways : List (Str × Str × Int), ∃ kinds : List (Str × Int × Int), zcs = [.fr ((eL (eT3 D.str D.str D.int)) ways), .fr ((eL (eT3 D.str D.int D.int)) kinds)] ∧ zL = [] ∧ (ways.length ≤ 1000 ∧ kinds.length ≤ 1000) ∧ ∀ zL', zKc (.fr (D.bl (m_are_ways ways kinds))) zL'
theorem ok_are_ways (T : TX P K mg) : FnOk P w K mg base CX0 3 T.a_are_ways T.d_are_ways ["ways", "kinds"] (SpOf K mg sp_are_ways) := by
  have O_is_way := ok_is_way (P := P) (w := w) (base := base) T
  refine T.F_are_ways.okN sc_are_ways (fun zcs zL zKc zh => by obtain ⟨ways, kinds, rfl, _⟩ := zh; rfl) fun zcdv zA zout zst zH zE zB zcs zL zKc zhr zh => ?_
  obtain ⟨ways, kinds, rfl, rfl, hpre, zk⟩ := zh
  have nd := sc_are_ways.nd
  have hSL := sizeLine_eq
  show Exs _ _ _ ⟨[some (.fr ((eL (eT3 D.str D.str D.int)) ways)), some (.fr ((eL (eT3 D.str D.int D.int)) kinds)), none, none, none], []⟩ _
  refine exs_cons (ex_ifP bd_d (et_cmp o_gt (ev_len (ln_L (xs := ways) (enc := (eT3 D.str D.str D.int)) (by exact rfl)) (ev_var 0 rfl (.inl rfl) rfl) (by exact rfl) T.n_len) (ev_gi rfl T.c_MOST_WAYS) (nomark _)) (fun (zh1 : ((16 : Int) < (ways.length : Int))) => ?_) (fun (zh1 : ¬ ((16 : Int) < (ways.length : Int))) => ?_))
  · skip
    refine exs_one (ex_ret ev_bl ?_)
    have efin : m_are_ways ways kinds = false := by simp only [m_are_ways, not_true_eq_false, not_false_eq_true, ↓reduceIte, ↓if_pos zh1]
    rw [efin] at zk
    exact zk _
  · skip
    refine exs_nil ?_
    show Exs _ _ _ ⟨[some (.fr ((eL (eT3 D.str D.str D.int)) ways)), some (.fr ((eL (eT3 D.str D.int D.int)) kinds)), none, none, none], []⟩ _
    refine exs_cons (ex_set 2 (ev_lcM (enc2 := D.str) 199 (fun zc1 : Str × Int × Int => zc1.1) _ rfl nd (blkOk_by (N := ["ways", "kinds", "kind_names", "kind", "way"]) (sc := defScope s_are_ways) (own := [(("kind" : Str), 3)]) (by decide +kernel)) (src_listT (ev_var 1 rfl (.inl rfl) rfl)) (by simp [names]) (by decide) (by walk_at "sd") (fun _ zc1 _ zhyzc1 _ _ _ _ _ => (eg_nameC 3 nd rfl (.inl rfl) (by decide) (.inr rfl))) (fun _ zc1 _ zhyzc1 _ _ _ _ _ => (ev_ix (.t (d := D.str zc1.1) rfl) (ev_var 3 rfl (.inl rfl) rfl) ev_int))) ?_ nd rfl (.inr rfl))
    show Exs _ _ _ ⟨[some (.fr ((eL (eT3 D.str D.str D.int)) ways)), some (.fr ((eL (eT3 D.str D.int D.int)) kinds)), some (.fr ((eL D.str) (kinds.map (fun zc1 : Str × Int × Int => zc1.1)))), none, none], []⟩ _
    generalize zg_kind_names : (kinds.map (fun zc1 : Str × Int × Int => zc1.1)) = kind_names
    show Exs _ _ _ ⟨[some (.fr ((eL (eT3 D.str D.str D.int)) ways)), some (.fr ((eL (eT3 D.str D.int D.int)) kinds)), some (.fr ((eL D.str) kind_names)), none, none], []⟩ _
    refine exs_one (ex_ret (ev_callB (ds := [(eL D.bl) (ways.map (fun zc2 : Str × Str × Int => (m_is_way zc2 kind_names)))]) (c_all (bs := (ways.map (fun zc2 : Str × Str × Int => (m_is_way zc2 kind_names)))) rfl) (ea_cons (ev_lcM (enc2 := D.bl) 199 (fun zc2 : Str × Str × Int => (m_is_way zc2 kind_names)) _ rfl nd (blkOk_by (N := ["ways", "kinds", "kind_names", "kind", "way"]) (sc := defScope s_are_ways) (own := [(("way" : Str), 4)]) (by decide +kernel)) (src_listT (ev_var 0 rfl (.inl rfl) rfl)) (by simp [names]) (by decide) (by walk_at "sd") (fun _ zc2 _ zhyzc2 _ _ _ _ _ => (eg_nameC 4 nd rfl (.inl rfl) (by decide) (.inr rfl))) (fun _ zc2 _ zhyzc2 _ _ _ _ _ => (ev_call (ds := [(eT3 D.str D.str D.int) zc2, (eL D.str) kind_names]) (ds' := []) (dvs := []) (dfs := []) O_is_way (zhr.mono (by decide)) T.m_is_way T.k_is_way T.b_is_way .nil (fun _ => .nil) (ea_cons (ev_var 4 rfl (.inl rfl) rfl) (ea_cons (ev_var 2 rfl (.inr (.inl rfl)) rfl) ea_nil)) (fun _ zkk => ⟨zc2, kind_names, rfl, rfl, trivial, zkk⟩) (by exact rfl)))) ea_nil) (by exact rfl) T.n_all (by decide +kernel)) ?_)
    have efin : m_are_ways ways kinds = ((ways.map (fun zc2 : Str × Str × Int => (m_is_way zc2 kind_names))).all fun b => b) := by subst zg_kind_names; simp only [m_are_ways, not_true_eq_false, not_false_eq_true, ↓reduceIte, ↓if_neg zh1]
    rw [efin] at zk
    exact zk _
def m_Task_init__ (name : Str) (kinds : List (Str × Int × Int)) (ways : List (Str × Str × Int)) : Task :=
  if (¬ ((m_is_name name) = true)) then default else if (¬ ((m_are_kinds kinds) = true)) then default else if (¬ ((m_are_ways ways kinds) = true)) then default else ({ name := name, kinds := kinds, ways := ways } : Task)
set_option hygiene false in
local macro_rules | `(tactic| walk_at "pre") => `(tactic| first | exact hpre.1 | exact ⟨hpre.2.2.1, hpre.2.2.2.1⟩ | exact ⟨hpre.2.2.2.2.2.1, hpre.2.2.2.1⟩ | fail)
def Task.ok (t : Task) : Prop := m_are_kinds t.kinds = true ∧ m_are_ways t.ways t.kinds = true
theorem Task.ok.k1 {t : Task} (h : t.ok) : 1 ≤ t.kinds.length ∧ t.kinds.length ≤ 8 := by
  have q := h.1
  unfold m_are_kinds at q
  split at q
  · cases q
  · rename_i z; exact ⟨by have := Classical.not_not.mp z; omega, by have := Classical.not_not.mp z; omega⟩
theorem Task.ok.w1 {t : Task} (h : t.ok) : t.ways.length ≤ 16 := by
  have q := h.2
  unfold m_are_ways at q
  split at q
  · cases q
  · rename_i z; omega
theorem Task.ok.wn {t : Task} (h : t.ok) : ∀ w ∈ t.ways, w.1 ∈ t.kinds.map (·.1) ∧ w.2.1 ∈ t.kinds.map (·.1) := by
  have q := h.2
  unfold m_are_ways at q
  split at q
  · cases q
  · intro w hw
    have q1 := List.all_eq_true.mp q _ (List.mem_map.mpr ⟨w, hw, rfl⟩)
    unfold m_is_way at q1
    split at q1
    · cases q1
    · rw [Bool.and_eq_true, Bool.and_eq_true] at q1
      exact ⟨of_decide_eq_true q1.1, of_decide_eq_true q1.2.1⟩
theorem sc_Task_init__ : FnScope ["self", "name", "kinds", "ways"] ["self", "name", "kinds", "ways"] (defScope s_Task_init__) := ⟨rfl, rfl, rfl, by decide +kernel, rfl, by decide +kernel, by decide +kernel⟩
def sp_Task_init__ : SpN := fun zcs zL zKc => ∃ name : Str, ∃ kinds : List (Str × Int × Int), ∃ ways : List (Str × Str × Int), zcs = [.ad 0, .fr (D.str name), .fr ((eL (eT3 D.str D.int D.int)) kinds), .fr ((eL (eT3 D.str D.str D.int)) ways)] ∧ zL = [(0, .ins "Task" [])] ∧ (name.length ≤ 1000 ∧ m_is_name name = true ∧ (∀ k ∈ kinds, k.1.length ≤ 1000) ∧ kinds.length ≤ 1000 ∧ m_are_kinds kinds = true ∧ ways.length ≤ 1000 ∧ m_are_ways ways kinds = true) ∧ zKc (.fr .non) [(0, .ins "Task" ((fTask (m_Task_init__ name kinds ways)).map fun p => (p.1, Ce.fr p.2)))]
theorem ok_Task_init__ (T : TX P K mg) : FnOk P w K mg base CX0 4 T.a_Task_init__ T.d_Task_init__ ["self", "name", "kinds", "ways"] (SpOf K mg sp_Task_init__) := by
  have O_are_kinds := ok_are_kinds (P := P) (w := w) (base := base) T
  have O_are_ways := ok_are_ways (P := P) (w := w) (base := base) T
  have O_is_name := ok_is_name (P := P) (w := w) (base := base) T
  refine T.F_Task_init__.okN sc_Task_init__ (fun zcs zL zKc zh => by obtain ⟨name, kinds, ways, rfl, _⟩ := zh; rfl) fun zcdv zA zout zst zH zE zB zcs zL zKc zhr zh => ?_
  obtain ⟨name, kinds, ways, rfl, rfl, hpre, zk⟩ := zh
  have nd := sc_Task_init__.nd
  have hSL := sizeLine_eq
  show Exs _ _ _ ⟨[some (.ad 0), some (.fr (D.str name)), some (.fr ((eL (eT3 D.str D.int D.int)) kinds)), some (.fr ((eL (eT3 D.str D.str D.int)) ways))], [(0, .ins "Task" [])]⟩ _
  refine exs_cons (ex_ifP (bd_not Iff.rfl) (et_not (et_val (ev_call (ds := [D.str name]) (ds' := []) (dvs := []) (dfs := []) O_is_name (zhr.mono (by decide)) T.m_is_name T.k_is_name T.b_is_name .nil (fun _ => .nil) (ea_cons (ev_var 1 rfl (.inl rfl) rfl) ea_nil) (fun _ zkk => ⟨name, rfl, rfl, (by walk_at "pre"), zkk⟩) (by exact rfl)))) (fun (zh1 : (¬ ((m_is_name name) = true))) => ?_) (fun (zh1 : ¬ (¬ ((m_is_name name) = true))) => ?_))
  · skip
    first | exact absurd hpre.2.1 zh1 | exact absurd hpre.2.2.2.2.1 zh2 | exact absurd hpre.2.2.2.2.2.2 zh3
  · skip
    refine exs_nil ?_
    show Exs _ _ _ ⟨[some (.ad 0), some (.fr (D.str name)), some (.fr ((eL (eT3 D.str D.int D.int)) kinds)), some (.fr ((eL (eT3 D.str D.str D.int)) ways))], [(0, .ins "Task" [])]⟩ _
    refine exs_cons (ex_ifP (bd_not Iff.rfl) (et_not (et_val (ev_call (ds := [(eL (eT3 D.str D.int D.int)) kinds]) (ds' := []) (dvs := []) (dfs := []) O_are_kinds (zhr.mono (by decide)) T.m_are_kinds T.k_are_kinds T.b_are_kinds .nil (fun _ => .nil) (ea_cons (ev_var 2 rfl (.inl rfl) rfl) ea_nil) (fun _ zkk => ⟨kinds, rfl, rfl, (by walk_at "pre"), zkk⟩) (by exact rfl)))) (fun (zh2 : (¬ ((m_are_kinds kinds) = true))) => ?_) (fun (zh2 : ¬ (¬ ((m_are_kinds kinds) = true))) => ?_))
    · skip
      first | exact absurd hpre.2.1 zh1 | exact absurd hpre.2.2.2.2.1 zh2 | exact absurd hpre.2.2.2.2.2.2 zh3
    · skip
      refine exs_nil ?_
      show Exs _ _ _ ⟨[some (.ad 0), some (.fr (D.str name)), some (.fr ((eL (eT3 D.str D.int D.int)) kinds)), some (.fr ((eL (eT3 D.str D.str D.int)) ways))], [(0, .ins "Task" [])]⟩ _
      refine exs_cons (ex_ifP (bd_not Iff.rfl) (et_not (et_val (ev_call (ds := [(eL (eT3 D.str D.str D.int)) ways, (eL (eT3 D.str D.int D.int)) kinds]) (ds' := []) (dvs := []) (dfs := []) O_are_ways (zhr.mono (by decide)) T.m_are_ways T.k_are_ways T.b_are_ways .nil (fun _ => .nil) (ea_cons (ev_var 3 rfl (.inl rfl) rfl) (ea_cons (ev_var 2 rfl (.inl rfl) rfl) ea_nil)) (fun _ zkk => ⟨ways, kinds, rfl, rfl, (by walk_at "pre"), zkk⟩) (by exact rfl)))) (fun (zh3 : (¬ ((m_are_ways ways kinds) = true))) => ?_) (fun (zh3 : ¬ (¬ ((m_are_ways ways kinds) = true))) => ?_))
      · skip
        first | exact absurd hpre.2.1 zh1 | exact absurd hpre.2.2.2.2.1 zh2 | exact absurd hpre.2.2.2.2.2.2 zh3
      · skip
        refine exs_nil ?_
        show Exs _ _ _ ⟨[some (.ad 0), some (.fr (D.str name)), some (.fr ((eL (eT3 D.str D.int D.int)) kinds)), some (.fr ((eL (eT3 D.str D.str D.int)) ways))], [(0, .ins "Task" [])]⟩ _
        refine exs_cons (ex_fld (c := "Task") (n := 0) (d := D.str name) T.q_Task T.cl_Task T.na_Task_name (ev_var 1 rfl (.inl rfl) rfl) (ev_var 0 rfl (.inl rfl) rfl) rfl (by first | decide | (simp only [List.length_cons, List.length_nil]; decide)) ?_)
        show Exs _ _ _ ⟨[some (.ad 0), some (.fr (D.str name)), some (.fr ((eL (eT3 D.str D.int D.int)) kinds)), some (.fr ((eL (eT3 D.str D.str D.int)) ways))], [(0, .ins "Task" [("name", (.fr (D.str name)))])]⟩ _
        refine exs_cons (ex_fld (c := "Task") (n := 0) (d := (eU (eT3 D.str D.int D.int)) kinds) T.q_Task T.cl_Task T.na_Task_kinds (ev_callTy (ds := [(eL (eT3 D.str D.int D.int)) kinds]) c_tuple (ea_cons (ev_var 2 rfl (.inl rfl) rfl) ea_nil) (by exact rfl) T.n_tuple (by decide +kernel)) (ev_var 0 rfl (.inl rfl) rfl) rfl (by first | decide | (simp only [List.length_cons, List.length_nil]; decide)) ?_)
        show Exs _ _ _ ⟨[some (.ad 0), some (.fr (D.str name)), some (.fr ((eL (eT3 D.str D.int D.int)) kinds)), some (.fr ((eL (eT3 D.str D.str D.int)) ways))], [(0, .ins "Task" [("name", (.fr (D.str name))), ("kinds", (.fr ((eU (eT3 D.str D.int D.int)) kinds)))])]⟩ _
        refine exs_one (ex_fld (c := "Task") (n := 0) (d := (eU (eT3 D.str D.str D.int)) ways) T.q_Task T.cl_Task T.na_Task_ways (ev_callTy (ds := [(eL (eT3 D.str D.str D.int)) ways]) c_tuple (ea_cons (ev_var 3 rfl (.inl rfl) rfl) ea_nil) (by exact rfl) T.n_tuple (by decide +kernel)) (ev_var 0 rfl (.inl rfl) rfl) rfl (by first | decide | (simp only [List.length_cons, List.length_nil]; decide)) ?_)
        have efin : m_Task_init__ name kinds ways = ({ name := name, kinds := kinds, ways := ways } : Task) := by simp only [m_Task_init__, not_true_eq_false, not_false_eq_true, ↓reduceIte, ↓if_neg zh1, ↓if_neg zh2, ↓if_neg zh3]
        rw [efin] at zk
        exact zk
def m_Task_kind_number_l0 (kind_name : Str) (zs0 : Unit) (zy0 : Int × (Str × Int × Int)) : Except Int (Unit) :=
  if (zy0.2.1 = kind_name) then .error zy0.1 else .ok ()
def m_Task_kind_number (self : Task) (kind_name : Str) : Int :=
  match (runE (m_Task_kind_number_l0 kind_name) (enL 0 self.kinds) ()) with | .error r => r | .ok zs0 => default
theorem enum_at {kn : Str} : ∀ {ks : List (Str × Int × Int)} {i : Nat}, kn ∈ ks.map (·.1) → ∃ j : Nat, runE (m_Task_kind_number_l0 kn) (enL i ks) () = .error ((i + j : Nat) : Int) ∧ j < ks.length ∧ (∃ c, ks[j]? = some c ∧ c.1 = kn) ∧ ∀ m, m < j → ∀ c, ks[m]? = some c → c.1 ≠ kn
  | [], i, h => absurd h (by simp)
  | k :: ks, i, h => by
    by_cases e : k.1 = kn
    · refine ⟨0, ?_, by simp, ⟨k, rfl, e⟩, fun m hm => absurd hm (by omega)⟩
      rw [show enL i (k :: ks) = ((i : Int), k) :: enL (i + 1) ks from rfl, runE_cons, show m_Task_kind_number_l0 kn () ((i : Int), k) = .error (i : Int) from by unfold m_Task_kind_number_l0; rw [if_pos e]]
      rfl
    · obtain ⟨j, h1, h2, h3, h4⟩ := enum_at (ks := ks) (i := i + 1) (by
        rcases List.mem_cons.mp (show kn ∈ k.1 :: ks.map (·.1) from h) with q | q
        · exact absurd q.symm e
        · exact q)
      refine ⟨j + 1, ?_, by simp; omega, h3, fun m hm c hc => ?_⟩
      · rw [show enL i (k :: ks) = ((i : Int), k) :: enL (i + 1) ks from rfl, runE_cons, show m_Task_kind_number_l0 kn () ((i : Int), k) = .ok () from by unfold m_Task_kind_number_l0; rw [if_neg e]]
        dsimp only
        rw [h1, show i + 1 + j = i + (j + 1) by omega]
      · cases m with
        | zero => cases hc; exact e
        | succ m => exact h4 m (by omega) c hc
theorem enum_found {kn : Str} {ks : List (Str × Int × Int)} {u : Unit} (h : kn ∈ ks.map (·.1)) (q : runE (m_Task_kind_number_l0 kn) (enL 0 ks) () = .ok u) : False := by
  obtain ⟨j, e, _⟩ := enum_at (i := 0) h
  rw [e] at q; cases q
theorem kind_number_spec {t : Task} {kn : Str} (h : kn ∈ t.kinds.map (·.1)) : ∃ j : Nat, m_Task_kind_number t kn = (j : Int) ∧ j < t.kinds.length ∧ (∃ c, t.kinds[j]? = some c ∧ c.1 = kn) ∧ ∀ m, m < j → ∀ c, t.kinds[m]? = some c → c.1 ≠ kn := by
  obtain ⟨j, e, r⟩ := enum_at (i := 0) h
  refine ⟨j, ?_, r⟩
  unfold m_Task_kind_number
  rw [e, Nat.zero_add]
theorem sc_Task_kind_number : FnScope ["self", "kind_name", "number", "kind"] ["self", "kind_name"] (defScope s_Task_kind_number) := ⟨rfl, rfl, rfl, by decide +kernel, rfl, by decide +kernel, by decide +kernel⟩
def sp_Task_kind_number : SpN := fun zcs zL zKc => ∃ self : Task, ∃ kind_name : Str, zcs = [.fr (eTask self), .fr (D.str kind_name)] ∧ zL = [] ∧ (self.ok ∧ kind_name ∈ self.kinds.map (·.1)) ∧ ∀ zL', zKc (.fr (D.int (m_Task_kind_number self kind_name))) zL'
theorem ok_Task_kind_number (T : TX P K mg) : FnOk P w K mg base CX0 1 T.a_Task_kind_number T.d_Task_kind_number ["self", "kind_name"] (SpOf K mg sp_Task_kind_number) := by
  refine T.F_Task_kind_number.okN sc_Task_kind_number (fun zcs zL zKc zh => by obtain ⟨self, kind_name, rfl, _⟩ := zh; rfl) fun zcdv zA zout zst zH zE zB zcs zL zKc zhr zh => ?_
  obtain ⟨self, kind_name, rfl, rfl, hpre, zk⟩ := zh
  have nd := sc_Task_kind_number.nd
  have hSL := sizeLine_eq
  have hk1 := hpre.1.k1
  have hw1 := hpre.1.w1
  skip
  show Exs _ _ _ ⟨[some (.fr (eTask self)), some (.fr (D.str kind_name)), none, none], []⟩ _
  refine exs_cons (ex_forE (enc := (eT2 D.int (eT3 D.str D.int D.int))) (fun (zs0 : Unit) => (⟨[some (.fr (eTask self)), some (.fr (D.str kind_name)), none, none], []⟩ : Nz.S)) (m_Task_kind_number_l0 kind_name) () (fun (zi0 : Nat) (zs0 : Unit) => True) (fun r c S' => c = .fr (D.int r) ∧ True) (src_enumU (enc := (eT3 D.str D.int D.int)) (xs := self.kinds) (ea_cons (ev_fld (c := "Task") (fs := fTask self) T.q_Task T.cl_Task T.na_Task_kinds rfl (ev_var 0 rfl (.inl rfl) rfl)) ea_nil) (by exact rfl) T.n_enumerate) ⟨⟨.inr rfl, .inr rfl, .inl rfl, .inl rfl, trivial⟩, rfl⟩ trivial ?_ ?_ ?_ PassesOwn.never rfl)
  · intro zi0 zy0 zs0 zhy0 zrun0 zq0
    skip
    refine ⟨⟨[some (.fr (eTask self)), some (.fr (D.str kind_name)), some (.fr (D.int zy0.1)), some (.fr ((eT3 D.str D.int D.int) zy0.2))], []⟩, (eg_tup rfl (egs_cons (eg_name 2 nd rfl (.inl rfl)) (egs_cons (eg_name 3 nd rfl (.inl rfl)) egs_nil))), ?_⟩
    refine exs_one (ex_ifP bd_d (et_cmp o_eqs (ev_ix (.t (d := D.str zy0.2.1) rfl) (ev_var 3 rfl (.inl rfl) rfl) ev_int) (ev_var 1 rfl (.inl rfl) rfl) (nomark _)) (fun (zh1 : (zy0.2.1 = kind_name)) => ?_) (fun (zh1 : ¬ (zy0.2.1 = kind_name)) => ?_))
    · skip
      refine exs_one (ex_ret (ev_var 2 rfl (.inl rfl) rfl) ?_)
      have est : (m_Task_kind_number_l0 kind_name) zs0 zy0 = .error zy0.1 := by simp only [m_Task_kind_number_l0, not_true_eq_false, not_false_eq_true, ↓reduceIte, ↓if_pos zh1]
      exact ⟨_, est, rfl, trivial⟩
    · skip
      refine exs_nil ?_
      have est : (m_Task_kind_number_l0 kind_name) zs0 zy0 = .ok () := by simp only [m_Task_kind_number_l0, not_true_eq_false, not_false_eq_true, ↓reduceIte, ↓if_neg zh1]
      exact ⟨_, est, ⟨⟨.inr rfl, .inr rfl, .inl rfl, .inl rfl, trivial⟩, rfl⟩, trivial⟩
  · rintro zr zc zS zrun0 ⟨rfl, zhL⟩
    skip
    have zh2 := zrun0
    have efin : m_Task_kind_number self kind_name = zr := by simp only [m_Task_kind_number, not_true_eq_false, not_false_eq_true, ↓reduceIte, ↓zh2]
    rw [efin] at zk
    exact zk _
  · intro zs0 zrun0 zq0
    have zh3 := zrun0
    show Exs _ _ _ ⟨[some (.fr (eTask self)), some (.fr (D.str kind_name)), none, none], []⟩ _
    exfalso
    exact enum_found hpre.2 zrun0
def m_law_is_integer (actual : Int) : Bool :=
  (true && (!false))
theorem sc_law_is_integer : FnScope ["actual"] ["actual"] (defScope s_law_is_integer) := ⟨rfl, rfl, rfl, by decide +kernel, rfl, by decide +kernel, by decide +kernel⟩
def sp_law_is_integer : SpN := fun zcs zL zKc => ∃ actual : Int, zcs = [.fr (D.int actual)] ∧ zL = [] ∧ (True) ∧ ∀ zL', zKc (.fr (D.bl (m_law_is_integer actual))) zL'
theorem ok_law_is_integer (T : TX P K mg) : FnOk P w K mg base CX0 1 T.a_law_is_integer T.d_law_is_integer ["actual"] (SpOf K mg sp_law_is_integer) := by
  refine T.F_law_is_integer.okN sc_law_is_integer (fun zcs zL zKc zh => by obtain ⟨actual, rfl, _⟩ := zh; rfl) fun zcdv zA zout zst zH zE zB zcs zL zKc zhr zh => ?_
  obtain ⟨actual, rfl, rfl, hpre, zk⟩ := zh
  have nd := sc_law_is_integer.nd
  have hSL := sizeLine_eq
  show Exs _ _ _ ⟨[some (.fr (D.int actual))], []⟩ _
  refine exs_one (ex_ret (ev_andP Iff.rfl (ev_isi (T := "int") (b := true) (ev_var 0 rfl (.inl rfl) rfl) rfl (by decide) (by exact rfl) T.n_isinstance (by exact rfl) T.n_int (by decide +kernel)) (fun zhp => (ev_one (ev_not (ev_isi (T := "bool") (b := false) (ev_var 0 rfl (.inl rfl) rfl) rfl (by decide) (by exact rfl) T.n_isinstance (by exact rfl) T.n_bool (by decide +kernel)))))) ?_)
  have efin : m_law_is_integer actual = (true && (!false)) := by simp only [m_law_is_integer, not_true_eq_false, not_false_eq_true, ↓reduceIte]
  rw [efin] at zk
  exact zk _
def m_law_pick (numbers : List Int) (at_ : Int) (count : Int) : Int :=
  ((numbers.getD (at_).toNat default) % count)
theorem pick_eq (numbers : List Int) (at_ count : Int) : m_law_pick numbers at_ count = numbers.getD at_.toNat default % count := rfl
theorem pick_bound (numbers : List Int) (at_ : Int) {count : Int} (h : 0 < count) : 0 ≤ m_law_pick numbers at_ count ∧ m_law_pick numbers at_ count < count := by
  rw [pick_eq]; exact ⟨Int.emod_nonneg _ (by omega), Int.emod_lt_of_pos _ h⟩
theorem sc_law_pick : FnScope ["numbers", "at", "count"] ["numbers", "at", "count"] (defScope s_law_pick) := ⟨rfl, rfl, rfl, by decide +kernel, rfl, by decide +kernel, by decide +kernel⟩
def sp_law_pick : SpN := fun zcs zL zKc => ∃ numbers : List Int, ∃ at_ : Int, ∃ count : Int, zcs = [.fr ((eL D.int) numbers), .fr (D.int at_), .fr (D.int count)] ∧ zL = [] ∧ (0 ≤ at_ ∧ at_ < numbers.length ∧ 0 < count ∧ count < 2 ^ 29) ∧ ∀ zL', zKc (.fr (D.int (m_law_pick numbers at_ count))) zL'
theorem ok_law_pick (T : TX P K mg) : FnOk P w K mg base CX0 1 T.a_law_pick T.d_law_pick ["numbers", "at", "count"] (SpOf K mg sp_law_pick) := by
  refine T.F_law_pick.okN sc_law_pick (fun zcs zL zKc zh => by obtain ⟨numbers, at_, count, rfl, _⟩ := zh; rfl) fun zcdv zA zout zst zH zE zB zcs zL zKc zhr zh => ?_
  obtain ⟨numbers, at_, count, rfl, rfl, hpre, zk⟩ := zh
  have nd := sc_law_pick.nd
  have hSL := sizeLine_eq
  show Exs _ _ _ ⟨[some (.fr ((eL D.int) numbers)), some (.fr (D.int at_)), some (.fr (D.int count))], []⟩ _
  refine exs_one (ex_ret (ev_bin (o_mod (by walk_at "sd")) (ev_callTy (ds := [D.int (numbers.getD (at_).toNat default)]) c_int (ea_cons (ev_ix (ix_L (xs := numbers) (enc := D.int) (by exact rfl) (by walk_at "sd") (by walk_at "sd")) (ev_var 0 rfl (.inl rfl) rfl) (ev_var 1 rfl (.inl rfl) rfl)) ea_nil) (by exact rfl) T.n_int (by decide +kernel)) (ev_var 2 rfl (.inl rfl) rfl)) ?_)
  have efin : m_law_pick numbers at_ count = ((numbers.getD (at_).toNat default) % count) := by simp only [m_law_pick, not_true_eq_false, not_false_eq_true, ↓reduceIte]
  rw [efin] at zk
  exact zk _
def m_law_scale (numbers : List Int) : Int :=
  let last1 : Int := (numbers.getD (((numbers.length : Int) - (1 : Int))).toNat default)
  ([(1 : Int), (1 : Int), ((1 : Int) + ((last1 / (3 : Int)) % (249 : Int)))].getD ((last1 % (3 : Int))).toNat default)
theorem scale_bound {numbers : List Int} : 1 ≤ m_law_scale numbers ∧ m_law_scale numbers ≤ 249 := by
  unfold m_law_scale
  dsimp only
  generalize numbers.getD ((numbers.length : Int) - 1).toNat default = last
  have h : (last % 3).toNat = 0 ∨ (last % 3).toNat = 1 ∨ (last % 3).toNat = 2 := by omega
  rcases h with h | h | h <;> rw [h] <;> simp only [List.getD_cons_zero, List.getD_cons_succ] <;> omega
theorem sc_law_scale : FnScope ["numbers", "last"] ["numbers"] (defScope s_law_scale) := ⟨rfl, rfl, rfl, by decide +kernel, rfl, by decide +kernel, by decide +kernel⟩
def sp_law_scale : SpN := fun zcs zL zKc => ∃ numbers : List Int, zcs = [.fr ((eL D.int) numbers)] ∧ zL = [] ∧ (0 < numbers.length) ∧ ∀ zL', zKc (.fr (D.int (m_law_scale numbers))) zL'
theorem ok_law_scale (T : TX P K mg) : FnOk P w K mg base CX0 1 T.a_law_scale T.d_law_scale ["numbers"] (SpOf K mg sp_law_scale) := by
  refine T.F_law_scale.okN sc_law_scale (fun zcs zL zKc zh => by obtain ⟨numbers, rfl, _⟩ := zh; rfl) fun zcdv zA zout zst zH zE zB zcs zL zKc zhr zh => ?_
  obtain ⟨numbers, rfl, rfl, hpre, zk⟩ := zh
  have nd := sc_law_scale.nd
  have hSL := sizeLine_eq
  show Exs _ _ _ ⟨[some (.fr ((eL D.int) numbers)), none], []⟩ _
  refine exs_cons (ex_set 1 (ev_callTy (ds := [D.int (numbers.getD (((numbers.length : Int) - (1 : Int))).toNat default)]) c_int (ea_cons (ev_ix (ix_L (xs := numbers) (enc := D.int) (by exact rfl) (by walk_at "sd") (by walk_at "sd")) (ev_var 0 rfl (.inl rfl) rfl) (ev_bin o_sub (ev_len (ln_L (xs := numbers) (enc := D.int) (by exact rfl)) (ev_var 0 rfl (.inl rfl) rfl) (by exact rfl) T.n_len) ev_int)) ea_nil) (by exact rfl) T.n_int (by decide +kernel)) ?_ nd rfl (.inl rfl))
  show Exs _ _ _ ⟨[some (.fr ((eL D.int) numbers)), some (.fr (D.int (numbers.getD (((numbers.length : Int) - (1 : Int))).toNat default)))], []⟩ _
  generalize zg_last : (numbers.getD (((numbers.length : Int) - (1 : Int))).toNat default) = last
  show Exs _ _ _ ⟨[some (.fr ((eL D.int) numbers)), some (.fr (D.int last))], []⟩ _
  refine exs_one (ex_ret (ev_ix (ix_L (xs := [(1 : Int), (1 : Int), ((1 : Int) + ((last / (3 : Int)) % (249 : Int)))]) (enc := D.int) (by exact rfl) (by walk_at "sd") (by walk_at "sd")) (ev_lstF (enc := D.int) [(1 : Int), (1 : Int), ((1 : Int) + ((last / (3 : Int)) % (249 : Int)))] (ea_cons ev_int (ea_cons ev_int (ea_cons (ev_bin o_add ev_int (ev_bin (o_mod (by walk_at "sd")) (ev_callTy (ds := [D.int (last / (3 : Int))]) c_int (ea_cons (ev_bin (o_div (by walk_at "sd") (by walk_at "sd")) (ev_var 1 rfl (.inl rfl) rfl) ev_int) ea_nil) (by exact rfl) T.n_int (by decide +kernel)) ev_int)) ea_nil))) rfl (by simp only [List.length_cons, List.length_nil]; decide)) (ev_bin (o_mod (by walk_at "sd")) (ev_callTy (ds := [D.int last]) c_int (ea_cons (ev_var 1 rfl (.inl rfl) rfl) ea_nil) (by exact rfl) T.n_int (by decide +kernel)) ev_int)) ?_)
  have efin : m_law_scale numbers = ([(1 : Int), (1 : Int), ((1 : Int) + ((last / (3 : Int)) % (249 : Int)))].getD ((last % (3 : Int))).toNat default) := by subst zg_last; simp only [m_law_scale, not_true_eq_false, not_false_eq_true, ↓reduceIte]
  rw [efin] at zk
  exact zk _
def m_law_name (numbers : List Int) (k_ : Int) : Str :=
  let chars1 : Str := (Str.ofString "abcdefghijklmnopqrstuvwxyz0123456789")
  let seed1 : Int := (numbers.getD (((numbers.length : Int) - (2 : Int))).toNat default)
  let word1 : Str := (Txt.join (Str.ofString "") ((List.range ((seed1 % (5 : Int))).toNat).map (fun zc2 : Nat => (chA chars1 ((((seed1 / (5 : Int)) + ((7 : Int) * ((0 : Int) + (zc2 : Int)))) + (seed1 * ((0 : Int) + (zc2 : Int)))) % (36 : Int))))))
  let cut1 : Int := ((numbers.getD (((numbers.length : Int) - (3 : Int))).toNat default) % ((word1.length : Int) + (1 : Int)))
  (((cutS word1 none (some cut1)) ++ (chA (Str.ofString "kq3zx9") k_)) ++ (cutS word1 (some cut1) none))
theorem str_len_append (a b : Str) : (a ++ b).length = a.length + b.length := by
  show (a.cps ++ b.cps).size = _
  rw [Array.size_append]; rfl
theorem fold_snoc {τ μ : Type} (g : μ → τ) (f : List τ → μ → List τ) (hf : ∀ s y, f s y = s ++ [g y]) : ∀ (ys : List μ) (s : List τ), ys.foldl f s = s ++ ys.map g
  | [], s => by simp
  | y :: ys, s => by rw [List.foldl_cons, fold_snoc g f hf ys, hf]; simp
theorem cs_append (a b : Str) : (a ++ b).cps.toList = a.cps.toList ++ b.cps.toList := by
  show (a.cps ++ b.cps).toList = _
  rw [Array.toList_append]
theorem joinL_nil : ∀ ps : List (List Nat), TL.joinL [] ps = ps.flatten
  | [] => rfl
  | [p] => by simp [TL.joinL]
  | p :: q :: r => by
    show p ++ ([] ++ TL.joinL [] (q :: r)) = _
    rw [joinL_nil (q :: r)]; simp
theorem cs_join0 (ys : List Str) : (Txt.join (Str.ofString "") ys).cps.toList = (ys.map fun y => y.cps.toList).flatten := by
  rw [TL.join_eq]
  have h := TL.tl_join (Str.ofString "") ys
  rw [show TL.tl (Str.ofString "") = [] by decide +kernel, joinL_nil] at h
  exact h
theorem join0_len (ys : List Str) (h : ∀ y ∈ ys, y.length = 1) : (Txt.join (Str.ofString "") ys).length = ys.length := by
  show (Txt.join (Str.ofString "") ys).cps.size = _
  rw [← Array.length_toList, cs_join0]
  induction ys with
  | nil => rfl
  | cons y r ih =>
    rw [List.map_cons, List.flatten_cons, List.length_append, ih fun z hz => h z (List.mem_cons_of_mem _ hz), List.length_cons]
    have : y.cps.toList.length = 1 := by rw [Array.length_toList]; exact h y List.mem_cons_self
    omega
theorem cut_len (z : Str) (a b : Option Int) : (cutS z a b).length ≤ z.length := by
  unfold cutS
  show (List.toArray _).size ≤ z.cps.size
  rw [List.size_toArray, List.length_take, List.length_drop, Array.length_toList]
  omega
theorem chA_len (z : Str) (i : Int) : (chA z i).length = 1 := rfl
theorem join_room (ys : List Str) (h1 : ys.length ≤ 100) (h : ∀ y ∈ ys, y.length = 1) : (ys.map (·.length)).sum + ys.length * (Str.ofString "").length ≤ 16777216 := by
  have : ∀ ys : List Str, (∀ y ∈ ys, y.length = 1) → (ys.map (·.length)).sum = ys.length := by
    intro ys
    induction ys with
    | nil => intro _; rfl
    | cons y r ih => intro h; rw [List.map_cons, List.sum_cons, ih fun z hz => h z (List.mem_cons_of_mem _ hz), h y List.mem_cons_self, List.length_cons]; omega
  rw [this ys h, show (Str.ofString "").length = 0 by decide +kernel]; omega
set_option hygiene false in
local macro_rules | `(tactic| walk_at "join") => `(tactic| first | (exact join_room _ (by rw [List.length_map, List.length_range]; omega) (fun y hy => by obtain ⟨i, _, rfl⟩ := List.mem_map.mp hy; rfl)) | fail)
set_option hygiene false in
local macro_rules | `(tactic| walk_at "sd") => `(tactic| first | (simp only [str_len_append, chA_len]; have h1 := cut_len word none (some cut); have h2 := cut_len word (some cut) none; omega) | fail)
theorem getD_mem {τ : Type} [Inhabited τ] {xs : List τ} {i : Nat} (h : i < xs.length) : xs.getD i default ∈ xs := by
  rw [List.getD_eq_getElem?_getD, List.getElem?_eq_getElem h]; exact List.getElem_mem h
theorem init_eq {name : Str} {kinds : List (Str × Int × Int)} {ways : List (Str × Str × Int)} (h1 : m_is_name name = true) (h2 : m_are_kinds kinds = true) (h3 : m_are_ways ways kinds = true) : m_Task_init__ name kinds ways = { name := name, kinds := kinds, ways := ways } := by
  unfold m_Task_init__
  rw [if_neg (fun q => q h1), if_neg (fun q => q h2), if_neg (fun q => q h3)]
def ALPH : Str := Str.ofString "abcdefghijklmnopqrstuvwxyz0123456789"
def Good (z : Str) : Prop := ∀ c ∈ z.cps.toList, ∃ i : Nat, i < 36 ∧ (⟨#[c]⟩ : Str) = chA ALPH (i : Int)
theorem good_app {a b : Str} (h1 : Good a) (h2 : Good b) : Good (a ++ b) := fun c hc => by
  rw [cs_append] at hc
  rcases List.mem_append.mp hc with q | q
  · exact h1 c q
  · exact h2 c q
theorem good_cut {z : Str} (h : Good z) (a b : Option Int) : Good (cutS z a b) := fun c hc => by
  unfold cutS at hc
  exact h c (List.mem_of_mem_drop (List.mem_of_mem_take (by simpa using hc)))
theorem good_ch (i : Int) (h0 : 0 ≤ i) (h1 : i < 36) : Good (chA ALPH i) := fun c hc => by
  have e : c = ALPH.cps.toList.getD i.toNat 0 := by unfold chA at hc; simpa using hc
  exact ⟨i.toNat, by omega, by rw [e, Int.toNat_of_nonneg h0]; rfl⟩
theorem good_join {ys : List Str} (h : ∀ y ∈ ys, Good y) : Good (Txt.join (Str.ofString "") ys) := fun c hc => by
  rw [cs_join0] at hc
  obtain ⟨l, hl, hcl⟩ := List.mem_flatten.mp hc
  obtain ⟨y, hy, rfl⟩ := List.mem_map.mp hl
  exact h y hy c hcl
theorem alph_in : ∀ i : Fin 36, inS (chA ALPH (i.val : Int)) ALPH = true := by decide +kernel
theorem good_name {z : Str} (h : Good z) (h1 : 1 ≤ z.length) (h2 : z.length ≤ 12) : m_is_name z = true := by
  unfold m_is_name
  rw [if_neg (by rintro (q | q); exact q rfl; exact q ⟨by omega, by omega⟩), List.all_eq_true]
  intro b hb
  obtain ⟨c, hc, rfl⟩ := List.mem_map.mp hb
  obtain ⟨n, hn, rfl⟩ := List.mem_map.mp hc
  obtain ⟨i, hi, e⟩ := h n hn
  rw [e]
  exact alph_in ⟨i, hi⟩
theorem cut_two (z : Str) (p : Int) (hp : 0 ≤ p) : (cutS z none (some p)).length + (cutS z (some p) none).length = z.length := by
  obtain ⟨n, rfl⟩ := Int.eq_ofNat_of_zero_le hp
  unfold cutS
  show (List.toArray _).size + (List.toArray _).size = z.cps.size
  rw [List.size_toArray, List.size_toArray, List.length_take, List.length_take, List.length_drop, List.length_drop, Array.length_toList, HT.sIx_none, HT.sIx_none, HT.sIx_nat, HT.sIx_nat]
  have : z.length = z.cps.size := rfl
  omega
theorem sc_law_name : FnScope ["numbers", "k", "chars", "seed", "word", "cut", "j"] ["numbers", "k"] (defScope s_law_name) := ⟨rfl, rfl, rfl, by decide +kernel, rfl, by decide +kernel, by decide +kernel⟩
def sp_law_name : SpN := fun zcs zL zKc => ∃ numbers : List Int, ∃ k_ : Int, zcs = [.fr ((eL D.int) numbers), .fr (D.int k_)] ∧ zL = [] ∧ (3 ≤ numbers.length ∧ (∀ x ∈ numbers, 0 ≤ x ∧ x ≤ 1008) ∧ 0 ≤ k_ ∧ k_ < 6) ∧ ∀ zL', zKc (.fr (D.str (m_law_name numbers k_))) zL'
theorem ok_law_name (T : TX P K mg) : FnOk P w K mg base CX0 1 T.a_law_name T.d_law_name ["numbers", "k"] (SpOf K mg sp_law_name) := by
  refine T.F_law_name.okN sc_law_name (fun zcs zL zKc zh => by obtain ⟨numbers, k_, rfl, _⟩ := zh; rfl) fun zcdv zA zout zst zH zE zB zcs zL zKc zhr zh => ?_
  obtain ⟨numbers, k_, rfl, rfl, hpre, zk⟩ := zh
  have nd := sc_law_name.nd
  have hSL := sizeLine_eq
  have hkq : (Str.ofString "kq3zx9").length = 6 := by decide +kernel
  show Exs _ _ _ ⟨[some (.fr ((eL D.int) numbers)), some (.fr (D.int k_)), none, none, none, none, none], []⟩ _
  refine exs_cons (ex_set 2 ev_str ?_ nd rfl (.inr rfl))
  show Exs _ _ _ ⟨[some (.fr ((eL D.int) numbers)), some (.fr (D.int k_)), some (.fr (D.str (Str.ofString "abcdefghijklmnopqrstuvwxyz0123456789"))), none, none, none, none], []⟩ _
  generalize zg_chars : (Str.ofString "abcdefghijklmnopqrstuvwxyz0123456789") = chars
  show Exs _ _ _ ⟨[some (.fr ((eL D.int) numbers)), some (.fr (D.int k_)), some (.fr (D.str chars)), none, none, none, none], []⟩ _
  have hll : chars.length = 36 := by rw [← zg_chars]; decide +kernel
  refine exs_cons (ex_set 3 (ev_callTy (ds := [D.int (numbers.getD (((numbers.length : Int) - (2 : Int))).toNat default)]) c_int (ea_cons (ev_ix (ix_L (xs := numbers) (enc := D.int) (by exact rfl) (by walk_at "sd") (by walk_at "sd")) (ev_var 0 rfl (.inl rfl) rfl) (ev_bin o_sub (ev_len (ln_L (xs := numbers) (enc := D.int) (by exact rfl)) (ev_var 0 rfl (.inl rfl) rfl) (by exact rfl) T.n_len) ev_int)) ea_nil) (by exact rfl) T.n_int (by decide +kernel)) ?_ nd rfl (.inr rfl))
  show Exs _ _ _ ⟨[some (.fr ((eL D.int) numbers)), some (.fr (D.int k_)), some (.fr (D.str chars)), some (.fr (D.int (numbers.getD (((numbers.length : Int) - (2 : Int))).toNat default))), none, none, none], []⟩ _
  generalize zg_seed : (numbers.getD (((numbers.length : Int) - (2 : Int))).toNat default) = seed
  show Exs _ _ _ ⟨[some (.fr ((eL D.int) numbers)), some (.fr (D.int k_)), some (.fr (D.str chars)), some (.fr (D.int seed)), none, none, none], []⟩ _
  have hsb := getD_bound hpre.2.1 ((numbers.length : Int) - 2).toNat
  rw [zg_seed] at hsb
  refine exs_cons (ex_set 4 (ev_join (z := (Str.ofString "")) (ys := ((List.range ((seed % (5 : Int))).toNat).map (fun zc1 : Nat => (chA chars ((((seed / (5 : Int)) + ((7 : Int) * ((0 : Int) + (zc1 : Int)))) + (seed * ((0 : Int) + (zc1 : Int)))) % (36 : Int)))))) ev_str (ev_lcM (enc2 := D.str) 199 (fun zc1 : Nat => (chA chars ((((seed / (5 : Int)) + ((7 : Int) * ((0 : Int) + (zc1 : Int)))) + (seed * ((0 : Int) + (zc1 : Int)))) % (36 : Int)))) _ rfl nd (blkOk_by (N := ["numbers", "k", "chars", "seed", "word", "cut", "j"]) (sc := defScope s_law_name) (own := [(("j" : Str), 6)]) (by decide +kernel)) (src_range1 (ea_cons (ev_bin (o_mod (by walk_at "sd")) (ev_callTy (ds := [D.int seed]) c_int (ea_cons (ev_var 3 rfl (.inr (.inl rfl)) rfl) ea_nil) (by exact rfl) T.n_int (by decide +kernel)) ev_int) ea_nil) (by exact rfl) T.n_range (by walk_at "sd") (by walk_at "sd")) (by simp [names]) (by decide) (by walk_at "sd") (fun _ zc1 _ zhyzc1 _ _ _ _ _ => (eg_nameC 6 nd rfl (.inl rfl) (by decide) (.inr rfl))) (fun _ zc1 _ zhyzc1 _ _ _ _ _ => (ev_ixS (ev_var 2 rfl (.inr (.inl rfl)) rfl) (ev_bin (o_mod (by walk_at "sd")) (ev_callTy (ds := [D.int (((seed / (5 : Int)) + ((7 : Int) * ((0 : Int) + (zc1 : Int)))) + (seed * ((0 : Int) + (zc1 : Int))))]) c_int (ea_cons (ev_bin o_add (ev_bin o_add (ev_bin (o_div (by walk_at "sd") (by walk_at "sd")) (ev_var 3 rfl (.inr (.inl rfl)) rfl) ev_int) (ev_bin (o_mul (by walk_at "mul")) ev_int (ev_var 6 rfl (.inl rfl) rfl))) (ev_bin (o_mul (by walk_at "mul")) (ev_var 3 rfl (.inr (.inl rfl)) rfl) (ev_var 6 rfl (.inl rfl) rfl))) ea_nil) (by exact rfl) T.n_int (by decide +kernel)) ev_int) (by walk_at "sd") (by walk_at "sd") (by walk_at "sd")))) (by walk_at "join")) ?_ nd rfl (.inl rfl))
  show Exs _ _ _ ⟨[some (.fr ((eL D.int) numbers)), some (.fr (D.int k_)), some (.fr (D.str chars)), some (.fr (D.int seed)), some (.fr (D.str (Txt.join (Str.ofString "") ((List.range ((seed % (5 : Int))).toNat).map (fun zc1 : Nat => (chA chars ((((seed / (5 : Int)) + ((7 : Int) * ((0 : Int) + (zc1 : Int)))) + (seed * ((0 : Int) + (zc1 : Int)))) % (36 : Int)))))))), none, none], []⟩ _
  generalize zg_word : (Txt.join (Str.ofString "") ((List.range ((seed % (5 : Int))).toNat).map (fun zc1 : Nat => (chA chars ((((seed / (5 : Int)) + ((7 : Int) * ((0 : Int) + (zc1 : Int)))) + (seed * ((0 : Int) + (zc1 : Int)))) % (36 : Int)))))) = word
  show Exs _ _ _ ⟨[some (.fr ((eL D.int) numbers)), some (.fr (D.int k_)), some (.fr (D.str chars)), some (.fr (D.int seed)), some (.fr (D.str word)), none, none], []⟩ _
  have hrl : word.length ≤ 4 := by rw [← zg_word, join0_len, List.length_map, List.length_range]; omega; intro y hy; obtain ⟨i, _, rfl⟩ := List.mem_map.mp hy; rfl
  refine exs_cons (ex_set 5 (ev_bin (o_mod (by walk_at "sd")) (ev_callTy (ds := [D.int (numbers.getD (((numbers.length : Int) - (3 : Int))).toNat default)]) c_int (ea_cons (ev_ix (ix_L (xs := numbers) (enc := D.int) (by exact rfl) (by walk_at "sd") (by walk_at "sd")) (ev_var 0 rfl (.inl rfl) rfl) (ev_bin o_sub (ev_len (ln_L (xs := numbers) (enc := D.int) (by exact rfl)) (ev_var 0 rfl (.inl rfl) rfl) (by exact rfl) T.n_len) ev_int)) ea_nil) (by exact rfl) T.n_int (by decide +kernel)) (ev_bin o_add (ev_len (.s (by walk_at "sd")) (ev_var 4 rfl (.inl rfl) rfl) (by exact rfl) T.n_len) ev_int)) ?_ nd rfl (.inl rfl))
  show Exs _ _ _ ⟨[some (.fr ((eL D.int) numbers)), some (.fr (D.int k_)), some (.fr (D.str chars)), some (.fr (D.int seed)), some (.fr (D.str word)), some (.fr (D.int ((numbers.getD (((numbers.length : Int) - (3 : Int))).toNat default) % ((word.length : Int) + (1 : Int))))), none], []⟩ _
  generalize zg_cut : ((numbers.getD (((numbers.length : Int) - (3 : Int))).toNat default) % ((word.length : Int) + (1 : Int))) = cut
  show Exs _ _ _ ⟨[some (.fr ((eL D.int) numbers)), some (.fr (D.int k_)), some (.fr (D.str chars)), some (.fr (D.int seed)), some (.fr (D.str word)), some (.fr (D.int cut)), none], []⟩ _
  refine exs_one (ex_ret (ev_bin (o_adds (by walk_at "sd")) (ev_bin (o_adds (by walk_at "sd")) (ev_sliceS (ev_var 4 rfl (.inl rfl) rfl) eo_none (eo_some (ev_var 5 rfl (.inl rfl) rfl)) (by walk_at "sd")) (ev_ixS ev_str (ev_var 1 rfl (.inl rfl) rfl) (by walk_at "sd") (by walk_at "sd") (by walk_at "sd"))) (ev_sliceS (ev_var 4 rfl (.inl rfl) rfl) (eo_some (ev_var 5 rfl (.inl rfl) rfl)) eo_none (by walk_at "sd"))) ?_)
  have efin : m_law_name numbers k_ = (((cutS word none (some cut)) ++ (chA (Str.ofString "kq3zx9") k_)) ++ (cutS word (some cut) none)) := by subst zg_cut; subst zg_word; subst zg_seed; subst zg_chars; simp only [m_law_name, not_true_eq_false, not_false_eq_true, ↓reduceIte]
  rw [efin] at zk
  exact zk _
def m_law_kinds_l0 (numbers : List Int) (at_ : Int) (zs0 : (List (Str × Int × Int))) (zy0 : Nat) : (List (Str × Int × Int)) :=
  let cost : Int := ((m_law_scale numbers) * ((1 : Int) + (m_law_pick numbers ((at_ + (1 : Int)) + ((2 : Int) * ((0 : Int) + (zy0 : Int)))) (4 : Int))))
  (zs0 ++ [((m_law_name numbers ((0 : Int) + (zy0 : Int))), cost, ((1 : Int) + (m_law_pick numbers ((at_ + (2 : Int)) + ((2 : Int) * ((0 : Int) + (zy0 : Int)))) (9 : Int))))])
def m_law_kinds (numbers : List Int) (at_ : Int) (most : Int) : List (Str × Int × Int) :=
  ((List.range (((1 : Int) + (m_law_pick numbers at_ most))).toNat).foldl (m_law_kinds_l0 numbers at_) ([] : List (Str × Int × Int)))
set_option hygiene false in
local macro_rules | `(tactic| walk_at "pre") => `(tactic| first | exact ⟨by omega, hpre.2.2.1, by omega, by omega⟩ | fail)
theorem sc_law_kinds : FnScope ["numbers", "at", "most", "kinds", "k", "cost"] ["numbers", "at", "most"] (defScope s_law_kinds) := ⟨rfl, rfl, rfl, by decide +kernel, rfl, by decide +kernel, by decide +kernel⟩
def sp_law_kinds : SpN := fun zcs zL zKc => ∃ numbers : List Int, ∃ at_ : Int, ∃ most : Int, zcs = [.fr ((eL D.int) numbers), .fr (D.int at_), .fr (D.int most)] ∧ zL = [] ∧ (0 ≤ at_ ∧ at_ + 1 + 2 * most ≤ numbers.length ∧ (∀ x ∈ numbers, 0 ≤ x ∧ x ≤ 1008) ∧ 1 ≤ most ∧ most ≤ 6 ∧ 3 ≤ numbers.length) ∧ ∀ zL', zKc (.fr ((eL (eT3 D.str D.int D.int)) (m_law_kinds numbers at_ most))) zL'
theorem ok_law_kinds (T : TX P K mg) : FnOk P w K mg base CX0 2 T.a_law_kinds T.d_law_kinds ["numbers", "at", "most"] (SpOf K mg sp_law_kinds) := by
  have O_law_name := ok_law_name (P := P) (w := w) (base := base) T
  have O_law_pick := ok_law_pick (P := P) (w := w) (base := base) T
  have O_law_scale := ok_law_scale (P := P) (w := w) (base := base) T
  refine T.F_law_kinds.okN sc_law_kinds (fun zcs zL zKc zh => by obtain ⟨numbers, at_, most, rfl, _⟩ := zh; rfl) fun zcdv zA zout zst zH zE zB zcs zL zKc zhr zh => ?_
  obtain ⟨numbers, at_, most, rfl, rfl, hpre, zk⟩ := zh
  have nd := sc_law_kinds.nd
  have hSL := sizeLine_eq
  have hpb := pick_bound numbers at_ (count := most) (by omega)
  have hsb := scale_bound (numbers := numbers)
  show Exs _ _ _ ⟨[some (.fr ((eL D.int) numbers)), some (.fr (D.int at_)), some (.fr (D.int most)), none, none, none], []⟩ _
  refine exs_cons (ex_set 3 (ev_lstN 100 (enc := (eT3 D.str D.int D.int)) ([] : List (Str × Int × Int)) ea_nil rfl (by simp only [List.length_cons, List.length_nil]; decide) (by simp [names]) (by decide)) ?_ nd rfl (.inl rfl))
  show Exs _ _ _ ⟨[some (.fr ((eL D.int) numbers)), some (.fr (D.int at_)), some (.fr (D.int most)), some (.ad 100), none, none], [(100, .fl ((([] : List (Str × Int × Int))).map (eT3 D.str D.int D.int)))]⟩ _
  refine exs_cons (ex_forF (enc := (fun i : Nat => D.int ((0 : Int) + (i : Int)))) (fun (zs0 : (List (Str × Int × Int))) => (⟨[some (.fr ((eL D.int) numbers)), some (.fr (D.int at_)), some (.fr (D.int most)), some (.ad 100), none, none], [(100, .fl ((zs0).map (eT3 D.str D.int D.int)))]⟩ : Nz.S)) (m_law_kinds_l0 numbers at_) ([] : List (Str × Int × Int)) (fun (zi0 : Nat) (zs0 : (List (Str × Int × Int))) => zs0.length = zi0) (src_range1 (ea_cons (ev_bin o_add ev_int (ev_call (ds := [(eL D.int) numbers, D.int at_, D.int most]) (ds' := []) (dvs := []) (dfs := []) O_law_pick (zhr.mono (by decide)) T.m_law_pick T.k_law_pick T.b_law_pick .nil (fun _ => .nil) (ea_cons (ev_var 0 rfl (.inl rfl) rfl) (ea_cons (ev_var 1 rfl (.inl rfl) rfl) (ea_cons (ev_var 2 rfl (.inl rfl) rfl) ea_nil))) (fun _ zkk => ⟨numbers, at_, most, rfl, rfl, (by walk_at "pre"), zkk⟩) (by exact rfl))) ea_nil) (by exact rfl) T.n_range (by walk_at "sd") (by walk_at "sd")) ⟨⟨.inr rfl, .inr rfl, .inr rfl, .inr rfl, .inl rfl, .inl rfl, trivial⟩, rfl⟩ (by simp) ?_ ?_ PassesOwn.never rfl)
  · intro zi0 zy0 zs0 zhy0 zq0
    skip
    have hy0 := seq_range zhy0
    have hi := (List.getElem?_eq_some_iff.mp zhy0).1
    simp only [List.length_range] at hi
    refine ⟨⟨[some (.fr ((eL D.int) numbers)), some (.fr (D.int at_)), some (.fr (D.int most)), some (.ad 100), some (.fr (D.int ((0 : Int) + (zy0 : Int)))), none], [(100, .fl ((zs0).map (eT3 D.str D.int D.int)))]⟩, (eg_name 4 nd rfl (.inl rfl)), ?_⟩
    refine exs_cons (ex_set 5 (ev_bin (o_mul (by walk_at "mul")) (ev_call (ds := [(eL D.int) numbers]) (ds' := []) (dvs := []) (dfs := []) O_law_scale (zhr.mono (by decide)) T.m_law_scale T.k_law_scale T.b_law_scale .nil (fun _ => .nil) (ea_cons (ev_var 0 rfl (.inl rfl) rfl) ea_nil) (fun _ zkk => ⟨numbers, rfl, rfl, (by walk_at "pre"), zkk⟩) (by exact rfl)) (ev_bin o_add ev_int (ev_call (ds := [(eL D.int) numbers, D.int ((at_ + (1 : Int)) + ((2 : Int) * ((0 : Int) + (zy0 : Int)))), D.int (4 : Int)]) (ds' := []) (dvs := []) (dfs := []) O_law_pick (zhr.mono (by decide)) T.m_law_pick T.k_law_pick T.b_law_pick .nil (fun _ => .nil) (ea_cons (ev_var 0 rfl (.inl rfl) rfl) (ea_cons (ev_bin o_add (ev_bin o_add (ev_var 1 rfl (.inl rfl) rfl) ev_int) (ev_bin (o_mul (by walk_at "mul")) ev_int (ev_var 4 rfl (.inl rfl) rfl))) (ea_cons ev_int ea_nil))) (fun _ zkk => ⟨numbers, ((at_ + (1 : Int)) + ((2 : Int) * ((0 : Int) + (zy0 : Int)))), (4 : Int), rfl, rfl, (by walk_at "pre"), zkk⟩) (by exact rfl)))) ?_ nd rfl (.inl rfl))
    show Exs _ _ _ ⟨[some (.fr ((eL D.int) numbers)), some (.fr (D.int at_)), some (.fr (D.int most)), some (.ad 100), some (.fr (D.int ((0 : Int) + (zy0 : Int)))), some (.fr (D.int ((m_law_scale numbers) * ((1 : Int) + (m_law_pick numbers ((at_ + (1 : Int)) + ((2 : Int) * ((0 : Int) + (zy0 : Int)))) (4 : Int))))))], [(100, .fl ((zs0).map (eT3 D.str D.int D.int)))]⟩ _
    generalize zg_cost : ((m_law_scale numbers) * ((1 : Int) + (m_law_pick numbers ((at_ + (1 : Int)) + ((2 : Int) * ((0 : Int) + (zy0 : Int)))) (4 : Int)))) = cost
    show Exs _ _ _ ⟨[some (.fr ((eL D.int) numbers)), some (.fr (D.int at_)), some (.fr (D.int most)), some (.ad 100), some (.fr (D.int ((0 : Int) + (zy0 : Int)))), some (.fr (D.int cost))], [(100, .fl ((zs0).map (eT3 D.str D.int D.int)))]⟩ _
    refine exs_one (ex_expr (ev_appendT (n := 100) (enc := (eT3 D.str D.int D.int)) (xs := zs0) (xs0 := zs0) ((m_law_name numbers ((0 : Int) + (zy0 : Int))), cost, ((1 : Int) + (m_law_pick numbers ((at_ + (2 : Int)) + ((2 : Int) * ((0 : Int) + (zy0 : Int)))) (9 : Int)))) rfl rfl rfl (by walk_at "sd") (ev_var 3 rfl (.inl rfl) rfl) (ev_tup (ds := [D.str (m_law_name numbers ((0 : Int) + (zy0 : Int))), D.int cost, D.int ((1 : Int) + (m_law_pick numbers ((at_ + (2 : Int)) + ((2 : Int) * ((0 : Int) + (zy0 : Int)))) (9 : Int)))]) (ea_cons (ev_call (ds := [(eL D.int) numbers, D.int ((0 : Int) + (zy0 : Int))]) (ds' := []) (dvs := []) (dfs := []) O_law_name (zhr.mono (by decide)) T.m_law_name T.k_law_name T.b_law_name .nil (fun _ => .nil) (ea_cons (ev_var 0 rfl (.inl rfl) rfl) (ea_cons (ev_var 4 rfl (.inl rfl) rfl) ea_nil)) (fun _ zkk => ⟨numbers, ((0 : Int) + (zy0 : Int)), rfl, rfl, (by walk_at "pre"), zkk⟩) (by exact rfl)) (ea_cons (ev_var 5 rfl (.inl rfl) rfl) (ea_cons (ev_bin o_add ev_int (ev_call (ds := [(eL D.int) numbers, D.int ((at_ + (2 : Int)) + ((2 : Int) * ((0 : Int) + (zy0 : Int)))), D.int (9 : Int)]) (ds' := []) (dvs := []) (dfs := []) O_law_pick (zhr.mono (by decide)) T.m_law_pick T.k_law_pick T.b_law_pick .nil (fun _ => .nil) (ea_cons (ev_var 0 rfl (.inl rfl) rfl) (ea_cons (ev_bin o_add (ev_bin o_add (ev_var 1 rfl (.inl rfl) rfl) ev_int) (ev_bin (o_mul (by walk_at "mul")) ev_int (ev_var 4 rfl (.inl rfl) rfl))) (ea_cons ev_int ea_nil))) (fun _ zkk => ⟨numbers, ((at_ + (2 : Int)) + ((2 : Int) * ((0 : Int) + (zy0 : Int)))), (9 : Int), rfl, rfl, (by walk_at "pre"), zkk⟩) (by exact rfl))) ea_nil))) (by simp only [List.length_cons, List.length_nil]; decide))) ?_)
    have est : (m_law_kinds_l0 numbers at_) zs0 zy0 = (zs0 ++ [((m_law_name numbers ((0 : Int) + (zy0 : Int))), cost, ((1 : Int) + (m_law_pick numbers ((at_ + (2 : Int)) + ((2 : Int) * ((0 : Int) + (zy0 : Int)))) (9 : Int))))]) := by subst zg_cost; simp only [m_law_kinds_l0, not_true_eq_false, not_false_eq_true, ↓reduceIte]
    show Le _ _ ∧ _
    try rw [est]
    exact ⟨⟨⟨.inr rfl, .inr rfl, .inr rfl, .inr rfl, .inl rfl, .inl rfl, trivial⟩, rfl⟩, (by simp; omega)⟩
  · intro zq0
    show Exs _ _ _ ⟨[some (.fr ((eL D.int) numbers)), some (.fr (D.int at_)), some (.fr (D.int most)), some (.ad 100), none, none], [(100, .fl ((((List.range (((1 : Int) + (m_law_pick numbers at_ most))).toNat).foldl (m_law_kinds_l0 numbers at_) ([] : List (Str × Int × Int)))).map (eT3 D.str D.int D.int)))]⟩ _
    refine exs_freezeT 100 (xs := ((List.range (((1 : Int) + (m_law_pick numbers at_ most))).toNat).foldl (m_law_kinds_l0 numbers at_) ([] : List (Str × Int × Int)))) (enc := (eT3 D.str D.int D.int)) (by exact rfl) ?_
    show Exs _ _ _ ⟨[some (.fr ((eL D.int) numbers)), some (.fr (D.int at_)), some (.fr (D.int most)), some (.fr ((eL (eT3 D.str D.int D.int)) ((List.range (((1 : Int) + (m_law_pick numbers at_ most))).toNat).foldl (m_law_kinds_l0 numbers at_) ([] : List (Str × Int × Int))))), none, none], []⟩ _
    refine exs_one (ex_ret (ev_var 3 rfl (.inl rfl) rfl) ?_)
    have efin : m_law_kinds numbers at_ most = ((List.range (((1 : Int) + (m_law_pick numbers at_ most))).toNat).foldl (m_law_kinds_l0 numbers at_) ([] : List (Str × Int × Int))) := by simp only [m_law_kinds, not_true_eq_false, not_false_eq_true, ↓reduceIte]
    rw [efin] at zk
    exact zk _
def m_law_ways_l0 (numbers : List Int) (at_ : Int) (kinds : List (Str × Int × Int)) (zs0 : (List (Str × Str × Int))) (zy0 : Nat) : (List (Str × Str × Int)) :=
  let source : Str := (kinds.getD ((m_law_pick numbers ((at_ + (1 : Int)) + ((3 : Int) * ((0 : Int) + (zy0 : Int)))) (kinds.length : Int))).toNat default).1
  let target : Str := (kinds.getD ((m_law_pick numbers ((at_ + (2 : Int)) + ((3 : Int) * ((0 : Int) + (zy0 : Int)))) (kinds.length : Int))).toNat default).1
  (zs0 ++ [(source, target, ((1 : Int) + (m_law_pick numbers ((at_ + (3 : Int)) + ((3 : Int) * ((0 : Int) + (zy0 : Int)))) (6 : Int))))])
def m_law_ways (numbers : List Int) (at_ : Int) (kinds : List (Str × Int × Int)) (most : Int) : List (Str × Str × Int) :=
  ((List.range ((m_law_pick numbers at_ (most + (1 : Int)))).toNat).foldl (m_law_ways_l0 numbers at_ kinds) ([] : List (Str × Str × Int)))
theorem kq_good : ∀ i : Fin 6, ∃ j : Fin 36, chA (Str.ofString "kq3zx9") (i.val : Int) = chA ALPH (j.val : Int) := by decide +kernel
theorem kq_inj : ∀ i j : Fin 6, (Str.ofString "kq3zx9").cps.toList.getD i.val 0 = (Str.ofString "kq3zx9").cps.toList.getD j.val 0 → i = j := by decide +kernel
def nameB (A B : Str) (k : Int) : Str := (A ++ chA (Str.ofString "kq3zx9") k) ++ B
theorem nameB_len (A B : Str) (k : Int) : (nameB A B k).length = A.length + B.length + 1 := by
  unfold nameB
  rw [str_len_append, str_len_append, chA_len]; omega
theorem nameB_inj {A B : Str} {a b : Nat} (ha : a < 6) (hb : b < 6) (h : nameB A B (a : Int) = nameB A B (b : Int)) : a = b := by
  have e := congrArg (fun z : Str => z.cps.toList) h
  unfold nameB at e
  rw [cs_append, cs_append, cs_append, cs_append] at e
  have e2 := List.append_cancel_left (List.append_cancel_right e)
  unfold chA at e2
  have e3 : (Str.ofString "kq3zx9").cps.toList.getD a 0 = (Str.ofString "kq3zx9").cps.toList.getD b 0 := by simpa using e2
  exact congrArg Fin.val (kq_inj ⟨a, ha⟩ ⟨b, hb⟩ e3)
theorem name_shape {numbers : List Int} (hn : ∀ x ∈ numbers, 0 ≤ x ∧ x ≤ 1008) : ∃ A B : Str, Good A ∧ Good B ∧ A.length + B.length ≤ 4 ∧ ∀ k, m_law_name numbers k = nameB A B k := by
  unfold m_law_name
  dsimp only
  have hb := getD_bound hn ((numbers.length : Int) - 2).toNat
  generalize hr : Txt.join (Str.ofString "") ((List.range (numbers.getD ((numbers.length : Int) - 2).toNat default % 5).toNat).map _) = rest
  have gr : Good rest := by
    rw [← hr]
    refine good_join fun y hy => ?_
    obtain ⟨i, _, rfl⟩ := List.mem_map.mp hy
    exact good_ch _ (by omega) (by omega)
  have lr : rest.length ≤ 4 := by
    rw [← hr, join0_len, List.length_map, List.length_range]
    · omega
    · intro y hy; obtain ⟨i, _, rfl⟩ := List.mem_map.mp hy; rfl
  have hp : 0 ≤ numbers.getD ((numbers.length : Int) - 3).toNat default % ((rest.length : Int) + 1) := Int.emod_nonneg _ (by omega)
  have h2 := cut_two rest _ hp
  exact ⟨_, _, good_cut gr _ _, good_cut gr _ _, by omega, fun k => rfl⟩
theorem nameB_good {A B : Str} (g1 : Good A) (g2 : Good B) {k : Nat} (hk : k < 6) : Good (nameB A B (k : Int)) := by
  refine good_app (good_app g1 ?_) g2
  obtain ⟨j, hj⟩ := kq_good ⟨k, hk⟩
  rw [show chA (Str.ofString "kq3zx9") (k : Int) = chA ALPH (j.val : Int) from hj]
  exact good_ch _ (by omega) (by have := j.isLt; omega)
def kindB (numbers : List Int) (at_ : Int) (A B : Str) (y : Nat) : Str × Int × Int :=
  (nameB A B (0 + (y : Int)), m_law_scale numbers * (1 + m_law_pick numbers (at_ + 1 + 2 * (0 + (y : Int))) 4), 1 + m_law_pick numbers (at_ + 2 + 2 * (0 + (y : Int))) 9)
theorem kinds_shape {numbers : List Int} (hn : ∀ x ∈ numbers, 0 ≤ x ∧ x ≤ 1008) (at_ most : Int) : ∃ A B : Str, Good A ∧ Good B ∧ A.length + B.length ≤ 4 ∧ m_law_kinds numbers at_ most = (List.range (1 + m_law_pick numbers at_ most).toNat).map (kindB numbers at_ A B) := by
  obtain ⟨A, B, g1, g2, g3, e⟩ := name_shape hn
  refine ⟨A, B, g1, g2, g3, ?_⟩
  unfold m_law_kinds
  have ef : ∀ (ys : List Nat), ys.foldl (m_law_kinds_l0 numbers at_) [] = ys.map (kindB numbers at_ A B) := fun ys => by
    rw [fold_snoc (kindB numbers at_ A B) (m_law_kinds_l0 numbers at_) (fun s y => ?_), List.nil_append]
    unfold m_law_kinds_l0 kindB
    rw [e]
  exact ef _
/-- what a list of kinds of a law keeps -/
structure KindsOk (kinds : List (Str × Int × Int)) : Prop where
  are : m_are_kinds kinds = true
  le : kinds.length ≤ 8
  pos : 1 ≤ kinds.length
  short : ∀ k ∈ kinds, k.1.length ≤ 1000
  cost : ∀ k ∈ kinds, 1 ≤ k.2.1 ∧ k.2.1 ≤ 1000
  due : ∀ k ∈ kinds, 1 ≤ k.2.2 ∧ k.2.2 ≤ 1000
theorem kinds_ok_of {numbers : List Int} {at_ : Int} {A B : Str} (g1 : Good A) (g2 : Good B) (g3 : A.length + B.length ≤ 4) {n : Nat} (n1 : 1 ≤ n) (n6 : n ≤ 6) : KindsOk ((List.range n).map (kindB numbers at_ A B)) := by
  have nm : ∀ y, (kindB numbers at_ A B y).1 = nameB A B (y : Int) := fun y => by unfold kindB; dsimp only; rw [Int.zero_add]
  have en : ((List.range n).map (kindB numbers at_ A B)).map (fun z : Str × Int × Int => z.1) = (List.range n).map (fun y : Nat => nameB A B (y : Int)) := by
    rw [List.map_map]
    exact List.map_congr_left fun y hy => nm y
  have nd : ((List.range n).map (fun y : Nat => nameB A B (y : Int))).Nodup := by
    unfold List.Nodup
    rw [List.pairwise_map]
    exact List.Pairwise.imp_of_mem (fun ha hb hne q => hne (nameB_inj (by have := List.mem_range.mp ha; omega) (by have := List.mem_range.mp hb; omega) q)) (List.nodup_range (n := n))
  have hc : ∀ k ∈ (List.range n).map (kindB numbers at_ A B), 1 ≤ k.2.1 ∧ k.2.1 ≤ 1000 := fun k hk => by
    obtain ⟨y, hy, rfl⟩ := List.mem_map.mp hk
    unfold kindB
    dsimp only
    obtain ⟨s1, s2⟩ := scale_bound (numbers := numbers)
    obtain ⟨p1, p2⟩ := pick_bound numbers (at_ + 1 + 2 * (0 + (y : Int))) (count := 4) (by decide)
    generalize m_law_scale numbers = s at *
    generalize m_law_pick numbers (at_ + 1 + 2 * (0 + (y : Int))) 4 = p at *
    have : p = 0 ∨ p = 1 ∨ p = 2 ∨ p = 3 := by omega
    rcases this with rfl | rfl | rfl | rfl <;> omega
  have hd : ∀ k ∈ (List.range n).map (kindB numbers at_ A B), 1 ≤ k.2.2 ∧ k.2.2 ≤ 1000 := fun k hk => by
    obtain ⟨y, hy, rfl⟩ := List.mem_map.mp hk
    unfold kindB
    dsimp only
    have := pick_bound numbers (at_ + 2 + 2 * (0 + (y : Int))) (count := 9) (by decide)
    omega
  have hl : ∀ k ∈ (List.range n).map (kindB numbers at_ A B), k.1.length ≤ 1000 := fun k hk => by
    obtain ⟨y, hy, rfl⟩ := List.mem_map.mp hk
    rw [nm, nameB_len]; omega
  refine ⟨?_, by rw [List.length_map, List.length_range]; omega, by rw [List.length_map, List.length_range]; omega, hl, hc, hd⟩
  unfold m_are_kinds
  rw [if_neg (fun q => q ⟨by rw [List.length_map, List.length_range]; omega, by rw [List.length_map, List.length_range]; omega⟩), Bool.and_eq_true]
  constructor
  · rw [List.all_eq_true]
    intro b hb
    obtain ⟨k, hk, rfl⟩ := List.mem_map.mp hb
    have h1 := hc k hk
    have h2 := hd k hk
    obtain ⟨y, hy, rfl⟩ := List.mem_map.mp hk
    have hy := List.mem_range.mp hy
    unfold m_is_kind m_is_integer
    rw [if_neg (by rintro (q | q) <;> exact q rfl), nm y, good_name (nameB_good g1 g2 (by omega)) (by rw [nameB_len]; omega) (by rw [nameB_len]; omega)]
    rw [decide_eq_true h1.1, decide_eq_true h1.2, decide_eq_true h2.1, decide_eq_true h2.2]; rfl
  · unfold m_are_different
    rw [en]
    exact decide_eq_true (by rw [(cntS_nodup _).mpr nd])
theorem kinds_ok {numbers : List Int} (hn : ∀ x ∈ numbers, 0 ≤ x ∧ x ≤ 1008) (at_ : Int) {most : Int} (h1 : 1 ≤ most) (h6 : most ≤ 6) : KindsOk (m_law_kinds numbers at_ most) ∧ ((m_law_kinds numbers at_ most).length : Int) = 1 + m_law_pick numbers at_ most := by
  obtain ⟨A, B, g1, g2, g3, e⟩ := kinds_shape hn at_ most
  have hp := pick_bound numbers at_ (count := most) (by omega)
  rw [e]
  exact ⟨kinds_ok_of g1 g2 g3 (by omega) (by omega), by rw [List.length_map, List.length_range]; omega⟩
def wayB (numbers : List Int) (at_ : Int) (kinds : List (Str × Int × Int)) (y : Nat) : Str × Str × Int :=
  ((kinds.getD (m_law_pick numbers (at_ + 1 + 3 * (0 + (y : Int))) (kinds.length : Int)).toNat default).1,
   (kinds.getD (m_law_pick numbers (at_ + 2 + 3 * (0 + (y : Int))) (kinds.length : Int)).toNat default).1,
   1 + m_law_pick numbers (at_ + 3 + 3 * (0 + (y : Int))) 6)
theorem ways_shape (numbers : List Int) (at_ : Int) (kinds : List (Str × Int × Int)) (most : Int) : m_law_ways numbers at_ kinds most = (List.range (m_law_pick numbers at_ (most + 1)).toNat).map (wayB numbers at_ kinds) := by
  unfold m_law_ways
  have ef : ∀ (ys : List Nat), ys.foldl (m_law_ways_l0 numbers at_ kinds) [] = ys.map (wayB numbers at_ kinds) := fun ys => by
    rw [fold_snoc (wayB numbers at_ kinds) (m_law_ways_l0 numbers at_ kinds) (fun s y => rfl), List.nil_append]
  exact ef _
structure WaysOk (ways : List (Str × Str × Int)) (kinds : List (Str × Int × Int)) : Prop where
  are : m_are_ways ways kinds = true
  le : ways.length ≤ 16
  dist : ∀ w ∈ ways, 1 ≤ w.2.2 ∧ w.2.2 ≤ 1000
  ends : ∀ w ∈ ways, w.1 ∈ kinds.map (·.1) ∧ w.2.1 ∈ kinds.map (·.1)
theorem ways_ok_of {ways : List (Str × Str × Int)} {kinds : List (Str × Int × Int)} (h1 : ways.length ≤ 16) (h2 : ∀ w ∈ ways, 1 ≤ w.2.2 ∧ w.2.2 ≤ 1000) (h3 : ∀ w ∈ ways, w.1 ∈ kinds.map (·.1) ∧ w.2.1 ∈ kinds.map (·.1)) : WaysOk ways kinds := by
  refine ⟨?_, h1, h2, h3⟩
  unfold m_are_ways
  rw [if_neg (by omega), List.all_eq_true]
  intro b hb
  obtain ⟨w, hw, rfl⟩ := List.mem_map.mp hb
  unfold m_is_way m_is_integer
  rw [if_neg (by rintro (q | q) <;> exact q rfl), decide_eq_true (h3 w hw).1, decide_eq_true (h3 w hw).2, decide_eq_true (h2 w hw).1, decide_eq_true (h2 w hw).2]
  rfl
theorem ways_ok (numbers : List Int) (at_ : Int) {kinds : List (Str × Int × Int)} (hk : 1 ≤ kinds.length) {most : Int} (h0 : 0 ≤ most) (h16 : most ≤ 16) : WaysOk (m_law_ways numbers at_ kinds most) kinds ∧ ((m_law_ways numbers at_ kinds most).length : Int) ≤ most := by
  rw [ways_shape]
  have hp := pick_bound numbers at_ (count := most + 1) (by omega)
  have hmem : ∀ j : Int, (kinds.getD (m_law_pick numbers j (kinds.length : Int)).toNat default).1 ∈ kinds.map (fun zc3 : Str × Int × Int => zc3.1) := fun j => by
    have := pick_bound numbers j (count := (kinds.length : Int)) (by omega)
    exact List.mem_map.mpr ⟨_, getD_mem (by omega), rfl⟩
  refine ⟨ways_ok_of (by rw [List.length_map, List.length_range]; omega) (fun w hw => ?_) (fun w hw => ?_), by rw [List.length_map, List.length_range]; omega⟩
  · obtain ⟨y, _, rfl⟩ := List.mem_map.mp hw
    unfold wayB
    have := pick_bound numbers (at_ + 3 + 3 * (0 + (y : Int))) (count := 6) (by decide)
    dsimp only
    omega
  · obtain ⟨y, _, rfl⟩ := List.mem_map.mp hw
    exact ⟨hmem _, hmem _⟩
theorem task_ok {kinds : List (Str × Int × Int)} {ways : List (Str × Str × Int)} (hk : KindsOk kinds) (hw : WaysOk ways kinds) (name : Str) : Task.ok { name := name, kinds := kinds, ways := ways } := ⟨hk.are, hw.are⟩
theorem sc_law_ways : FnScope ["numbers", "at", "kinds", "most", "ways", "k", "source", "target"] ["numbers", "at", "kinds", "most"] (defScope s_law_ways) := ⟨rfl, rfl, rfl, by decide +kernel, rfl, by decide +kernel, by decide +kernel⟩
def sp_law_ways : SpN := fun zcs zL zKc => ∃ numbers : List Int, ∃ at_ : Int, ∃ kinds : List (Str × Int × Int), ∃ most : Int, zcs = [.fr ((eL D.int) numbers), .fr (D.int at_), .fr ((eL (eT3 D.str D.int D.int)) kinds), .fr (D.int most)] ∧ zL = [] ∧ (0 ≤ at_ ∧ at_ + 1 + 3 * most ≤ numbers.length ∧ 0 < kinds.length ∧ kinds.length ≤ 8 ∧ 0 ≤ most ∧ most ≤ 16) ∧ ∀ zL', zKc (.fr ((eL (eT3 D.str D.str D.int)) (m_law_ways numbers at_ kinds most))) zL'
theorem ok_law_ways (T : TX P K mg) : FnOk P w K mg base CX0 2 T.a_law_ways T.d_law_ways ["numbers", "at", "kinds", "most"] (SpOf K mg sp_law_ways) := by
  have O_law_pick := ok_law_pick (P := P) (w := w) (base := base) T
  refine T.F_law_ways.okN sc_law_ways (fun zcs zL zKc zh => by obtain ⟨numbers, at_, kinds, most, rfl, _⟩ := zh; rfl) fun zcdv zA zout zst zH zE zB zcs zL zKc zhr zh => ?_
  obtain ⟨numbers, at_, kinds, most, rfl, rfl, hpre, zk⟩ := zh
  have nd := sc_law_ways.nd
  have hSL := sizeLine_eq
  have hpb := pick_bound numbers at_ (count := most + 1) (by omega)
  show Exs _ _ _ ⟨[some (.fr ((eL D.int) numbers)), some (.fr (D.int at_)), some (.fr ((eL (eT3 D.str D.int D.int)) kinds)), some (.fr (D.int most)), none, none, none, none], []⟩ _
  refine exs_cons (ex_set 4 (ev_lstN 100 (enc := (eT3 D.str D.str D.int)) ([] : List (Str × Str × Int)) ea_nil rfl (by simp only [List.length_cons, List.length_nil]; decide) (by simp [names]) (by decide)) ?_ nd rfl (.inl rfl))
  show Exs _ _ _ ⟨[some (.fr ((eL D.int) numbers)), some (.fr (D.int at_)), some (.fr ((eL (eT3 D.str D.int D.int)) kinds)), some (.fr (D.int most)), some (.ad 100), none, none, none], [(100, .fl ((([] : List (Str × Str × Int))).map (eT3 D.str D.str D.int)))]⟩ _
  refine exs_cons (ex_forF (enc := (fun i : Nat => D.int ((0 : Int) + (i : Int)))) (fun (zs0 : (List (Str × Str × Int))) => (⟨[some (.fr ((eL D.int) numbers)), some (.fr (D.int at_)), some (.fr ((eL (eT3 D.str D.int D.int)) kinds)), some (.fr (D.int most)), some (.ad 100), none, none, none], [(100, .fl ((zs0).map (eT3 D.str D.str D.int)))]⟩ : Nz.S)) (m_law_ways_l0 numbers at_ kinds) ([] : List (Str × Str × Int)) (fun (zi0 : Nat) (zs0 : (List (Str × Str × Int))) => zs0.length = zi0) (src_range1 (ea_cons (ev_call (ds := [(eL D.int) numbers, D.int at_, D.int (most + (1 : Int))]) (ds' := []) (dvs := []) (dfs := []) O_law_pick (zhr.mono (by decide)) T.m_law_pick T.k_law_pick T.b_law_pick .nil (fun _ => .nil) (ea_cons (ev_var 0 rfl (.inl rfl) rfl) (ea_cons (ev_var 1 rfl (.inl rfl) rfl) (ea_cons (ev_bin o_add (ev_var 3 rfl (.inl rfl) rfl) ev_int) ea_nil))) (fun _ zkk => ⟨numbers, at_, (most + (1 : Int)), rfl, rfl, (by walk_at "pre"), zkk⟩) (by exact rfl)) ea_nil) (by exact rfl) T.n_range (by walk_at "sd") (by walk_at "sd")) ⟨⟨.inr rfl, .inr rfl, .inr rfl, .inr rfl, .inr rfl, .inl rfl, .inl rfl, .inl rfl, trivial⟩, rfl⟩ (by simp) ?_ ?_ PassesOwn.never rfl)
  · intro zi0 zy0 zs0 zhy0 zq0
    skip
    have hy0 := seq_range zhy0
    have hi := (List.getElem?_eq_some_iff.mp zhy0).1
    simp only [List.length_range] at hi
    have hq1 := pick_bound numbers (at_ + 1 + 3 * (0 + (zy0 : Int))) (count := (kinds.length : Int)) (by omega)
    have hq2 := pick_bound numbers (at_ + 2 + 3 * (0 + (zy0 : Int))) (count := (kinds.length : Int)) (by omega)
    refine ⟨⟨[some (.fr ((eL D.int) numbers)), some (.fr (D.int at_)), some (.fr ((eL (eT3 D.str D.int D.int)) kinds)), some (.fr (D.int most)), some (.ad 100), some (.fr (D.int ((0 : Int) + (zy0 : Int)))), none, none], [(100, .fl ((zs0).map (eT3 D.str D.str D.int)))]⟩, (eg_name 5 nd rfl (.inl rfl)), ?_⟩
    refine exs_cons (ex_set 6 (ev_ix (.t (d := D.str ((kinds.getD ((m_law_pick numbers ((at_ + (1 : Int)) + ((3 : Int) * ((0 : Int) + (zy0 : Int)))) (kinds.length : Int))).toNat default).1)) rfl) (ev_ix (ix_L (xs := kinds) (enc := (eT3 D.str D.int D.int)) (by exact rfl) (by walk_at "sd") (by walk_at "sd")) (ev_var 2 rfl (.inl rfl) rfl) (ev_call (ds := [(eL D.int) numbers, D.int ((at_ + (1 : Int)) + ((3 : Int) * ((0 : Int) + (zy0 : Int)))), D.int (kinds.length : Int)]) (ds' := []) (dvs := []) (dfs := []) O_law_pick (zhr.mono (by decide)) T.m_law_pick T.k_law_pick T.b_law_pick .nil (fun _ => .nil) (ea_cons (ev_var 0 rfl (.inl rfl) rfl) (ea_cons (ev_bin o_add (ev_bin o_add (ev_var 1 rfl (.inl rfl) rfl) ev_int) (ev_bin (o_mul (by walk_at "mul")) ev_int (ev_var 5 rfl (.inl rfl) rfl))) (ea_cons (ev_len (ln_L (xs := kinds) (enc := (eT3 D.str D.int D.int)) (by exact rfl)) (ev_var 2 rfl (.inl rfl) rfl) (by exact rfl) T.n_len) ea_nil))) (fun _ zkk => ⟨numbers, ((at_ + (1 : Int)) + ((3 : Int) * ((0 : Int) + (zy0 : Int)))), (kinds.length : Int), rfl, rfl, (by walk_at "pre"), zkk⟩) (by exact rfl))) ev_int) ?_ nd rfl (.inl rfl))
    show Exs _ _ _ ⟨[some (.fr ((eL D.int) numbers)), some (.fr (D.int at_)), some (.fr ((eL (eT3 D.str D.int D.int)) kinds)), some (.fr (D.int most)), some (.ad 100), some (.fr (D.int ((0 : Int) + (zy0 : Int)))), some (.fr (D.str ((kinds.getD ((m_law_pick numbers ((at_ + (1 : Int)) + ((3 : Int) * ((0 : Int) + (zy0 : Int)))) (kinds.length : Int))).toNat default).1))), none], [(100, .fl ((zs0).map (eT3 D.str D.str D.int)))]⟩ _
    generalize zg_source : (kinds.getD ((m_law_pick numbers ((at_ + (1 : Int)) + ((3 : Int) * ((0 : Int) + (zy0 : Int)))) (kinds.length : Int))).toNat default).1 = source
    show Exs _ _ _ ⟨[some (.fr ((eL D.int) numbers)), some (.fr (D.int at_)), some (.fr ((eL (eT3 D.str D.int D.int)) kinds)), some (.fr (D.int most)), some (.ad 100), some (.fr (D.int ((0 : Int) + (zy0 : Int)))), some (.fr (D.str source)), none], [(100, .fl ((zs0).map (eT3 D.str D.str D.int)))]⟩ _
    refine exs_cons (ex_set 7 (ev_ix (.t (d := D.str ((kinds.getD ((m_law_pick numbers ((at_ + (2 : Int)) + ((3 : Int) * ((0 : Int) + (zy0 : Int)))) (kinds.length : Int))).toNat default).1)) rfl) (ev_ix (ix_L (xs := kinds) (enc := (eT3 D.str D.int D.int)) (by exact rfl) (by walk_at "sd") (by walk_at "sd")) (ev_var 2 rfl (.inl rfl) rfl) (ev_call (ds := [(eL D.int) numbers, D.int ((at_ + (2 : Int)) + ((3 : Int) * ((0 : Int) + (zy0 : Int)))), D.int (kinds.length : Int)]) (ds' := []) (dvs := []) (dfs := []) O_law_pick (zhr.mono (by decide)) T.m_law_pick T.k_law_pick T.b_law_pick .nil (fun _ => .nil) (ea_cons (ev_var 0 rfl (.inl rfl) rfl) (ea_cons (ev_bin o_add (ev_bin o_add (ev_var 1 rfl (.inl rfl) rfl) ev_int) (ev_bin (o_mul (by walk_at "mul")) ev_int (ev_var 5 rfl (.inl rfl) rfl))) (ea_cons (ev_len (ln_L (xs := kinds) (enc := (eT3 D.str D.int D.int)) (by exact rfl)) (ev_var 2 rfl (.inl rfl) rfl) (by exact rfl) T.n_len) ea_nil))) (fun _ zkk => ⟨numbers, ((at_ + (2 : Int)) + ((3 : Int) * ((0 : Int) + (zy0 : Int)))), (kinds.length : Int), rfl, rfl, (by walk_at "pre"), zkk⟩) (by exact rfl))) ev_int) ?_ nd rfl (.inl rfl))
    show Exs _ _ _ ⟨[some (.fr ((eL D.int) numbers)), some (.fr (D.int at_)), some (.fr ((eL (eT3 D.str D.int D.int)) kinds)), some (.fr (D.int most)), some (.ad 100), some (.fr (D.int ((0 : Int) + (zy0 : Int)))), some (.fr (D.str source)), some (.fr (D.str ((kinds.getD ((m_law_pick numbers ((at_ + (2 : Int)) + ((3 : Int) * ((0 : Int) + (zy0 : Int)))) (kinds.length : Int))).toNat default).1)))], [(100, .fl ((zs0).map (eT3 D.str D.str D.int)))]⟩ _
    generalize zg_target : (kinds.getD ((m_law_pick numbers ((at_ + (2 : Int)) + ((3 : Int) * ((0 : Int) + (zy0 : Int)))) (kinds.length : Int))).toNat default).1 = target
    show Exs _ _ _ ⟨[some (.fr ((eL D.int) numbers)), some (.fr (D.int at_)), some (.fr ((eL (eT3 D.str D.int D.int)) kinds)), some (.fr (D.int most)), some (.ad 100), some (.fr (D.int ((0 : Int) + (zy0 : Int)))), some (.fr (D.str source)), some (.fr (D.str target))], [(100, .fl ((zs0).map (eT3 D.str D.str D.int)))]⟩ _
    refine exs_one (ex_expr (ev_appendT (n := 100) (enc := (eT3 D.str D.str D.int)) (xs := zs0) (xs0 := zs0) (source, target, ((1 : Int) + (m_law_pick numbers ((at_ + (3 : Int)) + ((3 : Int) * ((0 : Int) + (zy0 : Int)))) (6 : Int)))) rfl rfl rfl (by walk_at "sd") (ev_var 4 rfl (.inl rfl) rfl) (ev_tup (ds := [D.str source, D.str target, D.int ((1 : Int) + (m_law_pick numbers ((at_ + (3 : Int)) + ((3 : Int) * ((0 : Int) + (zy0 : Int)))) (6 : Int)))]) (ea_cons (ev_var 6 rfl (.inl rfl) rfl) (ea_cons (ev_var 7 rfl (.inl rfl) rfl) (ea_cons (ev_bin o_add ev_int (ev_call (ds := [(eL D.int) numbers, D.int ((at_ + (3 : Int)) + ((3 : Int) * ((0 : Int) + (zy0 : Int)))), D.int (6 : Int)]) (ds' := []) (dvs := []) (dfs := []) O_law_pick (zhr.mono (by decide)) T.m_law_pick T.k_law_pick T.b_law_pick .nil (fun _ => .nil) (ea_cons (ev_var 0 rfl (.inl rfl) rfl) (ea_cons (ev_bin o_add (ev_bin o_add (ev_var 1 rfl (.inl rfl) rfl) ev_int) (ev_bin (o_mul (by walk_at "mul")) ev_int (ev_var 5 rfl (.inl rfl) rfl))) (ea_cons ev_int ea_nil))) (fun _ zkk => ⟨numbers, ((at_ + (3 : Int)) + ((3 : Int) * ((0 : Int) + (zy0 : Int)))), (6 : Int), rfl, rfl, (by walk_at "pre"), zkk⟩) (by exact rfl))) ea_nil))) (by simp only [List.length_cons, List.length_nil]; decide))) ?_)
    have est : (m_law_ways_l0 numbers at_ kinds) zs0 zy0 = (zs0 ++ [(source, target, ((1 : Int) + (m_law_pick numbers ((at_ + (3 : Int)) + ((3 : Int) * ((0 : Int) + (zy0 : Int)))) (6 : Int))))]) := by subst zg_target; subst zg_source; simp only [m_law_ways_l0, not_true_eq_false, not_false_eq_true, ↓reduceIte]
    show Le _ _ ∧ _
    try rw [est]
    exact ⟨⟨⟨.inr rfl, .inr rfl, .inr rfl, .inr rfl, .inr rfl, .inl rfl, .inl rfl, .inl rfl, trivial⟩, rfl⟩, (by simp; omega)⟩
  · intro zq0
    show Exs _ _ _ ⟨[some (.fr ((eL D.int) numbers)), some (.fr (D.int at_)), some (.fr ((eL (eT3 D.str D.int D.int)) kinds)), some (.fr (D.int most)), some (.ad 100), none, none, none], [(100, .fl ((((List.range ((m_law_pick numbers at_ (most + (1 : Int)))).toNat).foldl (m_law_ways_l0 numbers at_ kinds) ([] : List (Str × Str × Int)))).map (eT3 D.str D.str D.int)))]⟩ _
    refine exs_freezeT 100 (xs := ((List.range ((m_law_pick numbers at_ (most + (1 : Int)))).toNat).foldl (m_law_ways_l0 numbers at_ kinds) ([] : List (Str × Str × Int)))) (enc := (eT3 D.str D.str D.int)) (by exact rfl) ?_
    show Exs _ _ _ ⟨[some (.fr ((eL D.int) numbers)), some (.fr (D.int at_)), some (.fr ((eL (eT3 D.str D.int D.int)) kinds)), some (.fr (D.int most)), some (.fr ((eL (eT3 D.str D.str D.int)) ((List.range ((m_law_pick numbers at_ (most + (1 : Int)))).toNat).foldl (m_law_ways_l0 numbers at_ kinds) ([] : List (Str × Str × Int))))), none, none, none], []⟩ _
    refine exs_one (ex_ret (ev_var 4 rfl (.inl rfl) rfl) ?_)
    have efin : m_law_ways numbers at_ kinds most = ((List.range ((m_law_pick numbers at_ (most + (1 : Int)))).toNat).foldl (m_law_ways_l0 numbers at_ kinds) ([] : List (Str × Str × Int))) := by simp only [m_law_ways, not_true_eq_false, not_false_eq_true, ↓reduceIte]
    rw [efin] at zk
    exact zk _
def m_law_number_l0 (kinds : List (Str × Int × Int)) (name : Str) (zs0 : Unit) (zy0 : Nat) : Except Int (Unit) :=
  if ((kinds.getD (((0 : Int) + (zy0 : Int))).toNat default).1 = name) then .error ((0 : Int) + (zy0 : Int)) else .ok ()
def m_law_number (kinds : List (Str × Int × Int)) (name : Str) : Int :=
  match (runE (m_law_number_l0 kinds name) (List.range ((kinds.length : Int)).toNat) ()) with | .error r => r | .ok zs0 => (0 : Int)
theorem sc_law_number : FnScope ["kinds", "name", "number"] ["kinds", "name"] (defScope s_law_number) := ⟨rfl, rfl, rfl, by decide +kernel, rfl, by decide +kernel, by decide +kernel⟩
def sp_law_number : SpN := fun zcs zL zKc => ∃ kinds : List (Str × Int × Int), ∃ name : Str, zcs = [.fr ((eL (eT3 D.str D.int D.int)) kinds), .fr (D.str name)] ∧ zL = [] ∧ (kinds.length ≤ 1000) ∧ ∀ zL', zKc (.fr (D.int (m_law_number kinds name))) zL'
theorem ok_law_number (T : TX P K mg) : FnOk P w K mg base CX0 1 T.a_law_number T.d_law_number ["kinds", "name"] (SpOf K mg sp_law_number) := by
  refine T.F_law_number.okN sc_law_number (fun zcs zL zKc zh => by obtain ⟨kinds, name, rfl, _⟩ := zh; rfl) fun zcdv zA zout zst zH zE zB zcs zL zKc zhr zh => ?_
  obtain ⟨kinds, name, rfl, rfl, hpre, zk⟩ := zh
  have nd := sc_law_number.nd
  have hSL := sizeLine_eq
  show Exs _ _ _ ⟨[some (.fr ((eL (eT3 D.str D.int D.int)) kinds)), some (.fr (D.str name)), none], []⟩ _
  refine exs_cons (ex_forE (enc := (fun i : Nat => D.int ((0 : Int) + (i : Int)))) (fun (zs0 : Unit) => (⟨[some (.fr ((eL (eT3 D.str D.int D.int)) kinds)), some (.fr (D.str name)), none], []⟩ : Nz.S)) (m_law_number_l0 kinds name) () (fun (zi0 : Nat) (zs0 : Unit) => True) (fun r c S' => c = .fr (D.int r) ∧ True) (src_range1 (ea_cons (ev_len (ln_L (xs := kinds) (enc := (eT3 D.str D.int D.int)) (by exact rfl)) (ev_var 0 rfl (.inl rfl) rfl) (by exact rfl) T.n_len) ea_nil) (by exact rfl) T.n_range (by walk_at "sd") (by walk_at "sd")) ⟨⟨.inr rfl, .inr rfl, .inl rfl, trivial⟩, rfl⟩ trivial ?_ ?_ ?_ PassesOwn.never rfl)
  · intro zi0 zy0 zs0 zhy0 zrun0 zq0
    skip
    have hy0 := seq_range zhy0
    have hi := (List.getElem?_eq_some_iff.mp zhy0).1
    simp only [List.length_range] at hi
    refine ⟨⟨[some (.fr ((eL (eT3 D.str D.int D.int)) kinds)), some (.fr (D.str name)), some (.fr (D.int ((0 : Int) + (zy0 : Int))))], []⟩, (eg_name 2 nd rfl (.inl rfl)), ?_⟩
    refine exs_one (ex_ifP bd_d (et_cmp o_eqs (ev_ix (.t (d := D.str ((kinds.getD (((0 : Int) + (zy0 : Int))).toNat default).1)) rfl) (ev_ix (ix_L (xs := kinds) (enc := (eT3 D.str D.int D.int)) (by exact rfl) (by walk_at "sd") (by walk_at "sd")) (ev_var 0 rfl (.inl rfl) rfl) (ev_var 2 rfl (.inl rfl) rfl)) ev_int) (ev_var 1 rfl (.inl rfl) rfl) (nomark _)) (fun (zh1 : ((kinds.getD (((0 : Int) + (zy0 : Int))).toNat default).1 = name)) => ?_) (fun (zh1 : ¬ ((kinds.getD (((0 : Int) + (zy0 : Int))).toNat default).1 = name)) => ?_))
    · skip
      refine exs_one (ex_ret (ev_var 2 rfl (.inl rfl) rfl) ?_)
      have est : (m_law_number_l0 kinds name) zs0 zy0 = .error ((0 : Int) + (zy0 : Int)) := by simp only [m_law_number_l0, not_true_eq_false, not_false_eq_true, ↓reduceIte, ↓if_pos zh1]
      exact ⟨_, est, rfl, trivial⟩
    · skip
      refine exs_nil ?_
      have est : (m_law_number_l0 kinds name) zs0 zy0 = .ok () := by simp only [m_law_number_l0, not_true_eq_false, not_false_eq_true, ↓reduceIte, ↓if_neg zh1]
      exact ⟨_, est, ⟨⟨.inr rfl, .inr rfl, .inl rfl, trivial⟩, rfl⟩, trivial⟩
  · rintro zr zc zS zrun0 ⟨rfl, zhL⟩
    skip
    have zh2 := zrun0
    have efin : m_law_number kinds name = zr := by simp only [m_law_number, not_true_eq_false, not_false_eq_true, ↓reduceIte, ↓zh2]
    rw [efin] at zk
    exact zk _
  · intro zs0 zrun0 zq0
    have zh3 := zrun0
    show Exs _ _ _ ⟨[some (.fr ((eL (eT3 D.str D.int D.int)) kinds)), some (.fr (D.str name)), none], []⟩ _
    refine exs_one (ex_ret ev_int ?_)
    have efin : m_law_number kinds name = (0 : Int) := by simp only [m_law_number, not_true_eq_false, not_false_eq_true, ↓reduceIte, ↓zh3]
    rw [efin] at zk
    exact zk _
def m_circuits_behind_l0 (zrec : (List (Int × Int)) → (List Int) → (List Int) → (List (List Int))) (ends : List (Int × Int)) (sources : List Int) (path : List Int) (zs0 : (List (List Int))) (zy0 : Int × (Int × Int)) : (List (List Int)) :=
  if (¬ (zy0.2.1 = (sources.getLastD default))) then zs0 else if (zy0.2.2 = (sources.getD ((0 : Int)).toNat default)) then (zs0 ++ [(path ++ [zy0.1])]) else if (((sources.getD ((0 : Int)).toNat default) < zy0.2.2) ∧ (¬ (zy0.2.2 ∈ sources))) then (zs0 ++ (zrec ends (sources ++ [zy0.2.2]) (path ++ [zy0.1]))) else zs0
def m_circuits_behind : Nat → (List (Int × Int)) → (List Int) → (List Int) → (List (List Int))
  | 0, _, _, _ => default
  | zn + 1, ends, sources, path =>
  ((enL 0 ends).foldl (m_circuits_behind_l0 (m_circuits_behind zn) ends sources path) ([] : List (List Int)))
theorem mem_enL {τ : Type} : ∀ {k : Nat} {xs : List τ} {y : Int × τ}, y ∈ enL k xs → y.2 ∈ xs
  | _, [], _, h => by cases h
  | k, x :: xs, y, h => by
    rcases List.mem_cons.mp h with rfl | h
    · exact List.mem_cons_self
    · exact List.mem_cons_of_mem _ (mem_enL h)
def Cap (n k : Nat) : Prop := n ≤ k * 65536
theorem cap_le {n k : Nat} (h : Cap n k) (hk : k ≤ 16) : n ≤ 1048576 := Nat.le_trans h (Nat.mul_le_mul_right 65536 hk)
theorem cap_0 {n k : Nat} (h : Cap n k) : Cap n (k + 1) := Nat.le_trans h (Nat.mul_le_mul_right 65536 (Nat.le_succ k))
theorem cap_2 {τ : Type} {xs ys : List τ} {k : Nat} (h : Cap xs.length k) (h2 : ys.length ≤ 65536) : Cap (xs ++ ys).length (k + 1) := by
  unfold Cap at *
  rw [List.length_append, Nat.succ_mul]; omega
theorem cap_1 {τ : Type} {xs : List τ} {x : τ} {k : Nat} (h : Cap xs.length k) : Cap (xs ++ [x]).length (k + 1) := cap_2 h (by simp)
theorem pig8 : ∀ (k : Nat) (xs : List Int), xs.Nodup → (∀ x ∈ xs, 0 ≤ x ∧ x < (k : Int)) → xs.length ≤ k
  | 0, [], _, _ => Nat.le_refl _
  | 0, x :: _, _, h => by have := h x List.mem_cons_self; omega
  | k + 1, xs, nd, h => by
    by_cases q : (k : Int) ∈ xs
    · have h1 := pig8 k (xs.erase (k : Int)) (nd.erase _) (fun x hx => by
        have h2 := (List.Nodup.mem_erase_iff nd).mp hx
        have := h x h2.2
        have := h2.1
        omega)
      have := List.length_erase_of_mem q
      omega
    · have h1 := pig8 k xs nd (fun x hx => by
        have := h x hx
        have : x ≠ (k : Int) := fun e => q (e ▸ hx)
        omega)
      omega
theorem nodup_snoc {xs : List Int} {x : Int} (h : xs.Nodup) (q : x ∉ xs) : (xs ++ [x]).Nodup := by
  rw [List.nodup_append]
  exact ⟨h, by simp, fun a ha b hb e => by rw [List.mem_singleton] at hb; subst hb; subst e; exact q ha⟩
theorem last_split {xs : List Int} (h : xs ≠ []) : xs = xs.dropLast ++ [xs.getLastD default] := by
  obtain ⟨ys, y, rfl⟩ : ∃ ys y, xs = ys ++ [y] := ⟨xs.dropLast, xs.getLast h, (List.dropLast_concat_getLast h).symm⟩
  simp
theorem enL_filter {τ : Type} (p : τ → Bool) : ∀ (k : Nat) (xs : List τ), ((enL k xs).filter fun e => p e.2).length = (xs.filter p).length
  | _, [] => rfl
  | k, x :: xs => by
    show ((((k : Int), x) :: enL (k + 1) xs).filter fun e => p e.2).length = _
    rw [List.filter_cons, List.filter_cons]
    split <;> simp only [List.length_cons, enL_filter p (k + 1) xs]
theorem enL_len {τ : Type} : ∀ (k : Nat) (xs : List τ), (enL k xs).length = xs.length
  | _, [] => rfl
  | k, x :: xs => by show (enL (k + 1) xs).length + 1 = _; rw [enL_len (k + 1) xs]; rfl
def outE (ends : List (Int × Int)) (used : List Int) : Nat := (ends.filter fun e => decide (e.1 ∉ used)).length
theorem outE_split {used : List Int} {x : Int} (h : x ∉ used) : ∀ ends : List (Int × Int), outE ends used = (ends.filter fun e => decide (e.1 = x)).length + outE ends (used ++ [x])
  | [] => rfl
  | e :: es => by
    have ih := outE_split h es
    unfold outE at ih ⊢
    rw [List.filter_cons, List.filter_cons, List.filter_cons]
    by_cases q : e.1 = x
    · rw [if_pos (by rw [q]; simp [h]), if_pos (by simp [q]), if_neg (by simp [q])]
      simp only [List.length_cons]; omega
    · by_cases q2 : e.1 ∈ used
      · rw [if_neg (by simp [q2]), if_neg (by simp [q]), if_neg (by simp [q2])]; exact ih
      · rw [if_pos (by simp [q2]), if_neg (by simp [q]), if_pos (by simp [q2, q])]
        simp only [List.length_cons]; omega
theorem cb_len : ∀ (n : Nat) (ends : List (Int × Int)) (sources path : List Int), sources ≠ [] → sources.Nodup → (m_circuits_behind n ends sources path).length ≤ 2 ^ outE ends sources.dropLast
  | 0, _, _, _, _, _ => Nat.zero_le _
  | n + 1, ends, sources, path, hne, hnd => by
    have hs := last_split hne
    generalize hl : sources.getLastD default = last at hs
    generalize hd : sources.dropLast = dl at hs ⊢
    have hnl : last ∉ dl := by
      rw [hs, List.nodup_append] at hnd
      exact fun q => hnd.2.2 last q last (by simp) rfl
    have one : 1 ≤ 2 ^ outE ends sources := Nat.one_le_two_pow
    have step : ∀ (s : List (List Int)) (e : Int × Int × Int), (m_circuits_behind_l0 (m_circuits_behind n) ends sources path s e).length ≤ s.length + (if e.2.1 = last then 2 ^ outE ends sources else 0) := fun s e => by
      unfold m_circuits_behind_l0
      rw [hl]
      by_cases q : e.2.1 = last
      · rw [if_neg (fun z => z q), if_pos q]
        split
        · simp; omega
        · split
          · rename_i q2
            rw [List.length_append]
            have := cb_len n ends (sources ++ [e.2.2]) (path ++ [e.1]) (by simp) (nodup_snoc hnd q2.2)
            rw [List.dropLast_concat] at this
            omega
          · omega
      · rw [if_pos q, if_neg q]; omega
    have fold : ∀ (es : List (Int × Int × Int)) (s : List (List Int)), (es.foldl (m_circuits_behind_l0 (m_circuits_behind n) ends sources path) s).length ≤ s.length + (es.filter fun e => decide (e.2.1 = last)).length * 2 ^ outE ends sources := by
      intro es
      induction es with
      | nil => intro s; simp
      | cons e es ih =>
        intro s
        rw [List.foldl_cons]
        have h1 := ih (m_circuits_behind_l0 (m_circuits_behind n) ends sources path s e)
        have h2 := step s e
        rw [List.filter_cons]
        by_cases q : e.2.1 = last
        · rw [if_pos q] at h2
          rw [if_pos (by simp [q]), List.length_cons, Nat.succ_mul]; omega
        · rw [if_neg q] at h2
          rw [if_neg (by simp [q])]; omega
    have h3 := fold (enL 0 ends) []
    rw [enL_filter (fun e : Int × Int => decide (e.1 = last)) 0 ends] at h3
    have h4 := outE_split hnl ends
    rw [← hs] at h4
    rw [h4, Nat.pow_add]
    have h5 : (m_circuits_behind (n + 1) ends sources path).length ≤ (ends.filter fun e => decide (e.1 = last)).length * 2 ^ outE ends sources := by
      simp only [m_circuits_behind]
      simpa using h3
    exact Nat.le_trans h5 (Nat.mul_le_mul_right _ (Nat.le_of_lt Nat.lt_two_pow_self))
theorem cb_len16 (n : Nat) {ends : List (Int × Int)} (h : ends.length ≤ 16) {sources : List Int} (path : List Int) (h1 : sources ≠ []) (h2 : sources.Nodup) : (m_circuits_behind n ends sources path).length ≤ 65536 := by
  refine Nat.le_trans (cb_len n ends sources path h1 h2) (show _ ≤ 2 ^ 16 from Nat.pow_le_pow_right (by decide) (Nat.le_trans (List.length_filter_le _ _) h))
set_option hygiene false in
local macro_rules | `(tactic| walk_at "ext") => `(tactic| first | (have := cb_len16 zn hel (path ++ [zy0.1]) (by simp) (nodup_snoc hnd zh3.2); omega) | fail)
set_option hygiene false in
local macro_rules | `(tactic| walk_at "pre") => `(tactic| first | (have hnn := nodup_snoc hnd zh3.2; have hall : ∀ x ∈ sources ++ [zy0.2.2], 0 ≤ x ∧ x < 8 := (fun x hx => by rcases List.mem_append.mp hx with q | q; exact hpre.2.2.2.2.1 x q; rw [List.mem_singleton.mp q]; omega); have hp8 := pig8 8 _ hnn hall; rw [List.length_append, List.length_singleton] at hp8; exact ⟨by omega, by rw [List.length_append, List.length_singleton]; omega, by simp, hnn, hall, hpre.2.2.2.2.2.1, hel, by simp only [List.length_append, List.length_singleton]; omega⟩) | fail)
theorem sc_circuits_behind : FnScope ["ends", "sources", "path", "found", "way", "source", "target"] ["ends", "sources", "path"] (defScope s_circuits_behind) := ⟨rfl, rfl, rfl, by decide +kernel, rfl, by decide +kernel, by decide +kernel⟩
def sp_circuits_behind (zn : Nat) : SpN := fun zcs zL zKc => ∃ ends : List (Int × Int), ∃ sources : List Int, ∃ path : List Int, zcs = [.fr ((eL (eT2 D.int D.int)) ends), .fr ((eL D.int) sources), .fr ((eL D.int) path)] ∧ zL = [] ∧ (1 ≤ zn ∧ 9 ≤ sources.length + zn ∧ sources ≠ [] ∧ sources.Nodup ∧ (∀ x ∈ sources, 0 ≤ x ∧ x < 8) ∧ (∀ e ∈ ends, 0 ≤ e.1 ∧ e.1 < 8 ∧ 0 ≤ e.2 ∧ e.2 < 8) ∧ ends.length ≤ 16 ∧ path.length ≤ sources.length) ∧ ∀ zL', zKc (.fr ((eL (eL D.int)) (m_circuits_behind zn ends sources path))) zL'
theorem ok_circuits_behind (T : TX P K mg) (zn : Nat) : FnOk P w K mg base CX0 (zn + 1) T.a_circuits_behind T.d_circuits_behind ["ends", "sources", "path"] (SpOf K mg (sp_circuits_behind zn)) := by
  refine Nat.rec (motive := fun zn => FnOk P w K mg base CX0 (zn + 1) T.a_circuits_behind T.d_circuits_behind ["ends", "sources", "path"] (SpOf K mg (sp_circuits_behind zn))) ?_ (fun zn O_circuits_behind => ?_) zn
  · exact T.F_circuits_behind.okN sc_circuits_behind (fun zcs zL zKc zh => by obtain ⟨ends, sources, path, rfl, _⟩ := zh; rfl) fun zcdv zA zout zst zH zE zB zcs zL zKc zhr zh => by obtain ⟨ends, sources, path, _, _, hpre, _⟩ := zh; exact absurd hpre.1 (by decide)
  refine T.F_circuits_behind.okN sc_circuits_behind (fun zcs zL zKc zh => by obtain ⟨ends, sources, path, rfl, _⟩ := zh; rfl) fun zcdv zA zout zst zH zE zB zcs zL zKc zhr zh => ?_
  obtain ⟨ends, sources, path, rfl, rfl, hpre, zk⟩ := zh
  have nd := sc_circuits_behind.nd
  have hSL := sizeLine_eq
  have hne := hpre.2.2.1
  have hnd := hpre.2.2.2.1
  have hs8 := pig8 8 sources hnd hpre.2.2.2.2.1
  have hel := hpre.2.2.2.2.2.2.1
  have hsp : 0 < sources.length := List.length_pos_iff.mpr hne
  show Exs _ _ _ ⟨[some (.fr ((eL (eT2 D.int D.int)) ends)), some (.fr ((eL D.int) sources)), some (.fr ((eL D.int) path)), none, none, none, none], []⟩ _
  refine exs_cons (ex_set 3 (ev_lstN 100 (enc := (eL D.int)) ([] : List (List Int)) ea_nil rfl (by simp only [List.length_cons, List.length_nil]; decide) (by simp [names]) (by decide)) ?_ nd rfl (.inl rfl))
  show Exs _ _ _ ⟨[some (.fr ((eL (eT2 D.int D.int)) ends)), some (.fr ((eL D.int) sources)), some (.fr ((eL D.int) path)), some (.ad 100), none, none, none], [(100, .fl ((([] : List (List Int))).map (eL D.int)))]⟩ _
  refine exs_cons (ex_forF (enc := (eT2 D.int (eT2 D.int D.int))) (fun (zs0 : (List (List Int))) => (⟨[some (.fr ((eL (eT2 D.int D.int)) ends)), some (.fr ((eL D.int) sources)), some (.fr ((eL D.int) path)), some (.ad 100), none, none, none], [(100, .fl ((zs0).map (eL D.int)))]⟩ : Nz.S)) (m_circuits_behind_l0 (m_circuits_behind zn) ends sources path) ([] : List (List Int)) (fun (zi0 : Nat) (zs0 : (List (List Int))) => Cap zs0.length zi0) (src_enumL (enc := (eT2 D.int D.int)) (xs := ends) (ea_cons (ev_var 0 rfl (.inl rfl) rfl) ea_nil) (by exact rfl) T.n_enumerate) ⟨⟨.inr rfl, .inr rfl, .inr rfl, .inr rfl, .inl rfl, .inl rfl, .inl rfl, trivial⟩, rfl⟩ (Nat.zero_le _) ?_ ?_ PassesOwn.never rfl)
  · intro zi0 zy0 zs0 zhy0 zq0
    skip
    have hcap := cap_le zq0
    have hi := (List.getElem?_eq_some_iff.mp zhy0).1
    rw [enL_len] at hi
    have hen := hpre.2.2.2.2.2.1 _ (mem_enL (List.mem_of_getElem? zhy0))
    refine ⟨⟨[some (.fr ((eL (eT2 D.int D.int)) ends)), some (.fr ((eL D.int) sources)), some (.fr ((eL D.int) path)), some (.ad 100), some (.fr (D.int zy0.1)), some (.fr (D.int zy0.2.1)), some (.fr (D.int zy0.2.2))], [(100, .fl ((zs0).map (eL D.int)))]⟩, (eg_tup rfl (egs_cons (eg_name 4 nd rfl (.inl rfl)) (egs_cons (eg_tup rfl (egs_cons (eg_name 5 nd rfl (.inl rfl)) (egs_cons (eg_name 6 nd rfl (.inl rfl)) egs_nil))) egs_nil))), ?_⟩
    refine exs_cons (ex_ifP bd_n (et_cmp o_nei (ev_var 5 rfl (.inl rfl) rfl) (ev_ix (ix_last (xs := sources) (enc := D.int) (by exact rfl) (by walk_at "ne")) (ev_var 1 rfl (.inl rfl) rfl) (ev_neg ev_int)) (nomark _)) (fun (zh1 : (¬ (zy0.2.1 = (sources.getLastD default)))) => ?_) (fun (zh1 : ¬ (¬ (zy0.2.1 = (sources.getLastD default)))) => ?_))
    · skip
      refine exs_one (ex_cont ?_)
      have est : (m_circuits_behind_l0 (m_circuits_behind zn) ends sources path) zs0 zy0 = zs0 := by simp only [m_circuits_behind_l0, not_true_eq_false, not_false_eq_true, ↓reduceIte, ↓if_pos zh1]
      show Le _ _ ∧ _
      try rw [est]
      exact ⟨⟨⟨.inr rfl, .inr rfl, .inr rfl, .inr rfl, .inl rfl, .inl rfl, .inl rfl, trivial⟩, rfl⟩, (by first | exact cap_0 zq0 | exact cap_1 zq0 | exact cap_2 zq0 (cb_len16 zn hel (path ++ [zy0.1]) (by simp) (nodup_snoc hnd zh3.2)))⟩
    · skip
      refine exs_nil ?_
      show Exs _ _ _ ⟨[some (.fr ((eL (eT2 D.int D.int)) ends)), some (.fr ((eL D.int) sources)), some (.fr ((eL D.int) path)), some (.ad 100), some (.fr (D.int zy0.1)), some (.fr (D.int zy0.2.1)), some (.fr (D.int zy0.2.2))], [(100, .fl ((zs0).map (eL D.int)))]⟩ _
      refine exs_one (ex_ifP bd_d (et_cmp o_eqi (ev_var 6 rfl (.inl rfl) rfl) (ev_ix (ix_L (xs := sources) (enc := D.int) (by exact rfl) (by walk_at "sd") (by walk_at "sd")) (ev_var 1 rfl (.inl rfl) rfl) ev_int) (nomark _)) (fun (zh2 : (zy0.2.2 = (sources.getD ((0 : Int)).toNat default))) => ?_) (fun (zh2 : ¬ (zy0.2.2 = (sources.getD ((0 : Int)).toNat default))) => ?_))
      · skip
        refine exs_one (ex_expr (ev_appendT (n := 100) (enc := (eL D.int)) (xs := zs0) (xs0 := zs0) (path ++ [zy0.1]) rfl rfl rfl (by walk_at "sd") (ev_var 3 rfl (.inl rfl) rfl) (ev_bin (o_catT (enc := D.int) (xs := path) (ys := [zy0.1]) (by walk_at "sd")) (ev_var 2 rfl (.inl rfl) rfl) (ev_lstF (enc := D.int) [zy0.1] (ea_cons (ev_var 4 rfl (.inl rfl) rfl) ea_nil) rfl (by simp only [List.length_cons, List.length_nil]; decide)))) ?_)
        have est : (m_circuits_behind_l0 (m_circuits_behind zn) ends sources path) zs0 zy0 = (zs0 ++ [(path ++ [zy0.1])]) := by simp only [m_circuits_behind_l0, not_true_eq_false, not_false_eq_true, ↓reduceIte, ↓if_neg zh1, ↓if_pos zh2]
        show Le _ _ ∧ _
        try rw [est]
        exact ⟨⟨⟨.inr rfl, .inr rfl, .inr rfl, .inr rfl, .inl rfl, .inl rfl, .inl rfl, trivial⟩, rfl⟩, (by first | exact cap_0 zq0 | exact cap_1 zq0 | exact cap_2 zq0 (cb_len16 zn hel (path ++ [zy0.1]) (by simp) (nodup_snoc hnd zh3.2)))⟩
      · skip
        refine exs_one (ex_ifP (bd_and bd_d bd_n) (Ew.et (ew_andP bd_d (et_cmp o_gt (ev_var 6 rfl (.inl rfl) rfl) (ev_ix (ix_L (xs := sources) (enc := D.int) (by exact rfl) (by walk_at "sd") (by walk_at "sd")) (ev_var 1 rfl (.inl rfl) rfl) ev_int) (nomark _)) (fun zhp => (ew_and1 (et_cmp (o_ninL (e := D.int) (x := zy0.2.2) (ys := sources) zhr.units ee_int) (ev_var 6 rfl (.inl rfl) rfl) (ev_var 1 rfl (.inl rfl) rfl) (by rfl)))))) (fun (zh3 : (((sources.getD ((0 : Int)).toNat default) < zy0.2.2) ∧ (¬ (zy0.2.2 ∈ sources)))) => ?_) (fun (zh3 : ¬ (((sources.getD ((0 : Int)).toNat default) < zy0.2.2) ∧ (¬ (zy0.2.2 ∈ sources)))) => ?_))
        · skip
          refine exs_one (ex_expr (ev_extendT (n := 100) (enc := (eL D.int)) (xs := zs0) (xs0 := zs0) (m_circuits_behind zn ends (sources ++ [zy0.2.2]) (path ++ [zy0.1])) rfl rfl rfl (by walk_at "ext") (ev_var 3 rfl (.inl rfl) rfl) (ev_call (ds := [(eL (eT2 D.int D.int)) ends, (eL D.int) (sources ++ [zy0.2.2]), (eL D.int) (path ++ [zy0.1])]) (ds' := []) (dvs := []) (dfs := []) O_circuits_behind (zhr.mono (by omega)) T.m_circuits_behind T.k_circuits_behind T.b_circuits_behind .nil (fun _ => .nil) (ea_cons (ev_var 0 rfl (.inl rfl) rfl) (ea_cons (ev_bin (o_catT (enc := D.int) (xs := sources) (ys := [zy0.2.2]) (by walk_at "sd")) (ev_var 1 rfl (.inl rfl) rfl) (ev_lstF (enc := D.int) [zy0.2.2] (ea_cons (ev_var 6 rfl (.inl rfl) rfl) ea_nil) rfl (by simp only [List.length_cons, List.length_nil]; decide))) (ea_cons (ev_bin (o_catT (enc := D.int) (xs := path) (ys := [zy0.1]) (by walk_at "sd")) (ev_var 2 rfl (.inl rfl) rfl) (ev_lstF (enc := D.int) [zy0.1] (ea_cons (ev_var 4 rfl (.inl rfl) rfl) ea_nil) rfl (by simp only [List.length_cons, List.length_nil]; decide))) ea_nil))) (fun _ zkk => ⟨ends, (sources ++ [zy0.2.2]), (path ++ [zy0.1]), rfl, rfl, (by walk_at "pre"), zkk⟩) (by exact rfl))) ?_)
          have est : (m_circuits_behind_l0 (m_circuits_behind zn) ends sources path) zs0 zy0 = (zs0 ++ (m_circuits_behind zn ends (sources ++ [zy0.2.2]) (path ++ [zy0.1]))) := by simp only [m_circuits_behind_l0, not_true_eq_false, not_false_eq_true, ↓reduceIte, ↓if_neg zh1, ↓if_neg zh2, ↓if_pos zh3]
          show Le _ _ ∧ _
          try rw [est]
          exact ⟨⟨⟨.inr rfl, .inr rfl, .inr rfl, .inr rfl, .inl rfl, .inl rfl, .inl rfl, trivial⟩, rfl⟩, (by first | exact cap_0 zq0 | exact cap_1 zq0 | exact cap_2 zq0 (cb_len16 zn hel (path ++ [zy0.1]) (by simp) (nodup_snoc hnd zh3.2)))⟩
        · skip
          refine exs_nil ?_
          have est : (m_circuits_behind_l0 (m_circuits_behind zn) ends sources path) zs0 zy0 = zs0 := by simp only [m_circuits_behind_l0, not_true_eq_false, not_false_eq_true, ↓reduceIte, ↓if_neg zh1, ↓if_neg zh2, ↓if_neg zh3]
          show Le _ _ ∧ _
          try rw [est]
          exact ⟨⟨⟨.inr rfl, .inr rfl, .inr rfl, .inr rfl, .inl rfl, .inl rfl, .inl rfl, trivial⟩, rfl⟩, (by first | exact cap_0 zq0 | exact cap_1 zq0 | exact cap_2 zq0 (cb_len16 zn hel (path ++ [zy0.1]) (by simp) (nodup_snoc hnd zh3.2)))⟩
  · intro zq0
    show Exs _ _ _ ⟨[some (.fr ((eL (eT2 D.int D.int)) ends)), some (.fr ((eL D.int) sources)), some (.fr ((eL D.int) path)), some (.ad 100), none, none, none], [(100, .fl ((((enL 0 ends).foldl (m_circuits_behind_l0 (m_circuits_behind zn) ends sources path) ([] : List (List Int)))).map (eL D.int)))]⟩ _
    refine exs_freezeT 100 (xs := ((enL 0 ends).foldl (m_circuits_behind_l0 (m_circuits_behind zn) ends sources path) ([] : List (List Int)))) (enc := (eL D.int)) (by exact rfl) ?_
    show Exs _ _ _ ⟨[some (.fr ((eL (eT2 D.int D.int)) ends)), some (.fr ((eL D.int) sources)), some (.fr ((eL D.int) path)), some (.fr ((eL (eL D.int)) ((enL 0 ends).foldl (m_circuits_behind_l0 (m_circuits_behind zn) ends sources path) ([] : List (List Int))))), none, none, none], []⟩ _
    refine exs_one (ex_ret (ev_var 3 rfl (.inl rfl) rfl) ?_)
    have efin : m_circuits_behind (zn + 1) ends sources path = ((enL 0 ends).foldl (m_circuits_behind_l0 (m_circuits_behind zn) ends sources path) ([] : List (List Int))) := by simp only [m_circuits_behind, not_true_eq_false, not_false_eq_true, ↓reduceIte]
    rw [efin] at zk
    exact zk _
def m_circuits_l0 (ends : List (Int × Int)) (zs0 : (List (List Int))) (zy0 : Nat) : (List (List Int)) :=
  (zs0 ++ (m_circuits_behind 8 ends [((0 : Int) + (zy0 : Int))] ([] : List Int)))
def m_circuits (task : Task) : List (List Int) :=
  let ends1 : List (Int × Int) := (task.ways.map (fun zc2 : Str × Str × Int => ((m_Task_kind_number task zc2.1), (m_Task_kind_number task zc2.2.1))))
  ((List.range ((task.kinds.length : Int)).toNat).foldl (m_circuits_l0 ends1) ([] : List (List Int)))
theorem ends_facts {t : Task} (h : t.ok) : (t.ways.map (fun zc : Str × Str × Int => (m_Task_kind_number t zc.1, m_Task_kind_number t zc.2.1))).length ≤ 16 ∧ ∀ e ∈ t.ways.map (fun zc : Str × Str × Int => (m_Task_kind_number t zc.1, m_Task_kind_number t zc.2.1)), 0 ≤ e.1 ∧ e.1 < 8 ∧ 0 ≤ e.2 ∧ e.2 < 8 := by
  have h1 := h.w1
  have h2 := h.k1
  refine ⟨by rw [List.length_map]; omega, fun e he => ?_⟩
  obtain ⟨w, hw, rfl⟩ := List.mem_map.mp he
  obtain ⟨i, e1, g1, _⟩ := kind_number_spec (h.wn w hw).1
  obtain ⟨j, e2, g2, _⟩ := kind_number_spec (h.wn w hw).2
  dsimp only
  rw [e1, e2]; omega
set_option hygiene false in
local macro_rules | `(tactic| walk_at "pre") => `(tactic| first | exact ⟨hpre, (hpre.wn _ (List.mem_of_getElem? (by assumption))).1⟩ | exact ⟨hpre, (hpre.wn _ (List.mem_of_getElem? (by assumption))).2⟩ | exact ⟨by decide, by simp, by simp, by simp, fun x hx => by rw [List.mem_singleton.mp hx]; omega, hends.2, hends.1, by simp⟩ | fail)
theorem sc_circuits : FnScope ["task", "ends", "found", "first", "source", "target", "_"] ["task"] (defScope s_circuits) := ⟨rfl, rfl, rfl, by decide +kernel, rfl, by decide +kernel, by decide +kernel⟩
def sp_circuits : SpN := fun zcs zL zKc => ∃ task : Task, zcs = [.fr (eTask task)] ∧ zL = [] ∧ (task.ok) ∧ ∀ zL', zKc (.fr ((eL (eL D.int)) (m_circuits task))) zL'
theorem ok_circuits (T : TX P K mg) : FnOk P w K mg base CX0 10 T.a_circuits T.d_circuits ["task"] (SpOf K mg sp_circuits) := by
  have O_Task_kind_number := ok_Task_kind_number (P := P) (w := w) (base := base) T
  have O_circuits_behind := ok_circuits_behind (P := P) (w := w) (base := base) T 8
  refine T.F_circuits.okN sc_circuits (fun zcs zL zKc zh => by obtain ⟨task, rfl, _⟩ := zh; rfl) fun zcdv zA zout zst zH zE zB zcs zL zKc zhr zh => ?_
  obtain ⟨task, rfl, rfl, hpre, zk⟩ := zh
  have nd := sc_circuits.nd
  have hSL := sizeLine_eq
  have hk1 := hpre.k1
  have hw1 := hpre.w1
  have hk8 := hpre.k1.2
  show Exs _ _ _ ⟨[some (.fr (eTask task)), none, none, none, none, none, none], []⟩ _
  refine exs_cons (ex_setLcM 1 (enc2 := (eT2 D.int D.int)) 199 (fun zc1 : Str × Str × Int => ((m_Task_kind_number task zc1.1), (m_Task_kind_number task zc1.2.1))) _ rfl nd rfl rfl (sw_true rfl rfl rfl (by decide +kernel)) (blkOk_by (N := ["task", "ends", "found", "first", "source", "target", "_"]) (sc := defScope s_circuits) (own := [(("source" : Str), 4), (("target" : Str), 5), (("_" : Str), 6)]) (by decide +kernel)) (src_tupT (ev_fld (c := "Task") (fs := fTask task) T.q_Task T.cl_Task T.na_Task_ways rfl (ev_var 0 rfl (.inr (.inl rfl)) rfl))) (by simp [names]) (by decide) (by walk_at "sd") (fun _ zc1 _ zhyzc1 _ _ _ _ _ => (eg_tupC rfl (egs_consC (eg_nameC 4 nd rfl (.inl rfl) (by decide) (.inr rfl)) (egs_consC (eg_nameC 5 nd rfl (.inl rfl) (by decide) (.inr rfl)) (egs_consC (eg_nameC 6 nd rfl (.inl rfl) (by decide) (.inr rfl)) egs_nilC))))) (fun _ zc1 _ zhyzc1 _ _ _ _ _ => (ev_tup (ds := [D.int (m_Task_kind_number task zc1.1), D.int (m_Task_kind_number task zc1.2.1)]) (ea_cons (ev_meth (c := "Task") (fs := fTask task) (ds := [D.str zc1.1]) T.q_Task T.cl_Task T.me_Task_kind_number rfl O_Task_kind_number (zhr.mono (by decide)) T.b_Task_kind_number (ev_var 0 rfl (.inr (.inl rfl)) rfl) (ea_cons (ev_var 4 rfl (.inl rfl) rfl) ea_nil) (fun _ zkk => ⟨task, zc1.1, rfl, rfl, (by walk_at "pre"), zkk⟩)) (ea_cons (ev_meth (c := "Task") (fs := fTask task) (ds := [D.str zc1.2.1]) T.q_Task T.cl_Task T.me_Task_kind_number rfl O_Task_kind_number (zhr.mono (by decide)) T.b_Task_kind_number (ev_var 0 rfl (.inr (.inl rfl)) rfl) (ea_cons (ev_var 5 rfl (.inl rfl) rfl) ea_nil) (fun _ zkk => ⟨task, zc1.2.1, rfl, rfl, (by walk_at "pre"), zkk⟩)) ea_nil)) (by simp only [List.length_cons, List.length_nil]; decide))) ?_)
  show Exs _ _ _ ⟨[some (.fr (eTask task)), some (.fr ((eL (eT2 D.int D.int)) (task.ways.map (fun zc1 : Str × Str × Int => ((m_Task_kind_number task zc1.1), (m_Task_kind_number task zc1.2.1)))))), none, none, none, none, none], []⟩ _
  generalize zg_ends : (task.ways.map (fun zc1 : Str × Str × Int => ((m_Task_kind_number task zc1.1), (m_Task_kind_number task zc1.2.1)))) = ends
  show Exs _ _ _ ⟨[some (.fr (eTask task)), some (.fr ((eL (eT2 D.int D.int)) ends)), none, none, none, none, none], []⟩ _
  have hends := ends_facts hpre
  rw [zg_ends] at hends
  refine exs_cons (ex_set 2 (ev_lstN 100 (enc := (eL D.int)) ([] : List (List Int)) ea_nil rfl (by simp only [List.length_cons, List.length_nil]; decide) (by simp [names]) (by decide)) ?_ nd rfl (.inl rfl))
  show Exs _ _ _ ⟨[some (.fr (eTask task)), some (.fr ((eL (eT2 D.int D.int)) ends)), some (.ad 100), none, none, none, none], [(100, .fl ((([] : List (List Int))).map (eL D.int)))]⟩ _
  refine exs_cons (ex_forF (enc := (fun i : Nat => D.int ((0 : Int) + (i : Int)))) (fun (zs0 : (List (List Int))) => (⟨[some (.fr (eTask task)), some (.fr ((eL (eT2 D.int D.int)) ends)), some (.ad 100), none, none, none, none], [(100, .fl ((zs0).map (eL D.int)))]⟩ : Nz.S)) (m_circuits_l0 ends) ([] : List (List Int)) (fun (zi0 : Nat) (zs0 : (List (List Int))) => Cap zs0.length zi0) (src_range1 (ea_cons (ev_len (ln_U (xs := task.kinds) (enc := (eT3 D.str D.int D.int))) (ev_fld (c := "Task") (fs := fTask task) T.q_Task T.cl_Task T.na_Task_kinds rfl (ev_var 0 rfl (.inr (.inl rfl)) rfl)) (by exact rfl) T.n_len) ea_nil) (by exact rfl) T.n_range (by walk_at "sd") (by walk_at "sd")) ⟨⟨.inr rfl, .inr rfl, .inr rfl, .inl rfl, .inl rfl, .inl rfl, .inl rfl, trivial⟩, rfl⟩ (Nat.zero_le _) ?_ ?_ PassesOwn.never rfl)
  · intro zi0 zy0 zs0 zhy0 zq0
    skip
    have hcap := cap_le zq0
    have hy0 := seq_range zhy0
    have hi := (List.getElem?_eq_some_iff.mp zhy0).1
    simp only [List.length_range] at hi
    have hcl := cb_len16 8 hends.1 (sources := [(0 : Int) + (zy0 : Int)]) [] (by simp) (by simp)
    refine ⟨⟨[some (.fr (eTask task)), some (.fr ((eL (eT2 D.int D.int)) ends)), some (.ad 100), some (.fr (D.int ((0 : Int) + (zy0 : Int)))), none, none, none], [(100, .fl ((zs0).map (eL D.int)))]⟩, (eg_name 3 nd rfl (.inl rfl)), ?_⟩
    refine exs_one (ex_expr (ev_extendT (n := 100) (enc := (eL D.int)) (xs := zs0) (xs0 := zs0) (m_circuits_behind 8 ends [((0 : Int) + (zy0 : Int))] ([] : List Int)) rfl rfl rfl (by walk_at "ext") (ev_var 2 rfl (.inl rfl) rfl) (ev_call (ds := [(eL (eT2 D.int D.int)) ends, (eL D.int) [((0 : Int) + (zy0 : Int))], (eL D.int) ([] : List Int)]) (ds' := []) (dvs := []) (dfs := []) O_circuits_behind (zhr.mono (by decide)) T.m_circuits_behind T.k_circuits_behind T.b_circuits_behind .nil (fun _ => .nil) (ea_cons (ev_var 1 rfl (.inl rfl) rfl) (ea_cons (ev_lstF (enc := D.int) [((0 : Int) + (zy0 : Int))] (ea_cons (ev_var 3 rfl (.inl rfl) rfl) ea_nil) rfl (by simp only [List.length_cons, List.length_nil]; decide)) (ea_cons (ev_lstF (enc := D.int) [] ea_nil rfl (by decide)) ea_nil))) (fun _ zkk => ⟨ends, [((0 : Int) + (zy0 : Int))], ([] : List Int), rfl, rfl, (by walk_at "pre"), zkk⟩) (by exact rfl))) ?_)
    have est : (m_circuits_l0 ends) zs0 zy0 = (zs0 ++ (m_circuits_behind 8 ends [((0 : Int) + (zy0 : Int))] ([] : List Int))) := by simp only [m_circuits_l0, not_true_eq_false, not_false_eq_true, ↓reduceIte]
    show Le _ _ ∧ _
    try rw [est]
    exact ⟨⟨⟨.inr rfl, .inr rfl, .inr rfl, .inl rfl, .inl rfl, .inl rfl, .inl rfl, trivial⟩, rfl⟩, (cap_2 zq0 hcl)⟩
  · intro zq0
    show Exs _ _ _ ⟨[some (.fr (eTask task)), some (.fr ((eL (eT2 D.int D.int)) ends)), some (.ad 100), none, none, none, none], [(100, .fl ((((List.range ((task.kinds.length : Int)).toNat).foldl (m_circuits_l0 ends) ([] : List (List Int)))).map (eL D.int)))]⟩ _
    refine exs_freezeT 100 (xs := ((List.range ((task.kinds.length : Int)).toNat).foldl (m_circuits_l0 ends) ([] : List (List Int)))) (enc := (eL D.int)) (by exact rfl) ?_
    show Exs _ _ _ ⟨[some (.fr (eTask task)), some (.fr ((eL (eT2 D.int D.int)) ends)), some (.fr ((eL (eL D.int)) ((List.range ((task.kinds.length : Int)).toNat).foldl (m_circuits_l0 ends) ([] : List (List Int))))), none, none, none, none], []⟩ _
    refine exs_one (ex_ret (ev_var 2 rfl (.inl rfl) rfl) ?_)
    have efin : m_circuits task = ((List.range ((task.kinds.length : Int)).toNat).foldl (m_circuits_l0 ends) ([] : List (List Int))) := by subst zg_ends; simp only [m_circuits, not_true_eq_false, not_false_eq_true, ↓reduceIte]
    rw [efin] at zk
    exact zk _
def m_circuits_behindn_l0 (zrec : (List (Int × Int)) → (List Int) → (List Int) → (List (List Int))) (ends : List (Int × Int)) (sources : List Int) (path : List Int) (zs0 : (List (List Int))) (zy0 : Int × (Int × Int)) : (List (List Int)) :=
  if (¬ (zy0.2.1 = (sources.getLastD default))) then zs0 else if (zy0.2.2 = (sources.getD ((0 : Int)).toNat default)) then (zs0 ++ [(path ++ [zy0.1])]) else if (((sources.getD ((0 : Int)).toNat default) < zy0.2.2) ∧ (¬ (zy0.2.2 ∈ sources))) then (zs0 ++ (zrec ends (sources ++ [zy0.2.2]) (path ++ [zy0.1]))) else zs0
def m_circuits_behindn : Nat → (List (Int × Int)) → (List Int) → (List Int) → (List (List Int))
  | 0, _, _, _ => default
  | zn + 1, ends, sources, path =>
  ((enL 0 ends).foldl (m_circuits_behindn_l0 (m_circuits_behindn zn) ends sources path) ([] : List (List Int)))
theorem cbn_eq : ∀ n, m_circuits_behindn n = m_circuits_behind n
  | 0 => rfl
  | n + 1 => by
    funext ends sources path
    simp only [m_circuits_behindn, m_circuits_behind]
    rw [cbn_eq n]; rfl
theorem cbn_len16 (n : Nat) {ends : List (Int × Int)} (h : ends.length ≤ 16) {sources : List Int} (path : List Int) (h1 : sources ≠ []) (h2 : sources.Nodup) : (m_circuits_behindn n ends sources path).length ≤ 65536 := by
  rw [cbn_eq]; exact cb_len16 n h path h1 h2
set_option hygiene false in
local macro_rules | `(tactic| walk_at "ext") => `(tactic| first | (have := cbn_len16 zn hel (path ++ [zy0.1]) (by simp) (nodup_snoc hnd zh3.2); omega) | fail)
theorem sc_circuits_behindn : FnScope ["ends", "sources", "path", "found", "way", "source", "target"] ["ends", "sources", "path"] (defScope s_circuits_behindn) := ⟨rfl, rfl, rfl, by decide +kernel, rfl, by decide +kernel, by decide +kernel⟩
def sp_circuits_behindn (zn : Nat) : SpN := fun zcs zL zKc => ∃ ends : List (Int × Int), ∃ sources : List Int, ∃ path : List Int, zcs = [.fr ((eL (eT2 D.int D.int)) ends), .fr ((eL D.int) sources), .fr ((eL D.int) path)] ∧ zL = [] ∧ (1 ≤ zn ∧ 9 ≤ sources.length + zn ∧ sources ≠ [] ∧ sources.Nodup ∧ (∀ x ∈ sources, 0 ≤ x ∧ x < 8) ∧ (∀ e ∈ ends, 0 ≤ e.1 ∧ e.1 < 8 ∧ 0 ≤ e.2 ∧ e.2 < 8) ∧ ends.length ≤ 16 ∧ path.length ≤ sources.length) ∧ ∀ zP zm zb, zKc (.ad zm) (zP ++ nest zm zb D.int (m_circuits_behindn zn ends sources path))
theorem ok_circuits_behindn (T : TX P K mg) (zn : Nat) : FnOk P w K mg base CX0 (zn + 1) T.a_circuits_behindn T.d_circuits_behindn ["ends", "sources", "path"] (SpOf K mg (sp_circuits_behindn zn)) := by
  refine Nat.rec (motive := fun zn => FnOk P w K mg base CX0 (zn + 1) T.a_circuits_behindn T.d_circuits_behindn ["ends", "sources", "path"] (SpOf K mg (sp_circuits_behindn zn))) ?_ (fun zn O_circuits_behindn => ?_) zn
  · exact T.F_circuits_behindn.okN sc_circuits_behindn (fun zcs zL zKc zh => by obtain ⟨ends, sources, path, rfl, _⟩ := zh; rfl) fun zcdv zA zout zst zH zE zB zcs zL zKc zhr zh => by obtain ⟨ends, sources, path, _, _, hpre, _⟩ := zh; exact absurd hpre.1 (by decide)
  refine T.F_circuits_behindn.okN sc_circuits_behindn (fun zcs zL zKc zh => by obtain ⟨ends, sources, path, rfl, _⟩ := zh; rfl) fun zcdv zA zout zst zH zE zB zcs zL zKc zhr zh => ?_
  obtain ⟨ends, sources, path, rfl, rfl, hpre, zk⟩ := zh
  have nd := sc_circuits_behindn.nd
  have hSL := sizeLine_eq
  have hne := hpre.2.2.1
  have hnd := hpre.2.2.2.1
  have hs8 := pig8 8 sources hnd hpre.2.2.2.2.1
  have hel := hpre.2.2.2.2.2.2.1
  have hsp : 0 < sources.length := List.length_pos_iff.mpr hne
  show Exs _ _ _ ⟨[some (.fr ((eL (eT2 D.int D.int)) ends)), some (.fr ((eL D.int) sources)), some (.fr ((eL D.int) path)), none, none, none, none], []⟩ _
  refine exs_cons (ex_set 3 (ev_lstN 300 (enc := (eL D.int)) [] ea_nil rfl (by decide) (by simp [names]) (by decide)) ?_ nd rfl (.inl rfl))
  show Exs _ _ _ ⟨[some (.fr ((eL (eT2 D.int D.int)) ends)), some (.fr ((eL D.int) sources)), some (.fr ((eL D.int) path)), some (.ad 300), none, none, none], [] ++ [(300, .fl [])]⟩ _
  refine exs_emptyC 400 D.int ?_
  show Exs _ _ _ ⟨[some (.fr ((eL (eT2 D.int D.int)) ends)), some (.fr ((eL D.int) sources)), some (.fr ((eL D.int) path)), some (.ad 300), none, none, none], [] ++ nest 300 400 D.int ([] : List (List Int))⟩ _
  refine exs_cons (ex_forF (enc := (eT2 D.int (eT2 D.int D.int))) (fun (zs0 : (List (List Int))) => (⟨[some (.fr ((eL (eT2 D.int D.int)) ends)), some (.fr ((eL D.int) sources)), some (.fr ((eL D.int) path)), some (.ad 300), none, none, none], [] ++ nest 300 400 D.int zs0⟩ : Nz.S)) (m_circuits_behindn_l0 (m_circuits_behindn zn) ends sources path) ([] : List (List Int)) (fun (zi0 : Nat) (zs0 : (List (List Int))) => Cap zs0.length zi0) (src_enumL (enc := (eT2 D.int D.int)) (xs := ends) (ea_cons (ev_var 0 rfl (.inl rfl) rfl) ea_nil) (by exact rfl) T.n_enumerate) ⟨⟨.inr rfl, .inr rfl, .inr rfl, .inr rfl, .inl rfl, .inl rfl, .inl rfl, trivial⟩, rfl⟩ (Nat.zero_le _) ?_ ?_ PassesOwn.never rfl)
  · intro zi0 zy0 zs0 zhy0 zq0
    skip
    have hcap := cap_le zq0
    have hi := (List.getElem?_eq_some_iff.mp zhy0).1
    rw [enL_len] at hi
    have hen := hpre.2.2.2.2.2.1 _ (mem_enL (List.mem_of_getElem? zhy0))
    refine ⟨⟨[some (.fr ((eL (eT2 D.int D.int)) ends)), some (.fr ((eL D.int) sources)), some (.fr ((eL D.int) path)), some (.ad 300), some (.fr (D.int zy0.1)), some (.fr (D.int zy0.2.1)), some (.fr (D.int zy0.2.2))], [] ++ nest 300 400 D.int zs0⟩, (eg_tup rfl (egs_cons (eg_name 4 nd rfl (.inl rfl)) (egs_cons (eg_tup rfl (egs_cons (eg_name 5 nd rfl (.inl rfl)) (egs_cons (eg_name 6 nd rfl (.inl rfl)) egs_nil))) egs_nil))), ?_⟩
    refine exs_cons (ex_ifP bd_n (et_cmp o_nei (ev_var 5 rfl (.inl rfl) rfl) (ev_ix (ix_last (xs := sources) (enc := D.int) (by exact rfl) (by walk_at "ne")) (ev_var 1 rfl (.inl rfl) rfl) (ev_neg ev_int)) (nomark _)) (fun (zh1 : (¬ (zy0.2.1 = (sources.getLastD default)))) => ?_) (fun (zh1 : ¬ (¬ (zy0.2.1 = (sources.getLastD default)))) => ?_))
    · skip
      refine exs_one (ex_cont ?_)
      have est : (m_circuits_behindn_l0 (m_circuits_behindn zn) ends sources path) zs0 zy0 = zs0 := by simp only [m_circuits_behindn_l0, not_true_eq_false, not_false_eq_true, ↓reduceIte, ↓if_pos zh1]
      show Le _ _ ∧ _
      try rw [est]
      exact ⟨⟨⟨.inr rfl, .inr rfl, .inr rfl, .inr rfl, .inl rfl, .inl rfl, .inl rfl, trivial⟩, rfl⟩, (by first | exact cap_0 zq0 | exact cap_1 zq0 | exact cap_2 zq0 (cbn_len16 zn hel (path ++ [zy0.1]) (by simp) (nodup_snoc hnd zh3.2)))⟩
    · skip
      refine exs_nil ?_
      show Exs _ _ _ ⟨[some (.fr ((eL (eT2 D.int D.int)) ends)), some (.fr ((eL D.int) sources)), some (.fr ((eL D.int) path)), some (.ad 300), some (.fr (D.int zy0.1)), some (.fr (D.int zy0.2.1)), some (.fr (D.int zy0.2.2))], [] ++ nest 300 400 D.int zs0⟩ _
      refine exs_one (ex_ifP bd_d (et_cmp o_eqi (ev_var 6 rfl (.inl rfl) rfl) (ev_ix (ix_L (xs := sources) (enc := D.int) (by exact rfl) (by walk_at "sd") (by walk_at "sd")) (ev_var 1 rfl (.inl rfl) rfl) ev_int) (nomark _)) (fun (zh2 : (zy0.2.2 = (sources.getD ((0 : Int)).toNat default))) => ?_) (fun (zh2 : ¬ (zy0.2.2 = (sources.getD ((0 : Int)).toNat default))) => ?_))
      · skip
        refine exs_cons (ex_expr (ev_appendC (n := 300) (ev_var 3 rfl (.inl rfl) rfl) (ev_catN 100 (enc := D.int) (xs := path) (ys := [zy0.1]) (ev_var 2 rfl (.inl rfl) rfl) (ev_lstF (enc := D.int) [zy0.1] (ea_cons (ev_var 4 rfl (.inl rfl) rfl) ea_nil) rfl (by simp only [List.length_cons, List.length_nil]; decide)) (by exact rfl) (by exact rfl) (by walk_at "sd") (fresh_nest (by simp [names]) (by decide) (by decide)) (by decide)) rfl rfl (by rw [ceL_length]; first | omega | walk_at "sd") Sub.app) ?_)
        show Exs _ _ _ ⟨[some (.fr ((eL (eT2 D.int D.int)) ends)), some (.fr ((eL D.int) sources)), some (.fr ((eL D.int) path)), some (.ad 300), some (.fr (D.int zy0.1)), some (.fr (D.int zy0.2.1)), some (.fr (D.int zy0.2.2))], [] ++ ((300, .cl (ceL 400 zs0.length ++ [.ad 100])) :: inL D.int 400 zs0) ++ [(100, .fl (((path ++ [zy0.1])).map D.int))]⟩ _
        refine exs_nestIn (P := []) (m := 100) (n := 300) (b := 400) (xss := zs0) (x := (path ++ [zy0.1])) (enc := D.int) (perm_mv2 _ _ _) rfl rfl (by simp [names]) (by decide) (by decide) (by decide) (by decide) rfl ?_
        show Exs _ _ _ ⟨[some (.fr ((eL (eT2 D.int D.int)) ends)), some (.fr ((eL D.int) sources)), some (.fr ((eL D.int) path)), some (.ad 300), some (.fr (D.int zy0.1)), some (.fr (D.int zy0.2.1)), some (.fr (D.int zy0.2.2))], [] ++ nest 300 400 D.int (zs0 ++ [(path ++ [zy0.1])])⟩ _
        refine exs_nil ?_
        have est : (m_circuits_behindn_l0 (m_circuits_behindn zn) ends sources path) zs0 zy0 = (zs0 ++ [(path ++ [zy0.1])]) := by simp only [m_circuits_behindn_l0, not_true_eq_false, not_false_eq_true, ↓reduceIte, ↓if_neg zh1, ↓if_pos zh2]
        show Le _ _ ∧ _
        try rw [est]
        exact ⟨⟨⟨.inr rfl, .inr rfl, .inr rfl, .inr rfl, .inl rfl, .inl rfl, .inl rfl, trivial⟩, rfl⟩, (by first | exact cap_0 zq0 | exact cap_1 zq0 | exact cap_2 zq0 (cbn_len16 zn hel (path ++ [zy0.1]) (by simp) (nodup_snoc hnd zh3.2)))⟩
      · skip
        refine exs_one (ex_ifP (bd_and bd_d bd_n) (Ew.et (ew_andP bd_d (et_cmp o_gt (ev_var 6 rfl (.inl rfl) rfl) (ev_ix (ix_L (xs := sources) (enc := D.int) (by exact rfl) (by walk_at "sd") (by walk_at "sd")) (ev_var 1 rfl (.inl rfl) rfl) ev_int) (nomark _)) (fun zhp => (ew_and1 (et_cmp (o_ninL (e := D.int) (x := zy0.2.2) (ys := sources) zhr.units ee_int) (ev_var 6 rfl (.inl rfl) rfl) (ev_var 1 rfl (.inl rfl) rfl) (by rfl)))))) (fun (zh3 : (((sources.getD ((0 : Int)).toNat default) < zy0.2.2) ∧ (¬ (zy0.2.2 ∈ sources)))) => ?_) (fun (zh3 : ¬ (((sources.getD ((0 : Int)).toNat default) < zy0.2.2) ∧ (¬ (zy0.2.2 ∈ sources)))) => ?_))
        · skip
          refine exs_cons (ex_expr (ev_extendC (n := 300) (m := 301) (ev_var 3 rfl (.inl rfl) rfl) (ev_callNest2 301 (400 + zs0.length) (ds := [(eL (eT2 D.int D.int)) ends, (eL D.int) (sources ++ [zy0.2.2]), (eL D.int) (path ++ [zy0.1])]) (enc := D.int) (xss := (m_circuits_behindn zn ends (sources ++ [zy0.2.2]) (path ++ [zy0.1]))) O_circuits_behindn (zhr.mono (by omega)) T.m_circuits_behindn T.k_circuits_behindn T.b_circuits_behindn (ea_cons (ev_var 0 rfl (.inl rfl) rfl) (ea_cons (ev_bin (o_catT (enc := D.int) (xs := sources) (ys := [zy0.2.2]) (by walk_at "sd")) (ev_var 1 rfl (.inl rfl) rfl) (ev_lstF (enc := D.int) [zy0.2.2] (ea_cons (ev_var 6 rfl (.inl rfl) rfl) ea_nil) rfl (by simp only [List.length_cons, List.length_nil]; decide))) (ea_cons (ev_bin (o_catT (enc := D.int) (xs := path) (ys := [zy0.1]) (by walk_at "sd")) (ev_var 2 rfl (.inl rfl) rfl) (ev_lstF (enc := D.int) [zy0.1] (ea_cons (ev_var 4 rfl (.inl rfl) rfl) ea_nil) rfl (by simp only [List.length_cons, List.length_nil]; decide))) ea_nil))) (fresh_nest (by simp [names]) (by decide) (by decide)) (fun _ _ => fresh_nestB (by decide)) (by omega) (by decide) (fun _ zkk => ⟨ends, (sources ++ [zy0.2.2]), (path ++ [zy0.1]), rfl, rfl, (by walk_at "pre"), zkk⟩) (by exact rfl)) rfl (getL_nest2 (by decide) (by decide)) rfl (by rw [ceL_length, ceL_length]; walk_at "ext")) ?_)
          show Exs _ _ _ ⟨[some (.fr ((eL (eT2 D.int D.int)) ends)), some (.fr ((eL D.int) sources)), some (.fr ((eL D.int) path)), some (.ad 300), some (.fr (D.int zy0.1)), some (.fr (D.int zy0.2.1)), some (.fr (D.int zy0.2.2))], [] ++ (300, .cl (ceL 400 zs0.length ++ ceL (400 + zs0.length) (m_circuits_behindn zn ends (sources ++ [zy0.2.2]) (path ++ [zy0.1])).length)) :: inL D.int 400 zs0 ++ nest 301 (400 + zs0.length) D.int (m_circuits_behindn zn ends (sources ++ [zy0.2.2]) (path ++ [zy0.1]))⟩ _
          refine exs_nestExt (by decide) (by decide) rfl ?_
          show Exs _ _ _ ⟨[some (.fr ((eL (eT2 D.int D.int)) ends)), some (.fr ((eL D.int) sources)), some (.fr ((eL D.int) path)), some (.ad 300), some (.fr (D.int zy0.1)), some (.fr (D.int zy0.2.1)), some (.fr (D.int zy0.2.2))], [] ++ nest 300 400 D.int (zs0 ++ (m_circuits_behindn zn ends (sources ++ [zy0.2.2]) (path ++ [zy0.1])))⟩ _
          refine exs_nil ?_
          have est : (m_circuits_behindn_l0 (m_circuits_behindn zn) ends sources path) zs0 zy0 = (zs0 ++ (m_circuits_behindn zn ends (sources ++ [zy0.2.2]) (path ++ [zy0.1]))) := by simp only [m_circuits_behindn_l0, not_true_eq_false, not_false_eq_true, ↓reduceIte, ↓if_neg zh1, ↓if_neg zh2, ↓if_pos zh3]
          show Le _ _ ∧ _
          try rw [est]
          exact ⟨⟨⟨.inr rfl, .inr rfl, .inr rfl, .inr rfl, .inl rfl, .inl rfl, .inl rfl, trivial⟩, rfl⟩, (by first | exact cap_0 zq0 | exact cap_1 zq0 | exact cap_2 zq0 (cbn_len16 zn hel (path ++ [zy0.1]) (by simp) (nodup_snoc hnd zh3.2)))⟩
        · skip
          refine exs_nil ?_
          have est : (m_circuits_behindn_l0 (m_circuits_behindn zn) ends sources path) zs0 zy0 = zs0 := by simp only [m_circuits_behindn_l0, not_true_eq_false, not_false_eq_true, ↓reduceIte, ↓if_neg zh1, ↓if_neg zh2, ↓if_neg zh3]
          show Le _ _ ∧ _
          try rw [est]
          exact ⟨⟨⟨.inr rfl, .inr rfl, .inr rfl, .inr rfl, .inl rfl, .inl rfl, .inl rfl, trivial⟩, rfl⟩, (by first | exact cap_0 zq0 | exact cap_1 zq0 | exact cap_2 zq0 (cbn_len16 zn hel (path ++ [zy0.1]) (by simp) (nodup_snoc hnd zh3.2)))⟩
  · intro zq0
    show Exs _ _ _ ⟨[some (.fr ((eL (eT2 D.int D.int)) ends)), some (.fr ((eL D.int) sources)), some (.fr ((eL D.int) path)), some (.ad 300), none, none, none], [] ++ nest 300 400 D.int ((enL 0 ends).foldl (m_circuits_behindn_l0 (m_circuits_behindn zn) ends sources path) ([] : List (List Int)))⟩ _
    refine exs_one (ex_ret (ev_var 3 rfl (.inl rfl) rfl) ?_)
    have efin : m_circuits_behindn (zn + 1) ends sources path = ((enL 0 ends).foldl (m_circuits_behindn_l0 (m_circuits_behindn zn) ends sources path) ([] : List (List Int))) := by simp only [m_circuits_behindn, not_true_eq_false, not_false_eq_true, ↓reduceIte]
    rw [efin] at zk
    exact zk _ _ _
def m_law_closes_l0 (kinds : List (Str × Int × Int)) (ways : List (Str × Str × Int)) (circuit : List Int) (sources : List Str) (zs0 : Unit) (zy0 : Nat) : Except Bool (Unit) :=
  if (¬ ((ways.getD ((circuit.getD (((0 : Int) + (zy0 : Int))).toNat default)).toNat default).2.1 = (sources.getD (((((0 : Int) + (zy0 : Int)) + (1 : Int)) % (circuit.length : Int))).toNat default))) then .error false else if ((sources.getD (((0 : Int) + (zy0 : Int))).toNat default) ∈ (slcD sources none (some ((0 : Int) + (zy0 : Int))))) then .error false else if ((m_law_number kinds (sources.getD (((0 : Int) + (zy0 : Int))).toNat default)) < (m_law_number kinds (sources.getD ((0 : Int)).toNat default))) then .error false else .ok ()
def m_law_closes (kinds : List (Str × Int × Int)) (ways : List (Str × Str × Int)) (circuit : List Int) : Bool :=
  let sources1 : List Str := (circuit.map (fun zc2 : Int => (ways.getD (zc2).toNat default).1))
  match (runE (m_law_closes_l0 kinds ways circuit sources1) (List.range ((circuit.length : Int)).toNat) ()) with | .error r => r | .ok zs0 => true
set_option hygiene false in
local macro_rules | `(tactic| walk_at "sd") => `(tactic| first | omega | exact (hin _ (List.mem_of_getElem? (by assumption))).1 | exact (hin _ (List.mem_of_getElem? (by assumption))).2 | fail)
theorem sc_law_closes : FnScope ["kinds", "ways", "circuit", "sources", "k", "number"] ["kinds", "ways", "circuit"] (defScope s_law_closes) := ⟨rfl, rfl, rfl, by decide +kernel, rfl, by decide +kernel, by decide +kernel⟩
def sp_law_closes : SpN := fun zcs zL zKc => ∃ kinds : List (Str × Int × Int), ∃ ways : List (Str × Str × Int), ∃ circuit : List Int, zcs = [.fr ((eL (eT3 D.str D.int D.int)) kinds), .fr ((eL (eT3 D.str D.str D.int)) ways), .fr ((eL D.int) circuit)] ∧ zL = [] ∧ (circuit.length ≤ 100 ∧ kinds.length ≤ 8 ∧ ∀ x ∈ circuit, 0 ≤ x ∧ x < (ways.length : Int)) ∧ ∀ zL', zKc (.fr (D.bl (m_law_closes kinds ways circuit))) zL'
theorem ok_law_closes (T : TX P K mg) : FnOk P w K mg base CX0 2 T.a_law_closes T.d_law_closes ["kinds", "ways", "circuit"] (SpOf K mg sp_law_closes) := by
  have O_law_number := ok_law_number (P := P) (w := w) (base := base) T
  refine T.F_law_closes.okN sc_law_closes (fun zcs zL zKc zh => by obtain ⟨kinds, ways, circuit, rfl, _⟩ := zh; rfl) fun zcdv zA zout zst zH zE zB zcs zL zKc zhr zh => ?_
  obtain ⟨kinds, ways, circuit, rfl, rfl, hpre, zk⟩ := zh
  have nd := sc_law_closes.nd
  have hSL := sizeLine_eq
  have hin := hpre.2.2
  show Exs _ _ _ ⟨[some (.fr ((eL (eT3 D.str D.int D.int)) kinds)), some (.fr ((eL (eT3 D.str D.str D.int)) ways)), some (.fr ((eL D.int) circuit)), none, none, none], []⟩ _
  refine exs_cons (ex_setLcM 3 (enc2 := D.str) 199 (fun zc1 : Int => (ways.getD (zc1).toNat default).1) _ rfl nd rfl rfl (sw_true rfl rfl rfl (by decide +kernel)) (blkOk_by (N := ["kinds", "ways", "circuit", "sources", "k", "number"]) (sc := defScope s_law_closes) (own := [(("number" : Str), 5)]) (by decide +kernel)) (src_listT (ev_var 2 rfl (.inl rfl) rfl)) (by simp [names]) (by decide) (by walk_at "sd") (fun _ zc1 _ zhyzc1 _ _ _ _ _ => (eg_nameC 5 nd rfl (.inl rfl) (by decide) (.inr rfl))) (fun _ zc1 _ zhyzc1 _ _ _ _ _ => (ev_ix (.t (d := D.str ((ways.getD (zc1).toNat default).1)) rfl) (ev_ix (ix_L (xs := ways) (enc := (eT3 D.str D.str D.int)) (by exact rfl) (by walk_at "sd") (by walk_at "sd")) (ev_var 1 rfl (.inr (.inl rfl)) rfl) (ev_var 5 rfl (.inl rfl) rfl)) ev_int)) ?_)
  show Exs _ _ _ ⟨[some (.fr ((eL (eT3 D.str D.int D.int)) kinds)), some (.fr ((eL (eT3 D.str D.str D.int)) ways)), some (.fr ((eL D.int) circuit)), some (.fr ((eL D.str) (circuit.map (fun zc1 : Int => (ways.getD (zc1).toNat default).1)))), none, none], []⟩ _
  generalize zg_sources : (circuit.map (fun zc1 : Int => (ways.getD (zc1).toNat default).1)) = sources
  show Exs _ _ _ ⟨[some (.fr ((eL (eT3 D.str D.int D.int)) kinds)), some (.fr ((eL (eT3 D.str D.str D.int)) ways)), some (.fr ((eL D.int) circuit)), some (.fr ((eL D.str) sources)), none, none], []⟩ _
  have hsl : sources.length = circuit.length := by rw [← zg_sources, List.length_map]
  refine exs_cons (ex_forE (enc := (fun i : Nat => D.int ((0 : Int) + (i : Int)))) (fun (zs0 : Unit) => (⟨[some (.fr ((eL (eT3 D.str D.int D.int)) kinds)), some (.fr ((eL (eT3 D.str D.str D.int)) ways)), some (.fr ((eL D.int) circuit)), some (.fr ((eL D.str) sources)), none, none], []⟩ : Nz.S)) (m_law_closes_l0 kinds ways circuit sources) () (fun (zi0 : Nat) (zs0 : Unit) => True) (fun r c S' => c = .fr (D.bl r) ∧ True) (src_range1 (ea_cons (ev_len (ln_L (xs := circuit) (enc := D.int) (by exact rfl)) (ev_var 2 rfl (.inl rfl) rfl) (by exact rfl) T.n_len) ea_nil) (by exact rfl) T.n_range (by walk_at "sd") (by walk_at "sd")) ⟨⟨.inr rfl, .inr rfl, .inr rfl, .inr rfl, .inl rfl, .inl rfl, trivial⟩, rfl⟩ trivial ?_ ?_ ?_ PassesOwn.never rfl)
  · intro zi0 zy0 zs0 zhy0 zrun0 zq0
    skip
    have hy0 := seq_range zhy0
    have hi := (List.getElem?_eq_some_iff.mp zhy0).1
    simp only [List.length_range] at hi
    have hck := hin _ (getD_mem (xs := circuit) (i := ((0 : Int) + (zy0 : Int)).toNat) (by omega))
    have hmd := Int.emod_lt_of_pos ((0 : Int) + (zy0 : Int) + 1) (show (0 : Int) < (circuit.length : Int) by omega)
    have hmd0 := Int.emod_nonneg ((0 : Int) + (zy0 : Int) + 1) (show (circuit.length : Int) ≠ 0 by omega)
    refine ⟨⟨[some (.fr ((eL (eT3 D.str D.int D.int)) kinds)), some (.fr ((eL (eT3 D.str D.str D.int)) ways)), some (.fr ((eL D.int) circuit)), some (.fr ((eL D.str) sources)), some (.fr (D.int ((0 : Int) + (zy0 : Int)))), none], []⟩, (eg_name 4 nd rfl (.inl rfl)), ?_⟩
    refine exs_cons (ex_ifP bd_n (et_cmp o_nes (ev_ix (.t (d := D.str ((ways.getD ((circuit.getD (((0 : Int) + (zy0 : Int))).toNat default)).toNat default).2.1)) rfl) (ev_ix (ix_L (xs := ways) (enc := (eT3 D.str D.str D.int)) (by exact rfl) (by walk_at "sd") (by walk_at "sd")) (ev_var 1 rfl (.inr (.inl rfl)) rfl) (ev_ix (ix_L (xs := circuit) (enc := D.int) (by exact rfl) (by walk_at "sd") (by walk_at "sd")) (ev_var 2 rfl (.inl rfl) rfl) (ev_var 4 rfl (.inl rfl) rfl))) ev_int) (ev_ix (ix_L (xs := sources) (enc := D.str) (by exact rfl) (by walk_at "sd") (by walk_at "sd")) (ev_var 3 rfl (.inl rfl) rfl) (ev_bin (o_mod (by walk_at "sd")) (ev_callTy (ds := [D.int (((0 : Int) + (zy0 : Int)) + (1 : Int))]) c_int (ea_cons (ev_bin o_add (ev_var 4 rfl (.inl rfl) rfl) ev_int) ea_nil) (by exact rfl) T.n_int (by decide +kernel)) (ev_len (ln_L (xs := circuit) (enc := D.int) (by exact rfl)) (ev_var 2 rfl (.inl rfl) rfl) (by exact rfl) T.n_len))) (nomark _)) (fun (zh1 : (¬ ((ways.getD ((circuit.getD (((0 : Int) + (zy0 : Int))).toNat default)).toNat default).2.1 = (sources.getD (((((0 : Int) + (zy0 : Int)) + (1 : Int)) % (circuit.length : Int))).toNat default)))) => ?_) (fun (zh1 : ¬ (¬ ((ways.getD ((circuit.getD (((0 : Int) + (zy0 : Int))).toNat default)).toNat default).2.1 = (sources.getD (((((0 : Int) + (zy0 : Int)) + (1 : Int)) % (circuit.length : Int))).toNat default)))) => ?_))
    · skip
      refine exs_one (ex_ret ev_bl ?_)
      have est : (m_law_closes_l0 kinds ways circuit sources) zs0 zy0 = .error false := by simp only [m_law_closes_l0, not_true_eq_false, not_false_eq_true, ↓reduceIte, ↓if_pos zh1]
      exact ⟨_, est, rfl, trivial⟩
    · skip
      refine exs_nil ?_
      show Exs _ _ _ ⟨[some (.fr ((eL (eT3 D.str D.int D.int)) kinds)), some (.fr ((eL (eT3 D.str D.str D.int)) ways)), some (.fr ((eL D.int) circuit)), some (.fr ((eL D.str) sources)), some (.fr (D.int ((0 : Int) + (zy0 : Int)))), none], []⟩ _
      refine exs_cons (ex_ifP bd_d (et_cmp (o_inL (e := D.str) (x := (sources.getD (((0 : Int) + (zy0 : Int))).toNat default)) (ys := (slcD sources none (some ((0 : Int) + (zy0 : Int))))) zhr.units ee_str) (ev_ix (ix_L (xs := sources) (enc := D.str) (by exact rfl) (by walk_at "sd") (by walk_at "sd")) (ev_var 3 rfl (.inl rfl) rfl) (ev_var 4 rfl (.inl rfl) rfl)) (ev_sliceT (enc := D.str) (xs := sources) (by exact rfl) (ev_var 3 rfl (.inl rfl) rfl) eo_none (eo_some (ev_var 4 rfl (.inl rfl) rfl))) (by rfl)) (fun (zh2 : ((sources.getD (((0 : Int) + (zy0 : Int))).toNat default) ∈ (slcD sources none (some ((0 : Int) + (zy0 : Int)))))) => ?_) (fun (zh2 : ¬ ((sources.getD (((0 : Int) + (zy0 : Int))).toNat default) ∈ (slcD sources none (some ((0 : Int) + (zy0 : Int)))))) => ?_))
      · skip
        refine exs_one (ex_ret ev_bl ?_)
        have est : (m_law_closes_l0 kinds ways circuit sources) zs0 zy0 = .error false := by simp only [m_law_closes_l0, not_true_eq_false, not_false_eq_true, ↓reduceIte, ↓if_neg zh1, ↓if_pos zh2]
        exact ⟨_, est, rfl, trivial⟩
      · skip
        refine exs_nil ?_
        show Exs _ _ _ ⟨[some (.fr ((eL (eT3 D.str D.int D.int)) kinds)), some (.fr ((eL (eT3 D.str D.str D.int)) ways)), some (.fr ((eL D.int) circuit)), some (.fr ((eL D.str) sources)), some (.fr (D.int ((0 : Int) + (zy0 : Int)))), none], []⟩ _
        refine exs_one (ex_ifP bd_d (et_cmp o_lt (ev_call (ds := [(eL (eT3 D.str D.int D.int)) kinds, D.str (sources.getD (((0 : Int) + (zy0 : Int))).toNat default)]) (ds' := []) (dvs := []) (dfs := []) O_law_number (zhr.mono (by decide)) T.m_law_number T.k_law_number T.b_law_number .nil (fun _ => .nil) (ea_cons (ev_var 0 rfl (.inl rfl) rfl) (ea_cons (ev_ix (ix_L (xs := sources) (enc := D.str) (by exact rfl) (by walk_at "sd") (by walk_at "sd")) (ev_var 3 rfl (.inl rfl) rfl) (ev_var 4 rfl (.inl rfl) rfl)) ea_nil)) (fun _ zkk => ⟨kinds, (sources.getD (((0 : Int) + (zy0 : Int))).toNat default), rfl, rfl, (by walk_at "pre"), zkk⟩) (by exact rfl)) (ev_call (ds := [(eL (eT3 D.str D.int D.int)) kinds, D.str (sources.getD ((0 : Int)).toNat default)]) (ds' := []) (dvs := []) (dfs := []) O_law_number (zhr.mono (by decide)) T.m_law_number T.k_law_number T.b_law_number .nil (fun _ => .nil) (ea_cons (ev_var 0 rfl (.inl rfl) rfl) (ea_cons (ev_ix (ix_L (xs := sources) (enc := D.str) (by exact rfl) (by walk_at "sd") (by walk_at "sd")) (ev_var 3 rfl (.inl rfl) rfl) ev_int) ea_nil)) (fun _ zkk => ⟨kinds, (sources.getD ((0 : Int)).toNat default), rfl, rfl, (by walk_at "pre"), zkk⟩) (by exact rfl)) (nomark _)) (fun (zh3 : ((m_law_number kinds (sources.getD (((0 : Int) + (zy0 : Int))).toNat default)) < (m_law_number kinds (sources.getD ((0 : Int)).toNat default)))) => ?_) (fun (zh3 : ¬ ((m_law_number kinds (sources.getD (((0 : Int) + (zy0 : Int))).toNat default)) < (m_law_number kinds (sources.getD ((0 : Int)).toNat default)))) => ?_))
        · skip
          refine exs_one (ex_ret ev_bl ?_)
          have est : (m_law_closes_l0 kinds ways circuit sources) zs0 zy0 = .error false := by simp only [m_law_closes_l0, not_true_eq_false, not_false_eq_true, ↓reduceIte, ↓if_neg zh1, ↓if_neg zh2, ↓if_pos zh3]
          exact ⟨_, est, rfl, trivial⟩
        · skip
          refine exs_nil ?_
          have est : (m_law_closes_l0 kinds ways circuit sources) zs0 zy0 = .ok () := by simp only [m_law_closes_l0, not_true_eq_false, not_false_eq_true, ↓reduceIte, ↓if_neg zh1, ↓if_neg zh2, ↓if_neg zh3]
          exact ⟨_, est, ⟨⟨.inr rfl, .inr rfl, .inr rfl, .inr rfl, .inl rfl, .inl rfl, trivial⟩, rfl⟩, trivial⟩
  · rintro zr zc zS zrun0 ⟨rfl, zhL⟩
    skip
    have zh4 := zrun0
    have efin : m_law_closes kinds ways circuit = zr := by subst zg_sources; simp only [m_law_closes, not_true_eq_false, not_false_eq_true, ↓reduceIte, ↓zh4]
    rw [efin] at zk
    exact zk _
  · intro zs0 zrun0 zq0
    have zh5 := zrun0
    show Exs _ _ _ ⟨[some (.fr ((eL (eT3 D.str D.int D.int)) kinds)), some (.fr ((eL (eT3 D.str D.str D.int)) ways)), some (.fr ((eL D.int) circuit)), some (.fr ((eL D.str) sources)), none, none], []⟩ _
    refine exs_one (ex_ret ev_bl ?_)
    have efin : m_law_closes kinds ways circuit = true := by subst zg_sources; simp only [m_law_closes, not_true_eq_false, not_false_eq_true, ↓reduceIte, ↓zh5]
    rw [efin] at zk
    exact zk _
def m_law_circuits_l1 (kinds : List (Str × Int × Int)) (ways : List (Str × Str × Int)) (first : Int) (zs1 : (List (Int × (List Int)))) (zy1 : List Int) : (List (Int × (List Int))) :=
  if ((m_law_closes kinds ways zy1) = true) then (zs1 ++ [((m_law_number kinds ((ways.getD (first).toNat default).1)), zy1)]) else zs1
def m_law_circuits_l3 (kinds : List (Str × Int × Int)) (ways : List (Str × Str × Int)) (first : Int) (second : Int) (zs2 : (List (Int × (List Int)))) (zy2 : Nat) : (List (Int × (List Int))) :=
  if ((m_law_closes kinds ways [first, second, ((0 : Int) + (zy2 : Int))]) = true) then (zs2 ++ [((m_law_number kinds ((ways.getD (first).toNat default).1)), [first, second, ((0 : Int) + (zy2 : Int))])]) else zs2
def m_law_circuits_l2 (kinds : List (Str × Int × Int)) (ways : List (Str × Str × Int)) (first : Int) (zs1 : (List (Int × (List Int)))) (zy1 : Nat) : (List (Int × (List Int))) :=
  ((List.range ((ways.length : Int)).toNat).foldl (m_law_circuits_l3 kinds ways first ((0 : Int) + (zy1 : Int))) zs1)
def m_law_circuits_l0 (kinds : List (Str × Int × Int)) (ways : List (Str × Str × Int)) (zs0 : (List (Int × (List Int)))) (zy0 : Nat) : (List (Int × (List Int))) :=
  ((List.range ((ways.length : Int)).toNat).foldl (m_law_circuits_l2 kinds ways ((0 : Int) + (zy0 : Int))) (([[((0 : Int) + (zy0 : Int))]] ++ ((List.range ((ways.length : Int)).toNat).map (fun zc1 : Nat => [((0 : Int) + (zy0 : Int)), ((0 : Int) + (zc1 : Int))]))).foldl (m_law_circuits_l1 kinds ways ((0 : Int) + (zy0 : Int))) zs0))
def m_law_circuits (kinds : List (Str × Int × Int)) (ways : List (Str × Str × Int)) : List (List Int) :=
  ((sortBy (lt2 ltI (ltList ltI)) ((List.range ((ways.length : Int)).toNat).foldl (m_law_circuits_l0 kinds ways) ([] : List (Int × (List Int))))).map (fun zc6 : Int × (List Int) => zc6.2))
theorem short_in {n y : Nat} {c : List Int} (hy : (0 : Int) + (y : Int) < (n : Int)) (h : c ∈ ([[(0 : Int) + (y : Int)]] ++ (List.range ((n : Int)).toNat).map (fun zc1 : Nat => [(0 : Int) + (y : Int), (0 : Int) + (zc1 : Int)]))) : c.length ≤ 2 ∧ 0 < c.length ∧ ∀ x ∈ c, 0 ≤ x ∧ x < (n : Int) := by
  rcases List.mem_append.mp h with q | q
  · rw [List.mem_singleton.mp q]
    exact ⟨by simp, by simp, fun x hx => by rw [List.mem_singleton.mp hx]; omega⟩
  · obtain ⟨z, hz, rfl⟩ := List.mem_map.mp q
    have := List.mem_range.mp hz
    refine ⟨by simp, by simp, fun x hx => ?_⟩
    rcases List.mem_cons.mp hx with rfl | hx
    · omega
    · rw [List.mem_singleton.mp hx]; omega
theorem trip_in {n a b c : Nat} (ha : 0 + (a : Int) < (n : Int)) (hb : 0 + (b : Int) < (n : Int)) (hc : 0 + (c : Int) < (n : Int)) : ∀ x ∈ [(0 : Int) + (a : Int), (0 : Int) + (b : Int), (0 : Int) + (c : Int)], 0 ≤ x ∧ x < (n : Int) := fun x hx => by
  simp only [List.mem_cons, List.not_mem_nil, or_false] at hx
  omega
set_option hygiene false in
local macro_rules | `(tactic| walk_at "pre") => `(tactic| first | exact ⟨by omega, by omega, hc1.2.2⟩ | exact ⟨by show 3 ≤ 100; decide, by omega, hc3⟩ | fail)
set_option hygiene false in
local macro_rules | `(tactic| walk_at "sd") => `(tactic| first | omega | (rw [sortBy_len]; omega) | fail)
theorem sortBy_len {τ : Type} (lt : τ → τ → Bool) (xs : List τ) : (sortBy lt xs).length = xs.length := List.length_mergeSort _
theorem sc_law_circuits : FnScope ["kinds", "ways", "found", "first", "circuit", "second", "third", "entry"] ["kinds", "ways"] (defScope s_law_circuits) := ⟨rfl, rfl, rfl, by decide +kernel, rfl, by decide +kernel, by decide +kernel⟩
def sp_law_circuits : SpN := fun zcs zL zKc => ∃ kinds : List (Str × Int × Int), ∃ ways : List (Str × Str × Int), zcs = [.fr ((eL (eT3 D.str D.int D.int)) kinds), .fr ((eL (eT3 D.str D.str D.int)) ways)] ∧ zL = [] ∧ (kinds.length ≤ 8 ∧ ways.length ≤ 4) ∧ ∀ zL', zKc (.fr ((eL (eL D.int)) (m_law_circuits kinds ways))) zL'
theorem ok_law_circuits (T : TX P K mg) : FnOk P w K mg base CX0 3 T.a_law_circuits T.d_law_circuits ["kinds", "ways"] (SpOf K mg sp_law_circuits) := by
  have O_law_closes := ok_law_closes (P := P) (w := w) (base := base) T
  have O_law_number := ok_law_number (P := P) (w := w) (base := base) T
  refine T.F_law_circuits.okN sc_law_circuits (fun zcs zL zKc zh => by obtain ⟨kinds, ways, rfl, _⟩ := zh; rfl) fun zcdv zA zout zst zH zE zB zcs zL zKc zhr zh => ?_
  obtain ⟨kinds, ways, rfl, rfl, hpre, zk⟩ := zh
  have nd := sc_law_circuits.nd
  have hSL := sizeLine_eq
  show Exs _ _ _ ⟨[some (.fr ((eL (eT3 D.str D.int D.int)) kinds)), some (.fr ((eL (eT3 D.str D.str D.int)) ways)), none, none, none, none, none, none], []⟩ _
  refine exs_cons (ex_set 2 (ev_lstN 100 (enc := (eT2 D.int (eL D.int))) ([] : List (Int × (List Int))) ea_nil rfl (by simp only [List.length_cons, List.length_nil]; decide) (by simp [names]) (by decide)) ?_ nd rfl (.inl rfl))
  show Exs _ _ _ ⟨[some (.fr ((eL (eT3 D.str D.int D.int)) kinds)), some (.fr ((eL (eT3 D.str D.str D.int)) ways)), some (.ad 100), none, none, none, none, none], [(100, .fl ((([] : List (Int × (List Int)))).map (eT2 D.int (eL D.int))))]⟩ _
  refine exs_cons (ex_forF (enc := (fun i : Nat => D.int ((0 : Int) + (i : Int)))) (fun (zs0 : (List (Int × (List Int)))) => (⟨[some (.fr ((eL (eT3 D.str D.int D.int)) kinds)), some (.fr ((eL (eT3 D.str D.str D.int)) ways)), some (.ad 100), none, none, none, none, none], [(100, .fl ((zs0).map (eT2 D.int (eL D.int))))]⟩ : Nz.S)) (m_law_circuits_l0 kinds ways) ([] : List (Int × (List Int))) (fun (zi0 : Nat) (zs0 : (List (Int × (List Int)))) => zs0.length ≤ zi0 * 100) (src_range1 (ea_cons (ev_len (ln_L (xs := ways) (enc := (eT3 D.str D.str D.int)) (by exact rfl)) (ev_var 1 rfl (.inl rfl) rfl) (by exact rfl) T.n_len) ea_nil) (by exact rfl) T.n_range (by walk_at "sd") (by walk_at "sd")) ⟨⟨.inr rfl, .inr rfl, .inr rfl, .inl rfl, .inl rfl, .inl rfl, .inl rfl, .inl rfl, trivial⟩, rfl⟩ (by simp) ?_ ?_ PassesOwn.never rfl)
  · intro zi0 zy0 zs0 zhy0 zq0
    skip
    have hy0 := seq_range zhy0
    have hi0 := (List.getElem?_eq_some_iff.mp zhy0).1
    simp only [List.length_range] at hi0
    refine ⟨⟨[some (.fr ((eL (eT3 D.str D.int D.int)) kinds)), some (.fr ((eL (eT3 D.str D.str D.int)) ways)), some (.ad 100), some (.fr (D.int ((0 : Int) + (zy0 : Int)))), none, none, none, none], [(100, .fl ((zs0).map (eT2 D.int (eL D.int))))]⟩, (eg_name 3 nd rfl (.inr rfl)), ?_⟩
    refine exs_cons (ex_forF (enc := (eL D.int)) (fun (zs1 : (List (Int × (List Int)))) => (⟨[some (.fr ((eL (eT3 D.str D.int D.int)) kinds)), some (.fr ((eL (eT3 D.str D.str D.int)) ways)), some (.ad 100), some (.fr (D.int ((0 : Int) + (zy0 : Int)))), none, none, none, none], [(100, .fl ((zs1).map (eT2 D.int (eL D.int))))]⟩ : Nz.S)) (m_law_circuits_l1 kinds ways ((0 : Int) + (zy0 : Int))) zs0 (fun (zi1 : Nat) (zs1 : (List (Int × (List Int)))) => zs1.length ≤ zi0 * 100 + zi1) (src_listT (ev_bin (o_catT (enc := (eL D.int)) (xs := [[((0 : Int) + (zy0 : Int))]]) (ys := ((List.range ((ways.length : Int)).toNat).map (fun zc2 : Nat => [((0 : Int) + (zy0 : Int)), ((0 : Int) + (zc2 : Int))]))) (by walk_at "sd")) (ev_lstF (enc := (eL D.int)) [[((0 : Int) + (zy0 : Int))]] (ea_cons (ev_lstF (enc := D.int) [((0 : Int) + (zy0 : Int))] (ea_cons (ev_var 3 rfl (.inr (.inl rfl)) rfl) ea_nil) rfl (by simp only [List.length_cons, List.length_nil]; decide)) ea_nil) rfl (by simp only [List.length_cons, List.length_nil]; decide)) (ev_lcM (enc2 := (eL D.int)) 199 (fun zc2 : Nat => [((0 : Int) + (zy0 : Int)), ((0 : Int) + (zc2 : Int))]) _ rfl nd (blkOk_by (N := ["kinds", "ways", "found", "first", "circuit", "second", "third", "entry"]) (sc := defScope s_law_circuits) (own := [(("second" : Str), 5)]) (by decide +kernel)) (src_range1 (ea_cons (ev_len (ln_L (xs := ways) (enc := (eT3 D.str D.str D.int)) (by exact rfl)) (ev_var 1 rfl (.inl rfl) rfl) (by exact rfl) T.n_len) ea_nil) (by exact rfl) T.n_range (by walk_at "sd") (by walk_at "sd")) (by simp [names]) (by decide) (by walk_at "sd") (fun _ zc2 _ zhyzc2 _ _ _ _ _ => (eg_nameC 5 nd rfl (.inl rfl) (by decide) (.inr rfl))) (fun _ zc2 _ zhyzc2 _ _ _ _ _ => (ev_lstF (enc := D.int) [((0 : Int) + (zy0 : Int)), ((0 : Int) + (zc2 : Int))] (ea_cons (ev_var 3 rfl (.inr (.inl rfl)) rfl) (ea_cons (ev_var 5 rfl (.inl rfl) rfl) ea_nil)) rfl (by simp only [List.length_cons, List.length_nil]; decide)))))) ⟨⟨.inr rfl, .inr rfl, .inr rfl, .inr rfl, .inl rfl, .inl rfl, .inl rfl, .inl rfl, trivial⟩, rfl⟩ (by omega) ?_ ?_ PassesOwn.never rfl)
    · intro zi1 zy1 zs1 zhy1 zq1
      skip
      have hi1 := (List.getElem?_eq_some_iff.mp zhy1).1
      simp only [List.length_append, List.length_map, List.length_range, List.length_cons, List.length_nil] at hi1
      have hc1 := short_in (by omega) (List.mem_of_getElem? zhy1)
      refine ⟨⟨[some (.fr ((eL (eT3 D.str D.int D.int)) kinds)), some (.fr ((eL (eT3 D.str D.str D.int)) ways)), some (.ad 100), some (.fr (D.int ((0 : Int) + (zy0 : Int)))), some (.fr ((eL D.int) zy1)), none, none, none], [(100, .fl ((zs1).map (eT2 D.int (eL D.int))))]⟩, (eg_name 4 nd rfl (.inl rfl)), ?_⟩
      refine exs_one (ex_ifP Iff.rfl (et_val (ev_call (ds := [(eL (eT3 D.str D.int D.int)) kinds, (eL (eT3 D.str D.str D.int)) ways, (eL D.int) zy1]) (ds' := []) (dvs := []) (dfs := []) O_law_closes (zhr.mono (by decide)) T.m_law_closes T.k_law_closes T.b_law_closes .nil (fun _ => .nil) (ea_cons (ev_var 0 rfl (.inl rfl) rfl) (ea_cons (ev_var 1 rfl (.inl rfl) rfl) (ea_cons (ev_var 4 rfl (.inl rfl) rfl) ea_nil))) (fun _ zkk => ⟨kinds, ways, zy1, rfl, rfl, (by walk_at "pre"), zkk⟩) (by exact rfl))) (fun (zh1 : ((m_law_closes kinds ways zy1) = true)) => ?_) (fun (zh1 : ¬ ((m_law_closes kinds ways zy1) = true)) => ?_))
      · skip
        refine exs_one (ex_expr (ev_appendT (n := 100) (enc := (eT2 D.int (eL D.int))) (xs := zs1) (xs0 := zs1) ((m_law_number kinds ((ways.getD (((0 : Int) + (zy0 : Int))).toNat default).1)), zy1) rfl rfl rfl (by walk_at "sd") (ev_var 2 rfl (.inl rfl) rfl) (ev_tup (ds := [D.int (m_law_number kinds ((ways.getD (((0 : Int) + (zy0 : Int))).toNat default).1)), (eL D.int) zy1]) (ea_cons (ev_call (ds := [(eL (eT3 D.str D.int D.int)) kinds, D.str ((ways.getD (((0 : Int) + (zy0 : Int))).toNat default).1)]) (ds' := []) (dvs := []) (dfs := []) O_law_number (zhr.mono (by decide)) T.m_law_number T.k_law_number T.b_law_number .nil (fun _ => .nil) (ea_cons (ev_var 0 rfl (.inl rfl) rfl) (ea_cons (ev_ix (.t (d := D.str ((ways.getD (((0 : Int) + (zy0 : Int))).toNat default).1)) rfl) (ev_ix (ix_L (xs := ways) (enc := (eT3 D.str D.str D.int)) (by exact rfl) (by walk_at "sd") (by walk_at "sd")) (ev_var 1 rfl (.inl rfl) rfl) (ev_var 3 rfl (.inr (.inl rfl)) rfl)) ev_int) ea_nil)) (fun _ zkk => ⟨kinds, (ways.getD (((0 : Int) + (zy0 : Int))).toNat default).1, rfl, rfl, (by walk_at "pre"), zkk⟩) (by exact rfl)) (ea_cons (ev_var 4 rfl (.inl rfl) rfl) ea_nil)) (by simp only [List.length_cons, List.length_nil]; decide))) ?_)
        have est : (m_law_circuits_l1 kinds ways ((0 : Int) + (zy0 : Int))) zs1 zy1 = (zs1 ++ [((m_law_number kinds ((ways.getD (((0 : Int) + (zy0 : Int))).toNat default).1)), zy1)]) := by simp only [m_law_circuits_l1, not_true_eq_false, not_false_eq_true, ↓reduceIte, ↓if_pos zh1]
        show Le _ _ ∧ _
        try rw [est]
        exact ⟨⟨⟨.inr rfl, .inr rfl, .inr rfl, .inr rfl, .inl rfl, .inl rfl, .inl rfl, .inl rfl, trivial⟩, rfl⟩, (by first | omega | (rw [List.length_append, List.length_singleton]; omega))⟩
      · skip
        refine exs_nil ?_
        have est : (m_law_circuits_l1 kinds ways ((0 : Int) + (zy0 : Int))) zs1 zy1 = zs1 := by simp only [m_law_circuits_l1, not_true_eq_false, not_false_eq_true, ↓reduceIte, ↓if_neg zh1]
        show Le _ _ ∧ _
        try rw [est]
        exact ⟨⟨⟨.inr rfl, .inr rfl, .inr rfl, .inr rfl, .inl rfl, .inl rfl, .inl rfl, .inl rfl, trivial⟩, rfl⟩, (by first | omega | (rw [List.length_append, List.length_singleton]; omega))⟩
    · intro zq1
      simp only [List.length_append, List.length_map, List.length_range, List.length_cons, List.length_nil] at zq1
      show Exs _ _ _ ⟨[some (.fr ((eL (eT3 D.str D.int D.int)) kinds)), some (.fr ((eL (eT3 D.str D.str D.int)) ways)), some (.ad 100), some (.fr (D.int ((0 : Int) + (zy0 : Int)))), none, none, none, none], [(100, .fl (((([[((0 : Int) + (zy0 : Int))]] ++ ((List.range ((ways.length : Int)).toNat).map (fun zc2 : Nat => [((0 : Int) + (zy0 : Int)), ((0 : Int) + (zc2 : Int))]))).foldl (m_law_circuits_l1 kinds ways ((0 : Int) + (zy0 : Int))) zs0)).map (eT2 D.int (eL D.int))))]⟩ _
      refine exs_one (ex_forF (enc := (fun i : Nat => D.int ((0 : Int) + (i : Int)))) (fun (zs1 : (List (Int × (List Int)))) => (⟨[some (.fr ((eL (eT3 D.str D.int D.int)) kinds)), some (.fr ((eL (eT3 D.str D.str D.int)) ways)), some (.ad 100), some (.fr (D.int ((0 : Int) + (zy0 : Int)))), none, none, none, none], [(100, .fl ((zs1).map (eT2 D.int (eL D.int))))]⟩ : Nz.S)) (m_law_circuits_l2 kinds ways ((0 : Int) + (zy0 : Int))) (([[((0 : Int) + (zy0 : Int))]] ++ ((List.range ((ways.length : Int)).toNat).map (fun zc2 : Nat => [((0 : Int) + (zy0 : Int)), ((0 : Int) + (zc2 : Int))]))).foldl (m_law_circuits_l1 kinds ways ((0 : Int) + (zy0 : Int))) zs0) (fun (zi1 : Nat) (zs1 : (List (Int × (List Int)))) => zs1.length ≤ zi0 * 100 + 10 + zi1 * 10) (src_range1 (ea_cons (ev_len (ln_L (xs := ways) (enc := (eT3 D.str D.str D.int)) (by exact rfl)) (ev_var 1 rfl (.inl rfl) rfl) (by exact rfl) T.n_len) ea_nil) (by exact rfl) T.n_range (by walk_at "sd") (by walk_at "sd")) ⟨⟨.inr rfl, .inr rfl, .inr rfl, .inr rfl, .inl rfl, .inl rfl, .inl rfl, .inl rfl, trivial⟩, rfl⟩ (by omega) ?_ ?_ PassesOwn.never rfl)
      · intro zi1 zy1 zs1 zhy1 zq1
        skip
        have hy1 := seq_range zhy1
        have hi1 := (List.getElem?_eq_some_iff.mp zhy1).1
        simp only [List.length_range] at hi1
        refine ⟨⟨[some (.fr ((eL (eT3 D.str D.int D.int)) kinds)), some (.fr ((eL (eT3 D.str D.str D.int)) ways)), some (.ad 100), some (.fr (D.int ((0 : Int) + (zy0 : Int)))), none, some (.fr (D.int ((0 : Int) + (zy1 : Int)))), none, none], [(100, .fl ((zs1).map (eT2 D.int (eL D.int))))]⟩, (eg_name 5 nd rfl (.inl rfl)), ?_⟩
        refine exs_one (ex_forF (enc := (fun i : Nat => D.int ((0 : Int) + (i : Int)))) (fun (zs2 : (List (Int × (List Int)))) => (⟨[some (.fr ((eL (eT3 D.str D.int D.int)) kinds)), some (.fr ((eL (eT3 D.str D.str D.int)) ways)), some (.ad 100), some (.fr (D.int ((0 : Int) + (zy0 : Int)))), none, some (.fr (D.int ((0 : Int) + (zy1 : Int)))), none, none], [(100, .fl ((zs2).map (eT2 D.int (eL D.int))))]⟩ : Nz.S)) (m_law_circuits_l3 kinds ways ((0 : Int) + (zy0 : Int)) ((0 : Int) + (zy1 : Int))) zs1 (fun (zi2 : Nat) (zs2 : (List (Int × (List Int)))) => zs2.length ≤ zi0 * 100 + 10 + zi1 * 10 + zi2) (src_range1 (ea_cons (ev_len (ln_L (xs := ways) (enc := (eT3 D.str D.str D.int)) (by exact rfl)) (ev_var 1 rfl (.inl rfl) rfl) (by exact rfl) T.n_len) ea_nil) (by exact rfl) T.n_range (by walk_at "sd") (by walk_at "sd")) ⟨⟨.inr rfl, .inr rfl, .inr rfl, .inr rfl, .inl rfl, .inr rfl, .inl rfl, .inl rfl, trivial⟩, rfl⟩ (by omega) ?_ ?_ PassesOwn.never rfl)
        · intro zi2 zy2 zs2 zhy2 zq2
          skip
          have hy2 := seq_range zhy2
          have hi2 := (List.getElem?_eq_some_iff.mp zhy2).1
          simp only [List.length_range] at hi2
          have hc3 := trip_in (a := zy0) (b := zy1) (c := zy2) (n := ways.length) (by omega) (by omega) (by omega)
          refine ⟨⟨[some (.fr ((eL (eT3 D.str D.int D.int)) kinds)), some (.fr ((eL (eT3 D.str D.str D.int)) ways)), some (.ad 100), some (.fr (D.int ((0 : Int) + (zy0 : Int)))), none, some (.fr (D.int ((0 : Int) + (zy1 : Int)))), some (.fr (D.int ((0 : Int) + (zy2 : Int)))), none], [(100, .fl ((zs2).map (eT2 D.int (eL D.int))))]⟩, (eg_name 6 nd rfl (.inl rfl)), ?_⟩
          refine exs_one (ex_ifP Iff.rfl (et_val (ev_call (ds := [(eL (eT3 D.str D.int D.int)) kinds, (eL (eT3 D.str D.str D.int)) ways, (eL D.int) [((0 : Int) + (zy0 : Int)), ((0 : Int) + (zy1 : Int)), ((0 : Int) + (zy2 : Int))]]) (ds' := []) (dvs := []) (dfs := []) O_law_closes (zhr.mono (by decide)) T.m_law_closes T.k_law_closes T.b_law_closes .nil (fun _ => .nil) (ea_cons (ev_var 0 rfl (.inl rfl) rfl) (ea_cons (ev_var 1 rfl (.inl rfl) rfl) (ea_cons (ev_lstF (enc := D.int) [((0 : Int) + (zy0 : Int)), ((0 : Int) + (zy1 : Int)), ((0 : Int) + (zy2 : Int))] (ea_cons (ev_var 3 rfl (.inr (.inl rfl)) rfl) (ea_cons (ev_var 5 rfl (.inl rfl) rfl) (ea_cons (ev_var 6 rfl (.inl rfl) rfl) ea_nil))) rfl (by simp only [List.length_cons, List.length_nil]; decide)) ea_nil))) (fun _ zkk => ⟨kinds, ways, [((0 : Int) + (zy0 : Int)), ((0 : Int) + (zy1 : Int)), ((0 : Int) + (zy2 : Int))], rfl, rfl, (by walk_at "pre"), zkk⟩) (by exact rfl))) (fun (zh2 : ((m_law_closes kinds ways [((0 : Int) + (zy0 : Int)), ((0 : Int) + (zy1 : Int)), ((0 : Int) + (zy2 : Int))]) = true)) => ?_) (fun (zh2 : ¬ ((m_law_closes kinds ways [((0 : Int) + (zy0 : Int)), ((0 : Int) + (zy1 : Int)), ((0 : Int) + (zy2 : Int))]) = true)) => ?_))
          · skip
            refine exs_one (ex_expr (ev_appendT (n := 100) (enc := (eT2 D.int (eL D.int))) (xs := zs2) (xs0 := zs2) ((m_law_number kinds ((ways.getD (((0 : Int) + (zy0 : Int))).toNat default).1)), [((0 : Int) + (zy0 : Int)), ((0 : Int) + (zy1 : Int)), ((0 : Int) + (zy2 : Int))]) rfl rfl rfl (by walk_at "sd") (ev_var 2 rfl (.inl rfl) rfl) (ev_tup (ds := [D.int (m_law_number kinds ((ways.getD (((0 : Int) + (zy0 : Int))).toNat default).1)), (eL D.int) [((0 : Int) + (zy0 : Int)), ((0 : Int) + (zy1 : Int)), ((0 : Int) + (zy2 : Int))]]) (ea_cons (ev_call (ds := [(eL (eT3 D.str D.int D.int)) kinds, D.str ((ways.getD (((0 : Int) + (zy0 : Int))).toNat default).1)]) (ds' := []) (dvs := []) (dfs := []) O_law_number (zhr.mono (by decide)) T.m_law_number T.k_law_number T.b_law_number .nil (fun _ => .nil) (ea_cons (ev_var 0 rfl (.inl rfl) rfl) (ea_cons (ev_ix (.t (d := D.str ((ways.getD (((0 : Int) + (zy0 : Int))).toNat default).1)) rfl) (ev_ix (ix_L (xs := ways) (enc := (eT3 D.str D.str D.int)) (by exact rfl) (by walk_at "sd") (by walk_at "sd")) (ev_var 1 rfl (.inl rfl) rfl) (ev_var 3 rfl (.inr (.inl rfl)) rfl)) ev_int) ea_nil)) (fun _ zkk => ⟨kinds, (ways.getD (((0 : Int) + (zy0 : Int))).toNat default).1, rfl, rfl, (by walk_at "pre"), zkk⟩) (by exact rfl)) (ea_cons (ev_lstF (enc := D.int) [((0 : Int) + (zy0 : Int)), ((0 : Int) + (zy1 : Int)), ((0 : Int) + (zy2 : Int))] (ea_cons (ev_var 3 rfl (.inr (.inl rfl)) rfl) (ea_cons (ev_var 5 rfl (.inl rfl) rfl) (ea_cons (ev_var 6 rfl (.inl rfl) rfl) ea_nil))) rfl (by simp only [List.length_cons, List.length_nil]; decide)) ea_nil)) (by simp only [List.length_cons, List.length_nil]; decide))) ?_)
            have est : (m_law_circuits_l3 kinds ways ((0 : Int) + (zy0 : Int)) ((0 : Int) + (zy1 : Int))) zs2 zy2 = (zs2 ++ [((m_law_number kinds ((ways.getD (((0 : Int) + (zy0 : Int))).toNat default).1)), [((0 : Int) + (zy0 : Int)), ((0 : Int) + (zy1 : Int)), ((0 : Int) + (zy2 : Int))])]) := by simp only [m_law_circuits_l3, not_true_eq_false, not_false_eq_true, ↓reduceIte, ↓if_pos zh2]
            show Le _ _ ∧ _
            try rw [est]
            exact ⟨⟨⟨.inr rfl, .inr rfl, .inr rfl, .inr rfl, .inl rfl, .inr rfl, .inl rfl, .inl rfl, trivial⟩, rfl⟩, (by first | omega | (rw [List.length_append, List.length_singleton]; omega))⟩
          · skip
            refine exs_nil ?_
            have est : (m_law_circuits_l3 kinds ways ((0 : Int) + (zy0 : Int)) ((0 : Int) + (zy1 : Int))) zs2 zy2 = zs2 := by simp only [m_law_circuits_l3, not_true_eq_false, not_false_eq_true, ↓reduceIte, ↓if_neg zh2]
            show Le _ _ ∧ _
            try rw [est]
            exact ⟨⟨⟨.inr rfl, .inr rfl, .inr rfl, .inr rfl, .inl rfl, .inr rfl, .inl rfl, .inl rfl, trivial⟩, rfl⟩, (by first | omega | (rw [List.length_append, List.length_singleton]; omega))⟩
        · intro zq2
          simp only [List.length_range] at zq2
          have est : (m_law_circuits_l2 kinds ways ((0 : Int) + (zy0 : Int))) zs1 zy1 = ((List.range ((ways.length : Int)).toNat).foldl (m_law_circuits_l3 kinds ways ((0 : Int) + (zy0 : Int)) ((0 : Int) + (zy1 : Int))) zs1) := by simp only [m_law_circuits_l2, not_true_eq_false, not_false_eq_true, ↓reduceIte]
          show Le _ _ ∧ _
          try rw [est]
          exact ⟨⟨⟨.inr rfl, .inr rfl, .inr rfl, .inr rfl, .inl rfl, .inl rfl, .inl rfl, .inl rfl, trivial⟩, rfl⟩, (by omega)⟩
      · intro zq1
        simp only [List.length_range] at zq1
        have est : (m_law_circuits_l0 kinds ways) zs0 zy0 = ((List.range ((ways.length : Int)).toNat).foldl (m_law_circuits_l2 kinds ways ((0 : Int) + (zy0 : Int))) (([[((0 : Int) + (zy0 : Int))]] ++ ((List.range ((ways.length : Int)).toNat).map (fun zc2 : Nat => [((0 : Int) + (zy0 : Int)), ((0 : Int) + (zc2 : Int))]))).foldl (m_law_circuits_l1 kinds ways ((0 : Int) + (zy0 : Int))) zs0)) := by simp only [m_law_circuits_l0, not_true_eq_false, not_false_eq_true, ↓reduceIte]
        show Le _ _ ∧ _
        try rw [est]
        exact ⟨⟨⟨.inr rfl, .inr rfl, .inr rfl, .inl rfl, .inl rfl, .inl rfl, .inl rfl, .inl rfl, trivial⟩, rfl⟩, (by omega)⟩
  · intro zq0
    simp only [List.length_range] at zq0
    show Exs _ _ _ ⟨[some (.fr ((eL (eT3 D.str D.int D.int)) kinds)), some (.fr ((eL (eT3 D.str D.str D.int)) ways)), some (.ad 100), none, none, none, none, none], [(100, .fl ((((List.range ((ways.length : Int)).toNat).foldl (m_law_circuits_l0 kinds ways) ([] : List (Int × (List Int))))).map (eT2 D.int (eL D.int))))]⟩ _
    refine exs_freezeT 100 (xs := ((List.range ((ways.length : Int)).toNat).foldl (m_law_circuits_l0 kinds ways) ([] : List (Int × (List Int))))) (enc := (eT2 D.int (eL D.int))) (by exact rfl) ?_
    show Exs _ _ _ ⟨[some (.fr ((eL (eT3 D.str D.int D.int)) kinds)), some (.fr ((eL (eT3 D.str D.str D.int)) ways)), some (.fr ((eL (eT2 D.int (eL D.int))) ((List.range ((ways.length : Int)).toNat).foldl (m_law_circuits_l0 kinds ways) ([] : List (Int × (List Int)))))), none, none, none, none, none], []⟩ _
    refine exs_one (ex_ret (ev_lcM (enc2 := (eL D.int)) 199 (fun zc3 : Int × (List Int) => zc3.2) _ rfl nd (blkOk_by (N := ["kinds", "ways", "found", "first", "circuit", "second", "third", "entry"]) (sc := defScope s_law_circuits) (own := [(("entry" : Str), 7)]) (by decide +kernel)) (src_listT (ev_callB (ds := [(eL (eT2 D.int (eL D.int))) ((List.range ((ways.length : Int)).toNat).foldl (m_law_circuits_l0 kinds ways) ([] : List (Int × (List Int))))]) (c_sortedD zhr.units66 (oe_T2 oe_int (oe_L oe_int)) (.inl fun _ => ⟨_, _, rfl⟩) (by walk_at "sd")) (ea_cons (ev_var 2 rfl (.inl rfl) rfl) ea_nil) (by exact rfl) T.n_sorted (by decide +kernel))) (by simp [names]) (by decide) (by walk_at "sd") (fun _ zc3 _ zhyzc3 _ _ _ _ _ => (eg_nameC 7 nd rfl (.inl rfl) (by decide) (.inr rfl))) (fun _ zc3 _ zhyzc3 _ _ _ _ _ => (ev_ix (.t (d := (eL D.int) zc3.2) rfl) (ev_var 7 rfl (.inl rfl) rfl) ev_int))) ?_)
    have efin : m_law_circuits kinds ways = ((sortBy (lt2 ltI (ltList ltI)) ((List.range ((ways.length : Int)).toNat).foldl (m_law_circuits_l0 kinds ways) ([] : List (Int × (List Int))))).map (fun zc3 : Int × (List Int) => zc3.2)) := by simp only [m_law_circuits, not_true_eq_false, not_false_eq_true, ↓reduceIte]
    rw [efin] at zk
    exact zk _
def m_circuitsn_l0 (ends : List (Int × Int)) (zs0 : (List (List Int))) (zy0 : Nat) : (List (List Int)) :=
  (zs0 ++ (m_circuits_behindn 8 ends [((0 : Int) + (zy0 : Int))] ([] : List Int)))
def m_circuitsn (task : Task) : List (List Int) :=
  let ends1 : List (Int × Int) := (task.ways.map (fun zc2 : Str × Str × Int => ((m_Task_kind_number task zc2.1), (m_Task_kind_number task zc2.2.1))))
  ((List.range ((task.kinds.length : Int)).toNat).foldl (m_circuitsn_l0 ends1) ([] : List (List Int)))
theorem sc_circuitsn : FnScope ["task", "ends", "found", "first", "source", "target", "_"] ["task"] (defScope s_circuitsn) := ⟨rfl, rfl, rfl, by decide +kernel, rfl, by decide +kernel, by decide +kernel⟩
def sp_circuitsn : SpN := fun zcs zL zKc => ∃ task : Task, zcs = [.fr (eTask task)] ∧ zL = [] ∧ (task.ok) ∧ ∀ zP zm zb, zKc (.ad zm) (zP ++ nest zm zb D.int (m_circuitsn task))
theorem ok_circuitsn (T : TX P K mg) : FnOk P w K mg base CX0 10 T.a_circuitsn T.d_circuitsn ["task"] (SpOf K mg sp_circuitsn) := by
  have O_Task_kind_number := ok_Task_kind_number (P := P) (w := w) (base := base) T
  have O_circuits_behindn := ok_circuits_behindn (P := P) (w := w) (base := base) T 8
  refine T.F_circuitsn.okN sc_circuitsn (fun zcs zL zKc zh => by obtain ⟨task, rfl, _⟩ := zh; rfl) fun zcdv zA zout zst zH zE zB zcs zL zKc zhr zh => ?_
  obtain ⟨task, rfl, rfl, hpre, zk⟩ := zh
  have nd := sc_circuitsn.nd
  have hSL := sizeLine_eq
  have hk1 := hpre.k1
  have hw1 := hpre.w1
  have hk8 := hpre.k1.2
  show Exs _ _ _ ⟨[some (.fr (eTask task)), none, none, none, none, none, none], []⟩ _
  refine exs_cons (ex_setLcM 1 (enc2 := (eT2 D.int D.int)) 199 (fun zc1 : Str × Str × Int => ((m_Task_kind_number task zc1.1), (m_Task_kind_number task zc1.2.1))) _ rfl nd rfl rfl (sw_true rfl rfl rfl (by decide +kernel)) (blkOk_by (N := ["task", "ends", "found", "first", "source", "target", "_"]) (sc := defScope s_circuitsn) (own := [(("source" : Str), 4), (("target" : Str), 5), (("_" : Str), 6)]) (by decide +kernel)) (src_tupT (ev_fld (c := "Task") (fs := fTask task) T.q_Task T.cl_Task T.na_Task_ways rfl (ev_var 0 rfl (.inr (.inl rfl)) rfl))) (by simp [names]) (by decide) (by walk_at "sd") (fun _ zc1 _ zhyzc1 _ _ _ _ _ => (eg_tupC rfl (egs_consC (eg_nameC 4 nd rfl (.inl rfl) (by decide) (.inr rfl)) (egs_consC (eg_nameC 5 nd rfl (.inl rfl) (by decide) (.inr rfl)) (egs_consC (eg_nameC 6 nd rfl (.inl rfl) (by decide) (.inr rfl)) egs_nilC))))) (fun _ zc1 _ zhyzc1 _ _ _ _ _ => (ev_tup (ds := [D.int (m_Task_kind_number task zc1.1), D.int (m_Task_kind_number task zc1.2.1)]) (ea_cons (ev_meth (c := "Task") (fs := fTask task) (ds := [D.str zc1.1]) T.q_Task T.cl_Task T.me_Task_kind_number rfl O_Task_kind_number (zhr.mono (by decide)) T.b_Task_kind_number (ev_var 0 rfl (.inr (.inl rfl)) rfl) (ea_cons (ev_var 4 rfl (.inl rfl) rfl) ea_nil) (fun _ zkk => ⟨task, zc1.1, rfl, rfl, (by walk_at "pre"), zkk⟩)) (ea_cons (ev_meth (c := "Task") (fs := fTask task) (ds := [D.str zc1.2.1]) T.q_Task T.cl_Task T.me_Task_kind_number rfl O_Task_kind_number (zhr.mono (by decide)) T.b_Task_kind_number (ev_var 0 rfl (.inr (.inl rfl)) rfl) (ea_cons (ev_var 5 rfl (.inl rfl) rfl) ea_nil) (fun _ zkk => ⟨task, zc1.2.1, rfl, rfl, (by walk_at "pre"), zkk⟩)) ea_nil)) (by simp only [List.length_cons, List.length_nil]; decide))) ?_)
  show Exs _ _ _ ⟨[some (.fr (eTask task)), some (.fr ((eL (eT2 D.int D.int)) (task.ways.map (fun zc1 : Str × Str × Int => ((m_Task_kind_number task zc1.1), (m_Task_kind_number task zc1.2.1)))))), none, none, none, none, none], []⟩ _
  generalize zg_ends : (task.ways.map (fun zc1 : Str × Str × Int => ((m_Task_kind_number task zc1.1), (m_Task_kind_number task zc1.2.1)))) = ends
  show Exs _ _ _ ⟨[some (.fr (eTask task)), some (.fr ((eL (eT2 D.int D.int)) ends)), none, none, none, none, none], []⟩ _
  have hends := ends_facts hpre
  rw [zg_ends] at hends
  refine exs_cons (ex_set 2 (ev_lstN 300 (enc := (eL D.int)) [] ea_nil rfl (by decide) (by simp [names]) (by decide)) ?_ nd rfl (.inl rfl))
  show Exs _ _ _ ⟨[some (.fr (eTask task)), some (.fr ((eL (eT2 D.int D.int)) ends)), some (.ad 300), none, none, none, none], [] ++ [(300, .fl [])]⟩ _
  refine exs_emptyC 400 D.int ?_
  show Exs _ _ _ ⟨[some (.fr (eTask task)), some (.fr ((eL (eT2 D.int D.int)) ends)), some (.ad 300), none, none, none, none], [] ++ nest 300 400 D.int ([] : List (List Int))⟩ _
  refine exs_cons (ex_forF (enc := (fun i : Nat => D.int ((0 : Int) + (i : Int)))) (fun (zs0 : (List (List Int))) => (⟨[some (.fr (eTask task)), some (.fr ((eL (eT2 D.int D.int)) ends)), some (.ad 300), none, none, none, none], [] ++ nest 300 400 D.int zs0⟩ : Nz.S)) (m_circuitsn_l0 ends) ([] : List (List Int)) (fun (zi0 : Nat) (zs0 : (List (List Int))) => Cap zs0.length zi0) (src_range1 (ea_cons (ev_len (ln_U (xs := task.kinds) (enc := (eT3 D.str D.int D.int))) (ev_fld (c := "Task") (fs := fTask task) T.q_Task T.cl_Task T.na_Task_kinds rfl (ev_var 0 rfl (.inr (.inl rfl)) rfl)) (by exact rfl) T.n_len) ea_nil) (by exact rfl) T.n_range (by walk_at "sd") (by walk_at "sd")) ⟨⟨.inr rfl, .inr rfl, .inr rfl, .inl rfl, .inl rfl, .inl rfl, .inl rfl, trivial⟩, rfl⟩ (Nat.zero_le _) ?_ ?_ PassesOwn.never rfl)
  · intro zi0 zy0 zs0 zhy0 zq0
    skip
    have hcap := cap_le zq0
    have hy0 := seq_range zhy0
    have hi := (List.getElem?_eq_some_iff.mp zhy0).1
    simp only [List.length_range] at hi
    have hcl := cbn_len16 8 hends.1 (sources := [(0 : Int) + (zy0 : Int)]) [] (by simp) (by simp)
    refine ⟨⟨[some (.fr (eTask task)), some (.fr ((eL (eT2 D.int D.int)) ends)), some (.ad 300), some (.fr (D.int ((0 : Int) + (zy0 : Int)))), none, none, none], [] ++ nest 300 400 D.int zs0⟩, (eg_name 3 nd rfl (.inl rfl)), ?_⟩
    refine exs_cons (ex_expr (ev_extendC (n := 300) (m := 301) (ev_var 2 rfl (.inl rfl) rfl) (ev_callNest2 301 (400 + zs0.length) (ds := [(eL (eT2 D.int D.int)) ends, (eL D.int) [((0 : Int) + (zy0 : Int))], (eL D.int) ([] : List Int)]) (enc := D.int) (xss := (m_circuits_behindn 8 ends [((0 : Int) + (zy0 : Int))] ([] : List Int))) O_circuits_behindn (zhr.mono (by decide)) T.m_circuits_behindn T.k_circuits_behindn T.b_circuits_behindn (ea_cons (ev_var 1 rfl (.inl rfl) rfl) (ea_cons (ev_lstF (enc := D.int) [((0 : Int) + (zy0 : Int))] (ea_cons (ev_var 3 rfl (.inl rfl) rfl) ea_nil) rfl (by simp only [List.length_cons, List.length_nil]; decide)) (ea_cons (ev_lstF (enc := D.int) [] ea_nil rfl (by decide)) ea_nil))) (fresh_nest (by simp [names]) (by decide) (by decide)) (fun _ _ => fresh_nestB (by decide)) (by omega) (by decide) (fun _ zkk => ⟨ends, [((0 : Int) + (zy0 : Int))], ([] : List Int), rfl, rfl, (by walk_at "pre"), zkk⟩) (by exact rfl)) rfl (getL_nest2 (by decide) (by decide)) rfl (by rw [ceL_length, ceL_length]; walk_at "ext")) ?_)
    show Exs _ _ _ ⟨[some (.fr (eTask task)), some (.fr ((eL (eT2 D.int D.int)) ends)), some (.ad 300), some (.fr (D.int ((0 : Int) + (zy0 : Int)))), none, none, none], [] ++ (300, .cl (ceL 400 zs0.length ++ ceL (400 + zs0.length) (m_circuits_behindn 8 ends [((0 : Int) + (zy0 : Int))] ([] : List Int)).length)) :: inL D.int 400 zs0 ++ nest 301 (400 + zs0.length) D.int (m_circuits_behindn 8 ends [((0 : Int) + (zy0 : Int))] ([] : List Int))⟩ _
    refine exs_nestExt (by decide) (by decide) rfl ?_
    show Exs _ _ _ ⟨[some (.fr (eTask task)), some (.fr ((eL (eT2 D.int D.int)) ends)), some (.ad 300), some (.fr (D.int ((0 : Int) + (zy0 : Int)))), none, none, none], [] ++ nest 300 400 D.int (zs0 ++ (m_circuits_behindn 8 ends [((0 : Int) + (zy0 : Int))] ([] : List Int)))⟩ _
    refine exs_nil ?_
    have est : (m_circuitsn_l0 ends) zs0 zy0 = (zs0 ++ (m_circuits_behindn 8 ends [((0 : Int) + (zy0 : Int))] ([] : List Int))) := by simp only [m_circuitsn_l0, not_true_eq_false, not_false_eq_true, ↓reduceIte]
    show Le _ _ ∧ _
    try rw [est]
    exact ⟨⟨⟨.inr rfl, .inr rfl, .inr rfl, .inl rfl, .inl rfl, .inl rfl, .inl rfl, trivial⟩, rfl⟩, (cap_2 zq0 hcl)⟩
  · intro zq0
    show Exs _ _ _ ⟨[some (.fr (eTask task)), some (.fr ((eL (eT2 D.int D.int)) ends)), some (.ad 300), none, none, none, none], [] ++ nest 300 400 D.int ((List.range ((task.kinds.length : Int)).toNat).foldl (m_circuitsn_l0 ends) ([] : List (List Int)))⟩ _
    refine exs_one (ex_ret (ev_var 2 rfl (.inl rfl) rfl) ?_)
    have efin : m_circuitsn task = ((List.range ((task.kinds.length : Int)).toNat).foldl (m_circuitsn_l0 ends) ([] : List (List Int))) := by subst zg_ends; simp only [m_circuitsn, not_true_eq_false, not_false_eq_true, ↓reduceIte]
    rw [efin] at zk
    exact zk _ _ _
def m_law_l0 (zs0 : Unit) (zy0 : List Int) : Except Bool Unit :=
  if ((¬ (true = true)) ∨ (¬ (((zy0.map (fun zc2 : Int => (m_law_is_integer zc2))).all fun b => b) = true))) then .error false else .ok ()
def m_law_l1 (zy0 : List Int) : List Int :=
  (zy0 ++ [(0 : Int)])
def m_law (script : List Int) : Bool :=
  let numbers1 : List Int := (m_law_numbers script (27 : Int))
  let kinds1 : List (Str × Int × Int) := (m_law_kinds numbers1 (0 : Int) (3 : Int))
  let ways1 : List (Str × Str × Int) := (m_law_ways numbers1 (7 : Int) kinds1 (4 : Int))
  let task1 : Task := (m_Task_init__ (Str.ofString "t") kinds1 ways1)
  if (¬ (true = true)) then false else match (runE (m_law_l0) (m_circuitsn task1) ()) with | .error r => r | .ok _ => if (¬ ((m_circuitsn task1) = (m_law_circuits kinds1 ways1))) then false else (decide ((m_circuits task1) = (m_law_circuits kinds1 ways1)))
theorem cb_short : ∀ (n : Nat) (ends : List (Int × Int)) (sources path : List Int), ∀ c ∈ m_circuits_behind n ends sources path, c.length ≤ path.length + n
  | 0, _, _, _, c, h => by cases h
  | n + 1, ends, sources, path, c, h => by
    simp only [m_circuits_behind] at h
    have fold : ∀ (es : List (Int × Int × Int)) (s : List (List Int)), (∀ c ∈ s, c.length ≤ path.length + (n + 1)) → ∀ c ∈ es.foldl (m_circuits_behind_l0 (m_circuits_behind n) ends sources path) s, c.length ≤ path.length + (n + 1) := by
      intro es
      induction es with
      | nil => intro s h; exact h
      | cons e es ih =>
        intro s h
        rw [List.foldl_cons]
        refine ih _ fun c hc => ?_
        unfold m_circuits_behind_l0 at hc
        split at hc
        · exact h c hc
        · split at hc
          · rcases List.mem_append.mp hc with q | q
            · exact h c q
            · rw [List.mem_singleton.mp q, List.length_append, List.length_singleton]; omega
          · split at hc
            · rcases List.mem_append.mp hc with q | q
              · exact h c q
              · have := cb_short n ends _ _ c q
                rw [List.length_append, List.length_singleton] at this; omega
            · exact h c hc
    exact fold _ _ (fun _ h => by cases h) c h
theorem circuits_flat (t : Task) : m_circuits t = (List.range t.kinds.length).flatMap fun k : Nat => m_circuits_behind 8 (t.ways.map (fun zc : Str × Str × Int => (m_Task_kind_number t zc.1, m_Task_kind_number t zc.2.1))) [(k : Int)] [] := by
  unfold m_circuits
  have key : ∀ (ks : List Nat) (ends : List (Int × Int)) (s : List (List Int)), ks.foldl (m_circuits_l0 ends) s = s ++ ks.flatMap fun k : Nat => m_circuits_behind 8 ends [(k : Int)] [] := by
    intro ks ends
    induction ks with
    | nil => intro s; simp
    | cons k ks ih =>
      intro s
      rw [List.foldl_cons, ih, List.flatMap_cons, ← List.append_assoc]
      congr 1
      unfold m_circuits_l0
      rw [Int.zero_add]
  rw [key, List.nil_append, show ((t.kinds.length : Int)).toNat = t.kinds.length by omega]
theorem circuits_facts (t : Task) (h : t.ok) : (m_circuits t).length ≤ 524288 ∧ ∀ c ∈ m_circuits t, c.length ≤ 8 := by
  rw [circuits_flat]
  refine ⟨?_, fun c hc => ?_⟩
  · have key : ∀ ks : List Nat, (ks.flatMap fun k : Nat => m_circuits_behind 8 (t.ways.map (fun zc : Str × Str × Int => (m_Task_kind_number t zc.1, m_Task_kind_number t zc.2.1))) [(k : Int)] []).length ≤ ks.length * 65536 := by
      intro ks
      induction ks with
      | nil => simp
      | cons k ks ih =>
        rw [List.flatMap_cons, List.length_append, List.length_cons, Nat.succ_mul]
        have := cb_len16 8 (ends_facts h).1 (sources := [(k : Int)]) [] (by simp) (by simp)
        omega
    have h1 := key (List.range t.kinds.length)
    rw [List.length_range] at h1
    have h2 := h.k1.2
    exact Nat.le_trans h1 (Nat.mul_le_mul_right 65536 h2)
  · obtain ⟨k, _, hk⟩ := List.mem_flatMap.mp hc
    have := cb_short 8 _ _ _ c hk
    simpa using this
theorem circuitsn_eq (t : Task) : m_circuitsn t = m_circuits t := by
  unfold m_circuitsn m_circuits
  dsimp only
  unfold m_circuitsn_l0 m_circuits_l0
  rw [cbn_eq]
set_option hygiene false in
local macro_rules | `(tactic| walk_at "pre") => `(tactic| first | exact ⟨by omega, by omega, hnf.2, by omega, by omega, by omega⟩ | exact ⟨by decide +kernel, by decide +kernel, hko.short, by omega, hko.are, by omega, hwo.are⟩ | exact htok | exact ⟨hko, hwo, by omega, by omega⟩ | exact ⟨by omega, by omega⟩ | exact ⟨by omega, by omega, by have := hcc.2.1; omega, hcc.2.2⟩ | exact ⟨by omega, by omega, by omega, by omega⟩ | exact ⟨htok, hcc.1, by have := hcc.2.1; omega, by rw [htw]; exact hcc.2.2⟩ | fail)
theorem sc_law : FnScope ["script", "numbers", "kinds", "ways", "task", "actual", "circuit", "number"] ["script"] (defScope s_law) := ⟨rfl, rfl, rfl, by decide +kernel, rfl, by decide +kernel, by decide +kernel⟩
def sp_law : SpN := fun zcs zL zKc => ∃ script : List Int, zcs = [.fr ((eL D.int) script)] ∧ zL = [] ∧ (script.length ≤ 63) ∧ ∀ zL', zKc (.fr (D.bl (m_law script))) zL'
theorem ok_law (T : TX P K mg) : FnOk P w K mg base CX0 11 T.a_law T.d_law ["script"] (SpOf K mg sp_law) := by
  have O_Task_init__ := ok_Task_init__ (P := P) (w := w) (base := base) T
  have O_law_circuits := ok_law_circuits (P := P) (w := w) (base := base) T
  have O_law_is_integer := ok_law_is_integer (P := P) (w := w) (base := base) T
  have O_law_kinds := ok_law_kinds (P := P) (w := w) (base := base) T
  have O_law_numbers := ok_law_numbers (P := P) (w := w) (base := base) T
  have O_law_ways := ok_law_ways (P := P) (w := w) (base := base) T
  have O_circuits := ok_circuits (P := P) (w := w) (base := base) T
  have O_circuitsn := ok_circuitsn (P := P) (w := w) (base := base) T
  refine T.F_law.okN sc_law (fun zcs zL zKc zh => by obtain ⟨script, rfl, _⟩ := zh; rfl) fun zcdv zA zout zst zH zE zB zcs zL zKc zhr zh => ?_
  obtain ⟨script, rfl, rfl, hpre, zk⟩ := zh
  have nd := sc_law.nd
  have hSL := sizeLine_eq
  show Exs _ _ _ ⟨[some (.fr ((eL D.int) script)), none, none, none, none, none, none, none], []⟩ _
  refine exs_cons (ex_set 1 (ev_call (ds := [(eL D.int) script, D.int (27 : Int)]) (ds' := []) (dvs := []) (dfs := []) O_law_numbers (zhr.mono (by decide)) T.m_law_numbers T.k_law_numbers T.b_law_numbers .nil (fun _ => .nil) (ea_cons (ev_var 0 rfl (.inl rfl) rfl) (ea_cons ev_int ea_nil)) (fun _ zkk => ⟨script, (27 : Int), rfl, rfl, (by walk_at "pre"), zkk⟩) (by exact rfl)) ?_ nd rfl (.inl rfl))
  show Exs _ _ _ ⟨[some (.fr ((eL D.int) script)), some (.fr ((eL D.int) (m_law_numbers script (27 : Int)))), none, none, none, none, none, none], []⟩ _
  generalize zg_numbers : (m_law_numbers script (27 : Int)) = numbers
  show Exs _ _ _ ⟨[some (.fr ((eL D.int) script)), some (.fr ((eL D.int) numbers)), none, none, none, none, none, none], []⟩ _
  have hnf := numbers_facts script (27 : Int) (by decide)
  rw [zg_numbers] at hnf
  have hnum : numbers.length = 27 := hnf.1
  refine exs_cons (ex_set 2 (ev_call (ds := [(eL D.int) numbers, D.int (0 : Int), D.int (3 : Int)]) (ds' := []) (dvs := []) (dfs := []) O_law_kinds (zhr.mono (by decide)) T.m_law_kinds T.k_law_kinds T.b_law_kinds .nil (fun _ => .nil) (ea_cons (ev_var 1 rfl (.inl rfl) rfl) (ea_cons ev_int (ea_cons ev_int ea_nil))) (fun _ zkk => ⟨numbers, (0 : Int), (3 : Int), rfl, rfl, (by walk_at "pre"), zkk⟩) (by exact rfl)) ?_ nd rfl (.inl rfl))
  show Exs _ _ _ ⟨[some (.fr ((eL D.int) script)), some (.fr ((eL D.int) numbers)), some (.fr ((eL (eT3 D.str D.int D.int)) (m_law_kinds numbers (0 : Int) (3 : Int)))), none, none, none, none, none], []⟩ _
  generalize zg_kinds : (m_law_kinds numbers (0 : Int) (3 : Int)) = kinds
  show Exs _ _ _ ⟨[some (.fr ((eL D.int) script)), some (.fr ((eL D.int) numbers)), some (.fr ((eL (eT3 D.str D.int D.int)) kinds)), none, none, none, none, none], []⟩ _
  have hpk := pick_bound numbers 0 (count := 3) (by decide)
  have hkf := kinds_ok hnf.2 0 (most := 3) (by decide) (by decide)
  rw [zg_kinds] at hkf
  obtain ⟨hko, hkl⟩ := hkf
  have hk1 := hko.pos
  have hk8 := hko.le
  refine exs_cons (ex_set 3 (ev_call (ds := [(eL D.int) numbers, D.int (7 : Int), (eL (eT3 D.str D.int D.int)) kinds, D.int (4 : Int)]) (ds' := []) (dvs := []) (dfs := []) O_law_ways (zhr.mono (by decide)) T.m_law_ways T.k_law_ways T.b_law_ways .nil (fun _ => .nil) (ea_cons (ev_var 1 rfl (.inl rfl) rfl) (ea_cons ev_int (ea_cons (ev_var 2 rfl (.inl rfl) rfl) (ea_cons ev_int ea_nil)))) (fun _ zkk => ⟨numbers, (7 : Int), kinds, (4 : Int), rfl, rfl, (by walk_at "pre"), zkk⟩) (by exact rfl)) ?_ nd rfl (.inl rfl))
  show Exs _ _ _ ⟨[some (.fr ((eL D.int) script)), some (.fr ((eL D.int) numbers)), some (.fr ((eL (eT3 D.str D.int D.int)) kinds)), some (.fr ((eL (eT3 D.str D.str D.int)) (m_law_ways numbers (7 : Int) kinds (4 : Int)))), none, none, none, none], []⟩ _
  generalize zg_ways : (m_law_ways numbers (7 : Int) kinds (4 : Int)) = ways
  show Exs _ _ _ ⟨[some (.fr ((eL D.int) script)), some (.fr ((eL D.int) numbers)), some (.fr ((eL (eT3 D.str D.int D.int)) kinds)), some (.fr ((eL (eT3 D.str D.str D.int)) ways)), none, none, none, none], []⟩ _
  have hwf := ways_ok numbers 7 (kinds := kinds) hk1 (most := 4) (by decide) (by decide)
  rw [zg_ways] at hwf
  obtain ⟨hwo, hwl⟩ := hwf
  have hw16 := hwo.le
  refine exs_cons (ex_set 4 (ev_makeK (c := "Task") (fs := fTask (m_Task_init__ (Str.ofString "t") kinds ways)) (ds := [D.str (Str.ofString "t")]) (es' := [(eL (eT3 D.str D.int D.int)) kinds, (eL (eT3 D.str D.str D.int)) ways]) (n := 1) (ks := ["kinds", "ways"]) T.q_Task T.mk_Task_init__ O_Task_init__ (zhr.mono (by decide)) T.kb_Task_init___1_kinds_ways (ea_cons ev_str ea_nil) (ek_cons (ev_callTy (ds := [(eL (eT3 D.str D.int D.int)) kinds]) c_listL (ea_cons (ev_var 2 rfl (.inl rfl) rfl) ea_nil) (by exact rfl) T.n_list (by decide +kernel)) (ek_cons (ev_callTy (ds := [(eL (eT3 D.str D.str D.int)) ways]) c_listL (ea_cons (ev_var 3 rfl (.inl rfl) rfl) ea_nil) (by exact rfl) T.n_list (by decide +kernel)) ek_nil)) rfl rfl (fun _ zkk => ⟨(Str.ofString "t"), kinds, ways, rfl, rfl, (by walk_at "pre"), zkk⟩) (by exact rfl)) ?_ nd rfl (.inl rfl))
  show Exs _ _ _ ⟨[some (.fr ((eL D.int) script)), some (.fr ((eL D.int) numbers)), some (.fr ((eL (eT3 D.str D.int D.int)) kinds)), some (.fr ((eL (eT3 D.str D.str D.int)) ways)), some (.fr (eTask (m_Task_init__ (Str.ofString "t") kinds ways))), none, none, none], []⟩ _
  generalize zg_task : (m_Task_init__ (Str.ofString "t") kinds ways) = task
  show Exs _ _ _ ⟨[some (.fr ((eL D.int) script)), some (.fr ((eL D.int) numbers)), some (.fr ((eL (eT3 D.str D.int D.int)) kinds)), some (.fr ((eL (eT3 D.str D.str D.int)) ways)), some (.fr (eTask task)), none, none, none], []⟩ _
  have htok : task.ok := by rw [← zg_task, init_eq (by decide +kernel) hko.are hwo.are]; exact ⟨hko.are, hwo.are⟩
  have htw : task.ways = ways := by rw [← zg_task, init_eq (by decide +kernel) hko.are hwo.are]
  have hcq := circuitsn_eq task
  have hcf := circuits_facts task htok
  rw [← hcq] at hcf
  refine exs_cons (ex_set 5 (ev_callNest2 300 400 (ds := [eTask task]) (enc := D.int) (xss := (m_circuitsn task)) O_circuitsn (zhr.mono (by decide)) T.m_circuitsn T.k_circuitsn T.b_circuitsn (ea_cons (ev_var 4 rfl (.inl rfl) rfl) ea_nil) (fun zz => absurd (belowB_ok (b := 300) rfl zz) (by decide)) (fun _ _ zz => absurd (belowB_ok (b := 300) rfl zz) (by omega)) (by decide) (by decide) (fun _ zkk => ⟨task, rfl, rfl, (by walk_at "pre"), zkk⟩) (by exact rfl)) ?_ nd rfl (.inl rfl))
  show Exs _ _ _ ⟨[some (.fr ((eL D.int) script)), some (.fr ((eL D.int) numbers)), some (.fr ((eL (eT3 D.str D.int D.int)) kinds)), some (.fr ((eL (eT3 D.str D.str D.int)) ways)), some (.fr (eTask task)), some (.ad 300), none, none], [] ++ nest 300 400 D.int (m_circuitsn task)⟩ _
  refine exs_cons (ex_ifP (bd_not Iff.rfl) (et_lendN (ρ' := [some (.fr ((eL D.int) script)), some (.fr ((eL D.int) numbers)), some (.fr ((eL (eT3 D.str D.int D.int)) kinds)), some (.fr ((eL (eT3 D.str D.str D.int)) ways)), some (.fr (eTask task)), some (.fr ((eL (eL D.int)) (m_circuitsn task))), none, none]) (.cons .fr (.cons .fr (.cons .fr (.cons .fr (.cons .fr (.cons (.cl rfl (boOf_nest rfl (by decide))) (.cons .no (.cons .no .nil)))))))) (fun _ => (et_not (et_val (ev_isi (T := "list") (b := true) (ev_var 5 rfl (.inl rfl) rfl) rfl (by decide) (by exact rfl) T.n_isinstance (by exact rfl) T.n_list (by decide +kernel)))))) (fun (zh1 : (¬ (true = true))) => ?_) (fun (zh1 : ¬ (¬ (true = true))) => ?_))
  · skip
    refine exs_one (ex_ret ev_bl ?_)
    have efin : m_law script = false := by first | (subst zg_task; subst zg_ways; subst zg_kinds; subst zg_numbers; simp only [m_law, not_true_eq_false, not_false_eq_true, ↓reduceIte, ↓if_pos zh1]; done) | (subst zg_task; subst zg_ways; subst zg_kinds; subst zg_numbers; first | exact absurd rfl zh1)
    rw [efin] at zk
    exact zk _
  · skip
    refine exs_nil ?_
    show Exs _ _ _ ⟨[some (.fr ((eL D.int) script)), some (.fr ((eL D.int) numbers)), some (.fr ((eL (eT3 D.str D.int D.int)) kinds)), some (.fr ((eL (eT3 D.str D.str D.int)) ways)), some (.fr (eTask task)), some (.ad 300), none, none], [] ++ nest 300 400 D.int (m_circuitsn task)⟩ _
    refine exs_cons (ex_forNestE (m_law_l0) (fun zr => D.bl zr) PassesOwn.never rfl (ev_var 5 rfl (.inl rfl) rfl) (by decide) (by decide) rfl ?_ ?_ ?_)
    · intro zB9 za0 zi0 zy0 zhy0 zrun0
      have hcl := hcf.2 _ (List.mem_of_getElem? zhy0)
      refine ⟨⟨[some (.fr ((eL D.int) script)), some (.fr ((eL D.int) numbers)), some (.fr ((eL (eT3 D.str D.int D.int)) kinds)), some (.fr ((eL (eT3 D.str D.str D.int)) ways)), some (.fr (eTask task)), some (.xv (.ref za0)), some (.ad 99), none], [(99, .fl ((zy0).map D.int))]⟩, eg_name 6 nd rfl (.inl rfl), ?_⟩
      refine exs_one (ex_ifP (bd_or (bd_not Iff.rfl) (bd_not Iff.rfl)) (Ew.et (ew_orP (bd_not Iff.rfl) (et_not (et_val (ev_lend (Sf := ⟨[some (.fr ((eL D.int) script)), some (.fr ((eL D.int) numbers)), some (.fr ((eL (eT3 D.str D.int D.int)) kinds)), some (.fr ((eL (eT3 D.str D.str D.int)) ways)), some (.fr (eTask task)), none, some (.fr ((eL D.int) zy0)), none], []⟩) (fun _ => (ev_isi (T := "list") (b := true) (ev_var 6 rfl (.inl rfl) rfl) rfl (by decide) (by exact rfl) T.n_isinstance (by exact rfl) T.n_list (by decide +kernel))) (nm_bool.ok _)))) (fun zhp => (ew_or1 (et_not (et_val (ev_lend (Sf := ⟨[some (.fr ((eL D.int) script)), some (.fr ((eL D.int) numbers)), some (.fr ((eL (eT3 D.str D.int D.int)) kinds)), some (.fr ((eL (eT3 D.str D.str D.int)) ways)), some (.fr (eTask task)), none, some (.fr ((eL D.int) zy0)), none], []⟩) (fun _ => (ev_callB (ds := [(eL D.bl) (zy0.map (fun zc4 : Int => (m_law_is_integer zc4)))]) (c_all (bs := (zy0.map (fun zc4 : Int => (m_law_is_integer zc4)))) rfl) (ea_cons (ev_lcM (enc2 := D.bl) 199 (fun zc4 : Int => (m_law_is_integer zc4)) _ rfl nd (blkOk_by (N := ["script", "numbers", "kinds", "ways", "task", "actual", "circuit", "number"]) (sc := defScope s_law) (own := [(("number" : Str), 7)]) (by decide +kernel)) (src_listT (ev_var 6 rfl (.inl rfl) rfl)) (by simp [names]) (by decide) (by walk_at "sd") (fun _ zc4 _ zhyzc4 _ _ _ _ _ => (eg_nameC 7 nd rfl (.inl rfl) (by decide) (.inr rfl))) (fun _ zc4 _ zhyzc4 _ _ _ _ _ => (ev_call (ds := [D.int zc4]) (ds' := []) (dvs := []) (dfs := []) O_law_is_integer (zhr.mono (by decide)) T.m_law_is_integer T.k_law_is_integer T.b_law_is_integer .nil (fun _ => .nil) (ea_cons (ev_var 7 rfl (.inl rfl) rfl) ea_nil) (fun _ zkk => ⟨zc4, rfl, rfl, trivial, zkk⟩) (by exact rfl)))) ea_nil) (by exact rfl) T.n_all (by decide +kernel))) (nm_bool.ok _)))))))) (fun (zh2 : ((¬ (true = true)) ∨ (¬ (((zy0.map (fun zc4 : Int => (m_law_is_integer zc4))).all fun b => b) = true)))) => ?_) (fun (zh2 : ¬ ((¬ (true = true)) ∨ (¬ (((zy0.map (fun zc4 : Int => (m_law_is_integer zc4))).all fun b => b) = true)))) => ?_))
      · skip
        refine exs_one (ex_ret ev_bl ?_)
        have est : (m_law_l0) () zy0 = .error false := by simp only [m_law_l0, not_true_eq_false, not_false_eq_true, ↓reduceIte, ↓if_pos zh2]
        exact ⟨_, est, rfl, trivial⟩
      · skip
        refine exs_nil ?_
        have est : (m_law_l0) () zy0 = .ok () := by simp only [m_law_l0, not_true_eq_false, not_false_eq_true, ↓reduceIte, ↓if_neg zh2]
        exact ⟨_, est, ⟨⟨.inr rfl, .inr rfl, .inr rfl, .inr rfl, .inr rfl, .inr rfl, .inl rfl, .inl rfl, trivial⟩, rfl⟩, trivial⟩
    · intro zr zrun0 zS
      skip
      have zh3 := zrun0
      have efin : m_law script = zr := by subst zg_task; subst zg_ways; subst zg_kinds; subst zg_numbers; simp only [m_law, not_true_eq_false, not_false_eq_true, ↓reduceIte, ↓if_neg zh1, ↓zh3]
      rw [efin] at zk
      exact zk _
    · intro zrun0
      have zh4 := zrun0
      show Exs _ _ _ ⟨[some (.fr ((eL D.int) script)), some (.fr ((eL D.int) numbers)), some (.fr ((eL (eT3 D.str D.int D.int)) kinds)), some (.fr ((eL (eT3 D.str D.str D.int)) ways)), some (.fr (eTask task)), some (.ad 300), none, none], [] ++ nest 300 400 D.int (m_circuitsn task)⟩ _
      refine exs_cons (ex_ifP bd_n (et_lendN (ρ' := [some (.fr ((eL D.int) script)), some (.fr ((eL D.int) numbers)), some (.fr ((eL (eT3 D.str D.int D.int)) kinds)), some (.fr ((eL (eT3 D.str D.str D.int)) ways)), some (.fr (eTask task)), some (.fr ((eL (eL D.int)) (m_circuitsn task))), none, none]) (.cons .fr (.cons .fr (.cons .fr (.cons .fr (.cons .fr (.cons (.cl rfl (boOf_nest rfl (by decide))) (.cons .no (.cons .no .nil)))))))) (fun _ => (et_cmp (o_neD (e := (eL (eL D.int))) (x := (m_circuitsn task)) (y := (m_law_circuits kinds ways)) zhr.units (ee_L (ee_L ee_int))) (ev_var 5 rfl (.inl rfl) rfl) (ev_call (ds := [(eL (eT3 D.str D.int D.int)) kinds, (eL (eT3 D.str D.str D.int)) ways]) (ds' := []) (dvs := []) (dfs := []) O_law_circuits (zhr.mono (by decide)) T.m_law_circuits T.k_law_circuits T.b_law_circuits .nil (fun _ => .nil) (ea_cons (ev_var 2 rfl (.inl rfl) rfl) (ea_cons (ev_var 3 rfl (.inl rfl) rfl) ea_nil)) (fun _ zkk => ⟨kinds, ways, rfl, rfl, (by walk_at "pre"), zkk⟩) (by exact rfl)) (nomark _)))) (fun (zh5 : (¬ ((m_circuitsn task) = (m_law_circuits kinds ways)))) => ?_) (fun (zh5 : ¬ (¬ ((m_circuitsn task) = (m_law_circuits kinds ways)))) => ?_))
      · skip
        refine exs_one (ex_ret ev_bl ?_)
        have efin : m_law script = false := by first | (subst zg_task; subst zg_ways; subst zg_kinds; subst zg_numbers; simp only [m_law, not_true_eq_false, not_false_eq_true, ↓reduceIte, ↓if_neg zh1, ↓zh4, ↓if_pos zh5]; done) | (subst zg_task; subst zg_ways; subst zg_kinds; subst zg_numbers; first | exact absurd rfl zh5)
        rw [efin] at zk
        exact zk _
      · skip
        refine exs_nil ?_
        show Exs _ _ _ ⟨[some (.fr ((eL D.int) script)), some (.fr ((eL D.int) numbers)), some (.fr ((eL (eT3 D.str D.int D.int)) kinds)), some (.fr ((eL (eT3 D.str D.str D.int)) ways)), some (.fr (eTask task)), some (.ad 300), none, none], [] ++ nest 300 400 D.int (m_circuitsn task)⟩ _
        refine exs_cons (ex_forNest (m_law_l1) (fun _ => True) trivial PassesOwn.never rfl (ev_var 5 rfl (.inl rfl) rfl) (by decide) (by decide) rfl ?_ ?_)
        · intro zB9 za0 zi0 zy0 zhy0 zrun0
          have hcl := hcf.2 _ (List.mem_of_getElem? zhy0)
          refine ⟨⟨[some (.fr ((eL D.int) script)), some (.fr ((eL D.int) numbers)), some (.fr ((eL (eT3 D.str D.int D.int)) kinds)), some (.fr ((eL (eT3 D.str D.str D.int)) ways)), some (.fr (eTask task)), some (.xv (.ref za0)), some (.ad 99), none], [(99, .fl ((zy0).map D.int))]⟩, eg_name 6 nd rfl (.inl rfl), ?_⟩
          refine exs_one (ex_expr (ev_appendT (n := 99) (enc := D.int) (xs := zy0) (xs0 := zy0) (0 : Int) rfl rfl rfl (by walk_at "sd") (ev_var 6 rfl (.inl rfl) rfl) ev_int) ?_)
          have est : (m_law_l1) zy0 = (zy0 ++ [(0 : Int)]) := by simp only [m_law_l1, not_true_eq_false, not_false_eq_true, ↓reduceIte]
          show Le _ _ ∧ _
          try rw [est]
          exact ⟨⟨⟨.inr rfl, .inr rfl, .inr rfl, .inr rfl, .inr rfl, .inr rfl, .inl rfl, .inl rfl, trivial⟩, rfl⟩, trivial⟩
        · intro _
          show Exs _ _ _ ⟨[some (.fr ((eL D.int) script)), some (.fr ((eL D.int) numbers)), some (.fr ((eL (eT3 D.str D.int D.int)) kinds)), some (.fr ((eL (eT3 D.str D.str D.int)) ways)), some (.fr (eTask task)), some (.ad 300), none, none], [] ++ nest 300 400 D.int ((m_circuitsn task).map (m_law_l1))⟩ _
          refine exs_cons (ex_expr (ev_appendC (n := 300) (ev_var 5 rfl (.inl rfl) rfl) (ev_lstN 100 (enc := D.int) ([] : List Int) ea_nil rfl (by decide) (fresh_nest (by simp [names]) (by decide) (by decide)) (by decide)) rfl rfl (by rw [ceL_length]; first | omega | (simp only [List.length_set]; omega) | walk_at "sd") Sub.app) ?_)
          show Exs _ _ _ ⟨[some (.fr ((eL D.int) script)), some (.fr ((eL D.int) numbers)), some (.fr ((eL (eT3 D.str D.int D.int)) kinds)), some (.fr ((eL (eT3 D.str D.str D.int)) ways)), some (.fr (eTask task)), some (.ad 300), none, none], [] ++ ((300, .cl (ceL 400 ((m_circuitsn task).map (m_law_l1)).length ++ [.ad 100])) :: inL D.int 400 ((m_circuitsn task).map (m_law_l1))) ++ [(100, .fl ((([] : List Int)).map D.int))]⟩ _
          refine exs_nestIn (P := []) (m := 100) (n := 300) (b := 400) (xss := ((m_circuitsn task).map (m_law_l1))) (x := ([] : List Int)) (enc := D.int) (perm_mv2 _ _ _) rfl rfl (by simp [names]) (by decide) (by decide) (by decide) (by decide) rfl ?_
          show Exs _ _ _ ⟨[some (.fr ((eL D.int) script)), some (.fr ((eL D.int) numbers)), some (.fr ((eL (eT3 D.str D.int D.int)) kinds)), some (.fr ((eL (eT3 D.str D.str D.int)) ways)), some (.fr (eTask task)), some (.ad 300), none, none], [] ++ nest 300 400 D.int (((m_circuitsn task).map (m_law_l1)) ++ [([] : List Int)])⟩ _
          refine exs_one (ex_ret (ev_cmp (o_eqD (e := (eL (eL D.int))) (x := (m_circuits task)) (y := (m_law_circuits kinds ways)) zhr.units (ee_L (ee_L ee_int))) (ev_call (ds := [eTask task]) (ds' := []) (dvs := []) (dfs := []) O_circuits (zhr.mono (by decide)) T.m_circuits T.k_circuits T.b_circuits .nil (fun _ => .nil) (ea_cons (ev_var 4 rfl (.inl rfl) rfl) ea_nil) (fun _ zkk => ⟨task, rfl, rfl, (by walk_at "pre"), zkk⟩) (by exact rfl)) (ev_call (ds := [(eL (eT3 D.str D.int D.int)) kinds, (eL (eT3 D.str D.str D.int)) ways]) (ds' := []) (dvs := []) (dfs := []) O_law_circuits (zhr.mono (by decide)) T.m_law_circuits T.k_law_circuits T.b_law_circuits .nil (fun _ => .nil) (ea_cons (ev_var 2 rfl (.inl rfl) rfl) (ea_cons (ev_var 3 rfl (.inl rfl) rfl) ea_nil)) (fun _ zkk => ⟨kinds, ways, rfl, rfl, (by walk_at "pre"), zkk⟩) (by exact rfl)) (nomark _)) ?_)
          have efin : m_law script = (decide ((m_circuits task) = (m_law_circuits kinds ways))) := by subst zg_task; subst zg_ways; subst zg_kinds; subst zg_numbers; simp only [m_law, not_true_eq_false, not_false_eq_true, ↓reduceIte, ↓if_neg zh1, ↓zh4, ↓if_neg zh5]
          rw [efin] at zk
          exact zk _
theorem number_eq {t : Task} {n : Str} (hn : n ∈ t.kinds.map (·.1)) : m_law_number t.kinds n = m_Task_kind_number t n := by
  obtain ⟨j, e, h1, ⟨c, q1, q2⟩, q3⟩ := kind_number_spec hn
  rw [e]
  unfold m_law_number
  have key : ∀ (m a : Nat), a + m = t.kinds.length → a ≤ j → runE (m_law_number_l0 t.kinds n) (List.range' a m) () = .error (j : Int) := by
    intro m
    induction m with
    | zero => intro a h2 h3; omega
    | succ m ih =>
      intro a h2 h3
      rw [List.range'_succ, runE_cons]
      by_cases q : a = j
      · subst q
        rw [show m_law_number_l0 t.kinds n () a = .error (a : Int) from by
          unfold m_law_number_l0
          rw [if_pos (by rw [show ((0 : Int) + (a : Int)).toNat = a by omega, List.getD_eq_getElem?_getD, q1]; exact q2), Int.zero_add]]
      · rw [show m_law_number_l0 t.kinds n () a = .ok () from by
          unfold m_law_number_l0
          have ha : t.kinds[a]? = some t.kinds[a] := List.getElem?_eq_getElem (by omega)
          rw [if_neg (by rw [show ((0 : Int) + (a : Int)).toNat = a by omega, List.getD_eq_getElem?_getD, ha]; exact q3 a (by omega) _ ha)]]
        exact ih (a + 1) (by omega) (by omega)
  rw [show (((t.kinds.length : Int))).toNat = t.kinds.length by omega, List.range_eq_range', key _ 0 (by omega) (by omega)]
theorem number_inj {t : Task} {a b : Str} (ha : a ∈ t.kinds.map (·.1)) (hb : b ∈ t.kinds.map (·.1)) : m_Task_kind_number t a = m_Task_kind_number t b ↔ a = b := by
  obtain ⟨i, e1, h1, ⟨c1, q1, r1⟩, _⟩ := kind_number_spec ha
  obtain ⟨j, e2, h2, ⟨c2, q2, r2⟩, _⟩ := kind_number_spec hb
  rw [e1, e2]
  constructor
  · intro h
    have : i = j := by omega
    subst this
    rw [q1] at q2; cases q2; rw [← r1, ← r2]
  · rintro rfl
    rw [e1] at e2; exact e2
/-- a row of ways that closes the circuit -/
def Ext (ends : List (Int × Int)) (s0 : Int) : List Int → Int → List Int → Prop
  | _, _, [] => False
  | used, cur, w :: ws => (0 ≤ w ∧ w < (ends.length : Int)) ∧ (ends.getD w.toNat default).1 = cur ∧ ((ends.getD w.toNat default).2 = s0 ∧ ws = [] ∨ (ends.getD w.toNat default).2 ≠ s0 ∧ s0 < (ends.getD w.toNat default).2 ∧ (ends.getD w.toNat default).2 ∉ used ∧ Ext ends s0 (used ++ [(ends.getD w.toNat default).2]) (ends.getD w.toNat default).2 ws)
def blk (n : Nat) (ends : List (Int × Int)) (sources path : List Int) (e : Int × Int × Int) : List (List Int) :=
  if e.2.1 = sources.getLastD default then (if e.2.2 = sources.getD ((0 : Int)).toNat default then [path ++ [e.1]] else if sources.getD ((0 : Int)).toNat default < e.2.2 ∧ e.2.2 ∉ sources then m_circuits_behind n ends (sources ++ [e.2.2]) (path ++ [e.1]) else []) else []
theorem cb_flat (n : Nat) (ends : List (Int × Int)) (sources path : List Int) : m_circuits_behind (n + 1) ends sources path = (enL 0 ends).flatMap (blk n ends sources path) := by
  simp only [m_circuits_behind]
  have key : ∀ (es : List (Int × Int × Int)) (s : List (List Int)), es.foldl (m_circuits_behind_l0 (m_circuits_behind n) ends sources path) s = s ++ es.flatMap (blk n ends sources path) := by
    intro es
    induction es with
    | nil => intro s; simp
    | cons e es ih =>
      intro s
      rw [List.foldl_cons, ih, List.flatMap_cons, ← List.append_assoc]
      congr 1
      unfold m_circuits_behind_l0 blk
      by_cases q : e.2.1 = sources.getLastD default
      · rw [if_neg (fun z => z q), if_pos q]
        split
        · rfl
        · split
          · rfl
          · simp
      · rw [if_pos q, if_neg q]; simp
  rw [key, List.nil_append]
theorem enL_get {τ : Type} [Inhabited τ] : ∀ {k : Nat} {xs : List τ} {y : Int × τ}, y ∈ enL k xs → (k : Int) ≤ y.1 ∧ y.1 < ((k + xs.length : Nat) : Int) ∧ xs.getD (y.1 - (k : Int)).toNat default = y.2
  | _, [], _, h => by cases h
  | k, x :: xs, y, h => by
    rcases List.mem_cons.mp h with rfl | h
    · refine ⟨Int.le_refl _, by rw [List.length_cons]; dsimp only; omega, ?_⟩
      dsimp only
      rw [Int.sub_self]; rfl
    · obtain ⟨h1, h2, h3⟩ := enL_get h
      refine ⟨by omega, by rw [List.length_cons]; omega, ?_⟩
      rw [← h3, show (y.1 - (k : Int)).toNat = (y.1 - ((k + 1 : Nat) : Int)).toNat + 1 by omega]
      rfl
theorem enL_of {τ : Type} [Inhabited τ] : ∀ {k : Nat} {xs : List τ} {w : Int}, (k : Int) ≤ w → w < ((k + xs.length : Nat) : Int) → (w, xs.getD (w - (k : Int)).toNat default) ∈ enL k xs
  | k, [], w, h1, h2 => by simp at h2; omega
  | k, x :: xs, w, h1, h2 => by
    rw [List.length_cons] at h2
    by_cases q : w = (k : Int)
    · subst q
      rw [Int.sub_self]
      exact List.mem_cons_self
    · rw [show (w - (k : Int)).toNat = (w - ((k + 1 : Nat) : Int)).toNat + 1 by omega]
      exact List.mem_cons_of_mem _ (enL_of (k := k + 1) (xs := xs) (w := w) (by omega) (by omega))
theorem head_snoc {xs : List Int} {x : Int} (h : xs ≠ []) : (xs ++ [x]).getD ((0 : Int)).toNat default = xs.getD ((0 : Int)).toNat default := by
  cases xs with
  | nil => exact absurd rfl h
  | cons a r => rfl
theorem mem_cb : ∀ (n : Nat) {ends : List (Int × Int)}, (∀ e ∈ ends, 0 ≤ e.1 ∧ e.1 < 8 ∧ 0 ≤ e.2 ∧ e.2 < 8) → ∀ {sources path c : List Int}, sources.Nodup → (∀ x ∈ sources, 0 ≤ x ∧ x < 8) → sources ≠ [] → 9 ≤ sources.length + n →
    (c ∈ m_circuits_behind n ends sources path ↔ ∃ ws, c = path ++ ws ∧ Ext ends (sources.getD ((0 : Int)).toNat default) sources (sources.getLastD default) ws)
  | 0, ends, hE, sources, path, c, nd, h8, ne, hn => by
    have := pig8 8 sources nd h8
    omega
  | n + 1, ends, hE, sources, path, c, nd, h8, ne, hn => by
    rw [cb_flat, List.mem_flatMap]
    constructor
    · rintro ⟨⟨w, s, t⟩, he, hc⟩
      obtain ⟨g1, g2, g3⟩ := enL_get he
      have hst : ends.getD w.toNat default = (s, t) := by simpa using g3
      dsimp only at g1 g2
      have hw : 0 ≤ w ∧ w < (ends.length : Int) := by omega
      unfold blk at hc
      dsimp only at hc
      split at hc
      · rename_i q1
        split at hc
        · rename_i q2
          exact ⟨[w], List.mem_singleton.mp hc, hw, by rw [hst]; exact q1, .inl ⟨by rw [hst]; exact q2, rfl⟩⟩
        · rename_i q2
          split at hc
          · rename_i q3
            have ht := hE _ (mem_enL he)
            obtain ⟨ws, e1, e2⟩ := (mem_cb n hE (nodup_snoc nd q3.2) (fun x hx => by rcases List.mem_append.mp hx with q | q; exact h8 x q; rw [List.mem_singleton.mp q]; dsimp only at ht; omega) (by simp) (by rw [List.length_append, List.length_singleton]; omega)).mp hc
            rw [head_snoc ne, List.getLastD_concat] at e2
            refine ⟨w :: ws, by rw [e1, List.append_assoc]; rfl, hw, by rw [hst]; exact q1, .inr ?_⟩
            rw [hst]
            exact ⟨q2, q3.1, q3.2, e2⟩
          · cases hc
      · cases hc
    · rintro ⟨ws, rfl, hx⟩
      cases ws with
      | nil => exact hx.elim
      | cons w ws =>
        obtain ⟨hw, q1, hx⟩ := hx
        have he := enL_of (k := 0) (xs := ends) (w := w) (by omega) (by omega)
        rw [show (w - ((0 : Nat) : Int)).toNat = w.toNat by simp] at he
        refine ⟨_, he, ?_⟩
        unfold blk
        dsimp only
        rw [if_pos q1]
        rcases hx with ⟨q2, rfl⟩ | ⟨q2, q3, q4, hx⟩
        · rw [if_pos q2]; exact List.mem_singleton.mpr rfl
        · rw [if_neg q2, if_pos ⟨q3, q4⟩]
          have ht := hE _ (mem_enL he)
          refine (mem_cb n hE (nodup_snoc nd q4) (fun x hx => by rcases List.mem_append.mp hx with q | q; exact h8 x q; rw [List.mem_singleton.mp q]; dsimp only at ht; omega) (by simp) (by rw [List.length_append, List.length_singleton]; omega)).mpr ⟨ws, by rw [List.append_assoc]; rfl, ?_⟩
          rw [head_snoc ne, List.getLastD_concat]
          exact hx
theorem lt_pre : ∀ (p : List Int) {a b : List Int}, ltList ltI (p ++ a) (p ++ b) = ltList ltI a b
  | [], _, _ => rfl
  | x :: p, a, b => by
    show (if x = x then ltList ltI (p ++ a) (p ++ b) else ltI x x) = _
    rw [if_pos rfl]; exact lt_pre p
theorem lt_head {x y : Int} (h : x < y) (a b : List Int) : ltList ltI (x :: a) (y :: b) = true := by
  show (if x = y then ltList ltI a b else ltI x y) = true
  rw [if_neg (by omega)]; exact decide_eq_true h
theorem cb_pre : ∀ (n : Nat) {ends : List (Int × Int)} {sources path c : List Int}, c ∈ m_circuits_behind n ends sources path → ∃ ws, c = path ++ ws
  | 0, _, _, _, _, h => by cases h
  | n + 1, ends, sources, path, c, h => by
    rw [cb_flat] at h
    obtain ⟨e, _, hc⟩ := List.mem_flatMap.mp h
    unfold blk at hc
    split at hc
    · split at hc
      · exact ⟨_, List.mem_singleton.mp hc⟩
      · split at hc
        · obtain ⟨ws, q⟩ := cb_pre n hc
          exact ⟨_, by rw [q, List.append_assoc]⟩
        · cases hc
    · cases hc
theorem blk_pre {n : Nat} {ends : List (Int × Int)} {sources path c : List Int} {e : Int × Int × Int} (hc : c ∈ blk n ends sources path e) : ∃ ws, c = path ++ e.1 :: ws := by
  unfold blk at hc
  split at hc
  · split at hc
    · exact ⟨[], List.mem_singleton.mp hc⟩
    · split at hc
      · obtain ⟨ws, q⟩ := cb_pre n hc
        exact ⟨ws, by rw [q, List.append_assoc]; rfl⟩
      · cases hc
  · cases hc
theorem enL_pw {τ : Type} [Inhabited τ] : ∀ (k : Nat) (xs : List τ), (enL k xs).Pairwise fun a b => a.1 < b.1
  | _, [] => .nil
  | k, x :: xs => .cons (fun b hb => by have := (enL_get hb).1; show (k : Int) < b.1; omega) (enL_pw (k + 1) xs)
theorem cb_pw : ∀ (n : Nat) (ends : List (Int × Int)) (sources path : List Int), (m_circuits_behind n ends sources path).Pairwise fun a b => ltList ltI a b = true
  | 0, _, _, _ => .nil
  | n + 1, ends, sources, path => by
    rw [cb_flat, List.pairwise_flatMap]
    refine ⟨fun e he => ?_, (enL_pw 0 ends).imp fun {e f} hef c hc d hd => ?_⟩
    · unfold blk
      split
      · split
        · exact List.pairwise_singleton _ _
        · split
          · exact cb_pw n ends _ _
          · exact .nil
      · exact .nil
    · obtain ⟨a, rfl⟩ := blk_pre hc
      obtain ⟨b, rfl⟩ := blk_pre hd
      rw [lt_pre]
      exact lt_head hef a b
def eS (ends : List (Int × Int)) (w : Int) : Int := (ends.getD w.toNat default).1
def eT (ends : List (Int × Int)) (w : Int) : Int := (ends.getD w.toNat default).2
theorem ext_inv {ends : List (Int × Int)} {s0 : Int} : ∀ {ws used : List Int} {cur : Int}, used.Nodup → Ext ends s0 used cur ws → (∀ w ∈ ws, 0 ≤ w ∧ w < (ends.length : Int)) ∧ ∃ X, ws.map (eS ends) = cur :: X ∧ ws.map (eT ends) = X ++ [s0] ∧ (used ++ X).Nodup ∧ ∀ x ∈ X, s0 < x
  | [], _, _, _, h => h.elim
  | w :: ws, used, cur, nd, h => by
    obtain ⟨hw, q1, h⟩ := h
    rcases h with ⟨q2, rfl⟩ | ⟨q2, q3, q4, h⟩
    · exact ⟨fun x hx => by rw [List.mem_singleton.mp hx]; exact hw, [], by simp [eS]; exact q1, by simp [eT]; exact q2, by simpa using nd, fun _ h => by cases h⟩
    · obtain ⟨g1, X, g2, g3, g4, g5⟩ := ext_inv (nodup_snoc nd q4) h
      refine ⟨fun x hx => by rcases List.mem_cons.mp hx with rfl | q; exact hw; exact g1 x q, eT ends w :: X, ?_, ?_, ?_, ?_⟩
      · rw [List.map_cons, g2]; congr 1
      · rw [List.map_cons, g3]; rfl
      · rw [List.append_assoc] at g4; exact g4
      · intro x hx
        rcases List.mem_cons.mp hx with rfl | q
        · exact q3
        · exact g5 x q
theorem ext_of {ends : List (Int × Int)} {s0 : Int} : ∀ {ws used X : List Int} {cur : Int}, (∀ w ∈ ws, 0 ≤ w ∧ w < (ends.length : Int)) → ws.map (eS ends) = cur :: X → ws.map (eT ends) = X ++ [s0] → (used ++ X).Nodup → (∀ x ∈ X, s0 < x) → Ext ends s0 used cur ws
  | [], _, _, _, _, h, _, _, _ => by cases h
  | w :: ws, used, X, cur, h1, h2, h3, h4, h5 => by
    rw [List.map_cons] at h2 h3
    injection h2 with a1 a2
    refine ⟨h1 w List.mem_cons_self, a1, ?_⟩
    cases X with
    | nil =>
      have : ws = [] := by simpa using a2
      subst this
      injection h3 with b1 _
      exact .inl ⟨b1, rfl⟩
    | cons x X =>
      injection h3 with b1 b2
      have b1 : (ends.getD w.toNat default).2 = x := b1
      have g := h5 x List.mem_cons_self
      refine .inr ?_
      rw [b1]
      have hx : x ∉ used := fun q => by
        rw [List.nodup_append] at h4
        exact h4.2.2 x q x List.mem_cons_self rfl
      exact ⟨by omega, g, hx, ext_of (fun v hv => h1 v (List.mem_cons_of_mem _ hv)) a2 b2 (by rw [List.append_assoc]; exact h4) fun y hy => h5 y (List.mem_cons_of_mem _ hy)⟩
def endsOf (t : Task) : List (Int × Int) := t.ways.map (fun zc : Str × Str × Int => (m_Task_kind_number t zc.1, m_Task_kind_number t zc.2.1))
/-- what a circuit is: closed, its sources different, the first of them the least -/
def IsC (t : Task) (s0 : Int) (c : List Int) : Prop := (∀ w ∈ c, 0 ≤ w ∧ w < (t.ways.length : Int)) ∧ ∃ X, c.map (eS (endsOf t)) = s0 :: X ∧ c.map (eT (endsOf t)) = X ++ [s0] ∧ (s0 :: X).Nodup ∧ ∀ x ∈ X, s0 < x
theorem mem_first {t : Task} (h : t.ok) {k : Nat} (hk : k < t.kinds.length) {c : List Int} : c ∈ m_circuits_behind 8 (endsOf t) [(k : Int)] [] ↔ IsC t (k : Int) c := by
  have h8 := h.k1.2
  have hl : (endsOf t).length = t.ways.length := List.length_map _
  have hE : ∀ e ∈ endsOf t, 0 ≤ e.1 ∧ e.1 < 8 ∧ 0 ≤ e.2 ∧ e.2 < 8 := (ends_facts h).2
  rw [mem_cb 8 hE (by simp) (fun x hx => by rw [List.mem_singleton.mp hx]; omega) (by simp) (by simp)]
  show (∃ ws, c = [] ++ ws ∧ Ext (endsOf t) (k : Int) [(k : Int)] (k : Int) ws) ↔ _
  constructor
  · rintro ⟨ws, rfl, hx⟩
    have := ext_inv (by simp) hx
    rw [hl] at this
    exact this
  · rintro ⟨g1, X, g2, g3, g4, g5⟩
    exact ⟨c, rfl, ext_of (by rw [hl]; exact g1) g2 g3 g4 g5⟩
theorem mem_circuits {t : Task} (h : t.ok) {c : List Int} : c ∈ m_circuits t ↔ ∃ k : Nat, k < t.kinds.length ∧ IsC t (k : Int) c := by
  rw [circuits_flat, List.mem_flatMap]
  constructor
  · rintro ⟨k, hk, hc⟩
    exact ⟨k, List.mem_range.mp hk, (mem_first h (List.mem_range.mp hk)).mp hc⟩
  · rintro ⟨k, hk, hc⟩
    exact ⟨k, List.mem_range.mpr hk, (mem_first h hk).mpr hc⟩
/-- they stand in the order of their first source, then of their ways -/
theorem circuits_pw {t : Task} (h : t.ok) : (m_circuits t).Pairwise fun a b => lt2 ltI (ltList ltI) (eS (endsOf t) (a.getD 0 default), a) (eS (endsOf t) (b.getD 0 default), b) = true := by
  have hd : ∀ {k : Nat} {c : List Int}, IsC t (k : Int) c → eS (endsOf t) (c.getD 0 default) = (k : Int) := fun {k c} hc => by
    obtain ⟨_, X, g2, _⟩ := hc
    cases c with
    | nil => cases g2
    | cons w ws => injection g2
  rw [circuits_flat, List.pairwise_flatMap]
  refine ⟨fun k hk => ?_, ?_⟩
  · refine List.Pairwise.imp_of_mem (fun {a b} ha hb hab => ?_) (cb_pw 8 (endsOf t) [(k : Int)] [])
    have hk := List.mem_range.mp hk
    unfold lt2
    rw [hd ((mem_first h hk).mp ha), hd ((mem_first h hk).mp hb), if_pos rfl]
    exact hab
  · refine List.Pairwise.imp_of_mem (fun {a b} ha hb hab c hc d hd' => ?_) (List.pairwise_lt_range (n := t.kinds.length))
    unfold lt2
    rw [hd ((mem_first h (List.mem_range.mp ha)).mp hc), hd ((mem_first h (List.mem_range.mp hb)).mp hd'), if_neg (by dsimp only; omega)]
    exact decide_eq_true (by dsimp only; omega)
theorem circuits_in {t : Task} (h : t.ok) : ∀ c ∈ m_circuits t, c ≠ [] ∧ c.length ≤ 8 ∧ ∀ x ∈ c, 0 ≤ x ∧ x < (t.ways.length : Int) := fun c hc => by
  obtain ⟨k, _, g1, X, g2, _⟩ := (mem_circuits h).mp hc
  exact ⟨fun q => (by rw [q] at g2; cases g2), (circuits_facts t h).2 c hc, g1⟩
def wS (ways : List (Str × Str × Int)) (w : Int) : Str := (ways.getD w.toNat default).1
def wT (ways : List (Str × Str × Int)) (w : Int) : Str := (ways.getD w.toNat default).2.1
theorem fold_if {α β : Type} (p : α → Bool) (g : α → β) (step : List β → α → List β) (h : ∀ s x, step s x = if p x = true then s ++ [g x] else s) : ∀ (xs : List α) (s : List β), xs.foldl step s = s ++ (xs.filter p).map g
  | [], s => by simp
  | x :: xs, s => by
    rw [List.foldl_cons, h, fold_if p g step h xs, List.filter_cons]
    by_cases q : p x = true
    · rw [if_pos q, if_pos q, List.map_cons, List.append_assoc]; rfl
    · rw [if_neg q, if_neg q]
theorem fold_fm {α β : Type} (g : α → List β) (step : List β → α → List β) (h : ∀ s x, step s x = s ++ g x) : ∀ (xs : List α) (s : List β), xs.foldl step s = s ++ xs.flatMap g
  | [], s => by simp
  | x :: xs, s => by rw [List.foldl_cons, h, fold_fm g step h xs, List.flatMap_cons, List.append_assoc]
def enumA (n a : Nat) : List (List Int) := ([[(0 : Int) + (a : Int)]] ++ (List.range n).map (fun b : Nat => [(0 : Int) + (a : Int), (0 : Int) + (b : Int)])) ++ (List.range n).flatMap fun b : Nat => (List.range n).map fun c : Nat => [(0 : Int) + (a : Int), (0 : Int) + (b : Int), (0 : Int) + (c : Int)]
def enumAll (n : Nat) : List (List Int) := (List.range n).flatMap (enumA n)
def keyC (kinds : List (Str × Int × Int)) (ways : List (Str × Str × Int)) (c : List Int) : Int × List Int := (m_law_number kinds (wS ways (c.getD 0 default)), c)
theorem head_enumA {n a : Nat} {c : List Int} (h : c ∈ enumA n a) : c.getD 0 default = (0 : Int) + (a : Int) := by
  rcases List.mem_append.mp h with q | q
  · rcases List.mem_append.mp q with q | q
    · rw [List.mem_singleton.mp q]; rfl
    · obtain ⟨b, _, rfl⟩ := List.mem_map.mp q; rfl
  · obtain ⟨b, _, q⟩ := List.mem_flatMap.mp q
    obtain ⟨d, _, rfl⟩ := List.mem_map.mp q; rfl
theorem found_eq (kinds : List (Str × Int × Int)) (ways : List (Str × Str × Int)) : (List.range ((ways.length : Int)).toNat).foldl (m_law_circuits_l0 kinds ways) ([] : List (Int × (List Int))) = ((enumAll ways.length).filter fun c => m_law_closes kinds ways c).map (keyC kinds ways) := by
  rw [show ((ways.length : Int)).toNat = ways.length by omega]
  have h3 : ∀ (a b : Int) (s : List (Int × List Int)), (List.range ways.length).foldl (m_law_circuits_l3 kinds ways a b) s = s ++ ((((List.range ways.length).map fun c : Nat => [a, b, (0 : Int) + (c : Int)]).filter fun c => m_law_closes kinds ways c).map fun c => (m_law_number kinds ((ways.getD a.toNat default).1), c)) := fun a b s => by
    rw [fold_if (fun c : Nat => m_law_closes kinds ways [a, b, (0 : Int) + (c : Int)]) (fun c : Nat => (m_law_number kinds ((ways.getD a.toNat default).1), [a, b, (0 : Int) + (c : Int)])) (m_law_circuits_l3 kinds ways a b) (fun s x => rfl), List.filter_map, List.map_map]
    rfl
  have h2 : ∀ (a : Int) (s : List (Int × List Int)), (List.range ways.length).foldl (m_law_circuits_l2 kinds ways a) s = s ++ ((((List.range ways.length).flatMap fun b : Nat => (List.range ways.length).map fun c : Nat => [a, (0 : Int) + (b : Int), (0 : Int) + (c : Int)]).filter fun c => m_law_closes kinds ways c).map fun c => (m_law_number kinds ((ways.getD a.toNat default).1), c)) := fun a s => by
    rw [fold_fm (fun b : Nat => (((List.range ways.length).map fun c : Nat => [a, (0 : Int) + (b : Int), (0 : Int) + (c : Int)]).filter fun c => m_law_closes kinds ways c).map fun c => (m_law_number kinds ((ways.getD a.toNat default).1), c)) (m_law_circuits_l2 kinds ways a) (fun s x => by
      unfold m_law_circuits_l2
      rw [show ((ways.length : Int)).toNat = ways.length by omega]
      exact h3 a _ s), List.filter_flatMap, List.map_flatMap]
  have h1 : ∀ (a : Int) (xs : List (List Int)) (s : List (Int × List Int)), xs.foldl (m_law_circuits_l1 kinds ways a) s = s ++ ((xs.filter fun c => m_law_closes kinds ways c).map fun c => (m_law_number kinds ((ways.getD a.toNat default).1), c)) := fun a xs s =>
    fold_if (fun c => m_law_closes kinds ways c) (fun c => (m_law_number kinds ((ways.getD a.toNat default).1), c)) (m_law_circuits_l1 kinds ways a) (fun s x => rfl) xs s
  rw [fold_fm (fun a : Nat => ((enumA ways.length a).filter fun c => m_law_closes kinds ways c).map (keyC kinds ways)) (m_law_circuits_l0 kinds ways) (fun s a => ?_), List.nil_append]
  · unfold enumAll
    rw [List.filter_flatMap, List.map_flatMap]
  · unfold m_law_circuits_l0
    rw [show ((ways.length : Int)).toNat = ways.length by omega, h1, h2, List.append_assoc, ← List.map_append, ← List.filter_append]
    congr 1
    refine List.map_congr_left fun c hc => ?_
    unfold keyC wS
    rw [head_enumA (List.mem_filter.mp hc).1]
theorem enum_mem {n : Nat} {c : List Int} : c ∈ enumAll n ↔ c ≠ [] ∧ c.length ≤ 3 ∧ ∀ x ∈ c, 0 ≤ x ∧ x < (n : Int) := by
  constructor
  · intro h
    obtain ⟨a, ha, h⟩ := List.mem_flatMap.mp h
    have ha := List.mem_range.mp ha
    rcases List.mem_append.mp h with q | q
    · rcases List.mem_append.mp q with q | q
      · rw [List.mem_singleton.mp q]
        exact ⟨by simp, by simp, fun x hx => by simp only [List.mem_cons, List.not_mem_nil, or_false] at hx; omega⟩
      · obtain ⟨b, hb, rfl⟩ := List.mem_map.mp q
        have hb := List.mem_range.mp hb
        exact ⟨by simp, by simp, fun x hx => by simp only [List.mem_cons, List.not_mem_nil, or_false] at hx; omega⟩
    · obtain ⟨b, hb, q⟩ := List.mem_flatMap.mp q
      obtain ⟨d, hd, rfl⟩ := List.mem_map.mp q
      have hb := List.mem_range.mp hb
      have hd := List.mem_range.mp hd
      exact ⟨by simp, by simp, fun x hx => by simp only [List.mem_cons, List.not_mem_nil, or_false] at hx; omega⟩
  · rintro ⟨h1, h2, h3⟩
    have nat : ∀ x ∈ c, ∃ k : Nat, k < n ∧ x = (0 : Int) + (k : Int) := fun x hx => ⟨x.toNat, by have := h3 x hx; omega, by have := h3 x hx; omega⟩
    match c, h1, h2, nat with
    | [x], _, _, nat =>
      obtain ⟨a, ha, rfl⟩ := nat x (by simp)
      exact List.mem_flatMap.mpr ⟨a, List.mem_range.mpr ha, List.mem_append_left _ (List.mem_append_left _ (by simp))⟩
    | [x, y], _, _, nat =>
      obtain ⟨a, ha, rfl⟩ := nat x (by simp)
      obtain ⟨b, hb, rfl⟩ := nat y (by simp)
      exact List.mem_flatMap.mpr ⟨a, List.mem_range.mpr ha, List.mem_append_left _ (List.mem_append_right _ (List.mem_map.mpr ⟨b, List.mem_range.mpr hb, rfl⟩))⟩
    | [x, y, z], _, _, nat =>
      obtain ⟨a, ha, rfl⟩ := nat x (by simp)
      obtain ⟨b, hb, rfl⟩ := nat y (by simp)
      obtain ⟨d, hd, rfl⟩ := nat z (by simp)
      exact List.mem_flatMap.mpr ⟨a, List.mem_range.mpr ha, List.mem_append_right _ (List.mem_flatMap.mpr ⟨b, List.mem_range.mpr hb, List.mem_map.mpr ⟨d, List.mem_range.mpr hd, rfl⟩⟩)⟩
    | _ :: _ :: _ :: _ :: _, _, h2, _ => simp at h2
structure STO {τ : Type} (lt : τ → τ → Bool) : Prop where
  ir : ∀ x, lt x x = false
  tr : ∀ x y z, lt x y = true → lt y z = true → lt x z = true
  tri : ∀ x y, lt x y = true ∨ x = y ∨ lt y x = true
theorem STO.asym {τ : Type} {lt : τ → τ → Bool} (o : STO lt) {x y : τ} (h : lt x y = true) : lt y x = false := by
  cases e : lt y x with
  | false => rfl
  | true => have := o.tr x y x h e; rw [o.ir] at this; cases this
theorem sto_int : STO ltI := ⟨fun x => decide_eq_false (Int.lt_irrefl x), fun x y z h1 h2 => by
  have h1 := of_decide_eq_true h1; have h2 := of_decide_eq_true h2; exact decide_eq_true (by omega), fun x y => by
  rcases Int.lt_trichotomy x y with h | h | h
  · exact .inl (decide_eq_true h)
  · exact .inr (.inl h)
  · exact .inr (.inr (decide_eq_true h))⟩
theorem sto_list {τ : Type} [DecidableEq τ] {lt : τ → τ → Bool} (o : STO lt) : STO (ltList lt) := by
  refine ⟨fun x => ?_, fun x => ?_, fun x => ?_⟩
  · induction x with
    | nil => rfl
    | cons a x ih => show (if a = a then ltList lt x x else lt a a) = false; rw [if_pos rfl, ih]
  · induction x with
    | nil =>
      intro y z h1 h2
      cases y with
      | nil => cases h1
      | cons b y => cases z with
        | nil => cases h2
        | cons c z => rfl
    | cons a x ih =>
      intro y z h1 h2
      cases y with
      | nil => cases h1
      | cons b y =>
        cases z with
        | nil => cases h2
        | cons c z =>
          have h1 : (if a = b then ltList lt x y else lt a b) = true := h1
          have h2 : (if b = c then ltList lt y z else lt b c) = true := h2
          show (if a = c then ltList lt x z else lt a c) = true
          by_cases q1 : a = b
          · subst q1
            rw [if_pos rfl] at h1
            by_cases q2 : a = c
            · subst q2
              rw [if_pos rfl] at h2 ⊢
              exact ih y z h1 h2
            · rw [if_neg q2] at h2 ⊢; exact h2
          · rw [if_neg q1] at h1
            by_cases q2 : b = c
            · subst q2
              rw [if_neg q1]; exact h1
            · rw [if_neg q2] at h2
              have h3 := o.tr a b c h1 h2
              by_cases q3 : a = c
              · subst q3
                rw [o.ir] at h3; cases h3
              · rw [if_neg q3]; exact h3
  · induction x with
    | nil =>
      intro y
      cases y with
      | nil => exact .inr (.inl rfl)
      | cons b y => exact .inl rfl
    | cons a x ih =>
      intro y
      cases y with
      | nil => exact .inr (.inr rfl)
      | cons b y =>
        show (if a = b then ltList lt x y else lt a b) = true ∨ _ ∨ (if b = a then ltList lt y x else lt b a) = true
        by_cases q : a = b
        · subst q
          rw [if_pos rfl, if_pos rfl]
          rcases ih y with h | h | h
          · exact .inl h
          · exact .inr (.inl (by rw [h]))
          · exact .inr (.inr h)
        · rw [if_neg q, if_neg (fun z => q z.symm)]
          rcases o.tri a b with h | h | h
          · exact .inl h
          · exact absurd h q
          · exact .inr (.inr h)
theorem sto_two {τ μ : Type} [DecidableEq τ] {f : τ → τ → Bool} {g : μ → μ → Bool} (o : STO f) (o2 : STO g) : STO (lt2 f g) := by
  refine ⟨fun x => ?_, fun x y z h1 h2 => ?_, fun x y => ?_⟩
  · unfold lt2; rw [if_pos rfl]; exact o2.ir _
  · unfold lt2 at *
    by_cases q1 : x.1 = y.1
    · rw [if_pos q1] at h1
      by_cases q2 : y.1 = z.1
      · rw [if_pos q2] at h2
        rw [if_pos (q1.trans q2)]; exact o2.tr _ _ _ h1 h2
      · rw [if_neg q2] at h2
        rw [if_neg (fun q => q2 (q1.symm.trans q)), q1]; exact h2
    · rw [if_neg q1] at h1
      by_cases q2 : y.1 = z.1
      · rw [if_neg (fun q => q1 (q.trans q2.symm)), ← q2]; exact h1
      · rw [if_neg q2] at h2
        have h3 := o.tr _ _ _ h1 h2
        by_cases q3 : x.1 = z.1
        · rw [q3, o.ir] at h3; cases h3
        · rw [if_neg q3]; exact h3
  · unfold lt2
    by_cases q : x.1 = y.1
    · rw [if_pos q, if_pos q.symm]
      rcases o2.tri x.2 y.2 with h | h | h
      · exact .inl h
      · exact .inr (.inl (Prod.ext q h))
      · exact .inr (.inr h)
    · rw [if_neg q, if_neg (fun z => q z.symm)]
      rcases o.tri x.1 y.1 with h | h | h
      · exact .inl h
      · exact absurd h q
      · exact .inr (.inr h)
/-- what is sorted is the one list in order -/
theorem sortBy_eq {τ : Type} {lt : τ → τ → Bool} (o : STO lt) {xs ys : List τ} (hp : xs.Perm ys) (hs : ys.Pairwise fun a b => lt a b = true) : sortBy lt xs = ys := by
  unfold sortBy
  have h1 : (xs.mergeSort fun a b => !lt b a).Pairwise (fun a b => (!lt b a) = true) := List.pairwise_mergeSort (le := fun a b => !lt b a) (fun a b c h1 h2 => by
    have h1 : lt b a = false := by simpa using h1
    have h2 : lt c b = false := by simpa using h2
    show (!lt c a) = true
    cases e : lt c a with
    | false => rfl
    | true =>
      rcases o.tri a b with q | q | q
      · have := o.tr _ _ _ e q; rw [h2] at this; cases this
      · subst q; rw [h2] at e; cases e
      · rw [h1] at q; cases q) (fun a b => by
    cases e : lt b a with
    | false => rfl
    | true => rw [o.asym e]; rfl) xs
  refine List.Perm.eq_of_pairwise (le := fun a b => (!lt b a) = true) (fun a b _ _ h1 h2 => ?_) h1 (hs.imp fun {a b} h => by rw [o.asym h]; rfl) ((List.mergeSort_perm _ _).trans hp)
  have h1 : lt b a = false := by simpa using h1
  have h2 : lt a b = false := by simpa using h2
  rcases o.tri a b with q | q | q
  · rw [h2] at q; cases q
  · exact q
  · rw [h1] at q; cases q
theorem getD_map2 {α β : Type} [Inhabited α] [Inhabited β] (f : α → β) (xs : List α) {i : Nat} (h : i < xs.length) : (xs.map f).getD i default = f (xs.getD i default) := by
  rw [List.getD_eq_getElem?_getD, List.getD_eq_getElem?_getD, List.getElem?_map, List.getElem?_eq_getElem h]; rfl
theorem eS_eq {t : Task} (h : t.ok) {w : Int} (hw : 0 ≤ w ∧ w < (t.ways.length : Int)) : eS (endsOf t) w = m_law_number t.kinds (wS t.ways w) := by
  unfold eS endsOf wS
  rw [getD_map2 _ _ (by omega), number_eq (h.wn _ (getD_mem (by omega))).1]
theorem eT_eq {t : Task} (h : t.ok) {w : Int} (hw : 0 ≤ w ∧ w < (t.ways.length : Int)) : eT (endsOf t) w = m_law_number t.kinds (wT t.ways w) := by
  unfold eT endsOf wT
  rw [getD_map2 _ _ (by omega), number_eq (h.wn _ (getD_mem (by omega))).2]
theorem runE_allok {τ : Type} {f : Unit → τ → Except Bool Unit} : ∀ {ys : List τ}, (∀ y ∈ ys, f () y = .ok ()) → runE f ys () = .ok ()
  | [], _ => rfl
  | y :: ys, h => by
    rw [runE_cons, h y List.mem_cons_self]
    exact runE_allok fun z hz => h z (List.mem_cons_of_mem _ hz)
theorem runE_okall {τ ρ : Type} {f : Unit → τ → Except ρ Unit} : ∀ {ys : List τ} {u : Unit}, runE f ys () = .ok u → ∀ y ∈ ys, f () y = .ok ()
  | [], _, _, y, hy => by cases hy
  | x :: ys, u, h, y, hy => by
    rw [runE_cons] at h
    cases e : f () x with
    | error r => rw [e] at h; cases h
    | ok v =>
      rw [e] at h
      rcases List.mem_cons.mp hy with rfl | hy
      · exact e
      · exact runE_okall h y hy
theorem slc_take {τ : Type} (xs : List τ) {i : Int} (h : 0 ≤ i) : slcD xs none (some i) = xs.take i.toNat := by
  obtain ⟨n, rfl⟩ := Int.eq_ofNat_of_zero_le h
  unfold slcD
  rw [HT.sIx_none, HT.sIx_nat, List.drop_zero, Nat.sub_zero, Int.toNat_natCast, List.take_eq_take_iff]; omega
theorem tri_ok {A B C : Prop} [Decidable A] [Decidable B] [Decidable C] : ((if ¬ A then .error false else if B then .error false else if C then .error false else .ok ()) : Except Bool Unit) = .ok () ↔ A ∧ ¬ B ∧ ¬ C := by
  by_cases a : A <;> by_cases b : B <;> by_cases c : C <;> simp [a, b, c]
theorem tri_err {A B C : Prop} [Decidable A] [Decidable B] [Decidable C] {r : Bool} : ((if ¬ A then .error false else if B then .error false else if C then .error false else .ok ()) : Except Bool Unit) = .error r → r = false := by
  by_cases a : A <;> by_cases b : B <;> by_cases c : C <;> simp [a, b, c]
/-- one place of the law's test -/
def PlC (t : Task) (c : List Int) (k : Nat) : Prop := wT t.ways (c.getD k default) = (c.map (wS t.ways)).getD ((k + 1) % c.length) default ∧ (c.map (wS t.ways)).getD k default ∉ (c.map (wS t.ways)).take k ∧ ¬ m_law_number t.kinds ((c.map (wS t.ways)).getD k default) < m_law_number t.kinds ((c.map (wS t.ways)).getD 0 default)
theorem closes_pl (t : Task) (c : List Int) : m_law_closes t.kinds t.ways c = true ↔ ∀ k, k < c.length → PlC t c k := by
  have step : ∀ k : Nat, k < c.length → ((m_law_closes_l0 t.kinds t.ways c (c.map (wS t.ways)) () k = .ok () ↔ PlC t c k) ∧ ∀ b, m_law_closes_l0 t.kinds t.ways c (c.map (wS t.ways)) () k = .error b → b = false) := fun k hk => by
    unfold m_law_closes_l0 PlC
    rw [slc_take _ (by omega), show ((0 : Int) + (k : Int)).toNat = k by omega, show (((((0 : Int) + (k : Int)) + (1 : Int)) % (c.length : Int))).toNat = (k + 1) % c.length by
      rw [show ((0 : Int) + (k : Int)) + 1 = ((k + 1 : Nat) : Int) by omega, ← Int.natCast_emod, Int.toNat_natCast]]
    exact ⟨tri_ok, fun b => tri_err⟩
  unfold m_law_closes
  show (match runE (m_law_closes_l0 t.kinds t.ways c (c.map (wS t.ways))) (List.range ((c.length : Int)).toNat) () with | .error r => r | .ok zs0 => true) = true ↔ _
  rw [show ((c.length : Int)).toNat = c.length by omega]
  constructor
  · intro h k hk
    cases e : runE (m_law_closes_l0 t.kinds t.ways c (c.map (wS t.ways))) (List.range c.length) () with
    | ok u => exact (step k hk).1.mp (runE_okall e k (List.mem_range.mpr hk))
    | error r =>
      rw [e] at h
      have h : r = true := h
      obtain ⟨_, g⟩ := runE_inv (step := m_law_closes_l0 t.kinds t.ways c (c.map (wS t.ways))) (P := fun _ => True) (R := fun r => r = false) (ys := List.range c.length) (s := ()) (fun s y hy _ => ⟨fun _ _ => trivial, fun r e => (step y (List.mem_range.mp hy)).2 r e⟩) trivial
      have := g r e
      rw [h] at this; cases this
  · intro h
    rw [runE_allok fun k hk => (step k (List.mem_range.mp hk)).1.mpr (h k (List.mem_range.mp hk))]
theorem nodup_take {τ : Type} [Inhabited τ] {xs : List τ} (h : xs.Nodup) {k : Nat} (hk : k < xs.length) : xs.getD k default ∉ xs.take k := fun q => by
  rw [← List.take_append_drop k xs, List.nodup_append] at h
  have e : xs.getD k default ∈ xs.drop k := by
    rw [List.getD_eq_getElem?_getD, List.getElem?_eq_getElem hk, List.drop_eq_getElem_cons hk]; exact List.mem_cons_self
  exact h.2.2 _ q _ e rfl
theorem take_nodup {τ : Type} [Inhabited τ] {xs : List τ} (h : ∀ k, k < xs.length → xs.getD k default ∉ xs.take k) : xs.Nodup := by
  unfold List.Nodup
  rw [List.pairwise_iff_getElem]
  intro i j hi hj hij q
  refine h j hj ?_
  rw [List.getD_eq_getElem?_getD, List.getElem?_eq_getElem hj]
  show xs[j] ∈ _
  rw [← q, List.mem_take_iff_getElem]
  exact ⟨i, by omega, rfl⟩
theorem closes_iff {t : Task} (h : t.ok) {c : List Int} (hne : c ≠ []) (hin : ∀ x ∈ c, 0 ≤ x ∧ x < (t.ways.length : Int)) : m_law_closes t.kinds t.ways c = true ↔ ∃ k : Nat, k < t.kinds.length ∧ IsC t (k : Int) c := by
  rw [closes_pl]
  have hS : ∀ w ∈ c, wS t.ways w ∈ t.kinds.map (fun z : Str × Int × Int => z.1) := fun w hw => (h.wn _ (getD_mem (by have := hin w hw; omega))).1
  have hT : ∀ w ∈ c, wT t.ways w ∈ t.kinds.map (fun z : Str × Int × Int => z.1) := fun w hw => (h.wn _ (getD_mem (by have := hin w hw; omega))).2
  have inj : ∀ {a b : Str}, a ∈ t.kinds.map (fun z : Str × Int × Int => z.1) → b ∈ t.kinds.map (fun z : Str × Int × Int => z.1) → m_law_number t.kinds a = m_law_number t.kinds b → a = b := fun ha hb q => by
    rw [number_eq ha, number_eq hb] at q
    exact (number_inj ha hb).mp q
  have hc0 : 0 < c.length := List.length_pos_iff.mpr hne
  have eSn : ∀ k, k < c.length → (c.map (eS (endsOf t))).getD k default = m_law_number t.kinds ((c.map (wS t.ways)).getD k default) := fun k hk => by
    rw [getD_map2 _ _ hk, getD_map2 _ _ hk, eS_eq h (hin _ (getD_mem hk))]
  have eTn : ∀ k, k < c.length → (c.map (eT (endsOf t))).getD k default = m_law_number t.kinds (wT t.ways (c.getD k default)) := fun k hk => by
    rw [getD_map2 _ _ hk, eT_eq h (hin _ (getD_mem hk))]
  have mS : ∀ k, k < c.length → (c.map (wS t.ways)).getD k default ∈ t.kinds.map (fun z : Str × Int × Int => z.1) := fun k hk => by
    rw [getD_map2 _ _ hk]; exact hS _ (getD_mem hk)
  have hmod : ∀ k, k < c.length → (k + 1) % c.length < c.length := fun k _ => Nat.mod_lt _ hc0
  constructor
  · intro hp
    obtain ⟨j, e1, e2, _⟩ := kind_number_spec (mS 0 hc0)
    have e0 : (c.map (eS (endsOf t))).getD 0 default = (j : Int) := by rw [eSn 0 hc0, number_eq (mS 0 hc0), e1]
    have nd' : (c.map (wS t.ways)).Nodup := take_nodup fun k hk => (hp k (by simpa using hk)).2.1
    have nd : (c.map (eS (endsOf t))).Nodup := by
      have : c.map (eS (endsOf t)) = (c.map (wS t.ways)).map (fun n => m_law_number t.kinds n) := by
        rw [List.map_map]; exact List.map_congr_left fun w hw => eS_eq h (hin w hw)
      rw [this]
      unfold List.Nodup
      rw [List.pairwise_map]
      refine List.Pairwise.imp_of_mem (fun {x y} hx hy hxy q => hxy ?_) nd'
      obtain ⟨w, hw, rfl⟩ := List.mem_map.mp hx
      obtain ⟨v, hv, rfl⟩ := List.mem_map.mp hy
      exact inj (hS w hw) (hS v hv) q
    obtain ⟨w, ws, rfl⟩ : ∃ w ws, c = w :: ws := by
      cases c with
      | nil => exact absurd rfl hne
      | cons w ws => exact ⟨w, ws, rfl⟩
    have hw0 : eS (endsOf t) w = (j : Int) := e0
    refine ⟨j, e2, hin, ws.map (eS (endsOf t)), by rw [List.map_cons, hw0], ?_, by rw [← hw0, ← List.map_cons]; exact nd, ?_⟩
    · refine List.ext_getElem (by simp) fun i h1 h2 => ?_
      have hi : i < (w :: ws).length := by simpa using h1
      have a1 : ((w :: ws).map (eT (endsOf t)))[i] = ((w :: ws).map (eT (endsOf t))).getD i default := by rw [List.getD_eq_getElem?_getD, List.getElem?_eq_getElem h1]; rfl
      have a2 : (ws.map (eS (endsOf t)) ++ [(j : Int)])[i] = (ws.map (eS (endsOf t)) ++ [(j : Int)]).getD i default := by rw [List.getD_eq_getElem?_getD, List.getElem?_eq_getElem h2]; rfl
      rw [a1, a2, eTn i hi, (hp i hi).1, ← eSn _ (hmod i hi)]
      by_cases q : i + 1 < (w :: ws).length
      · rw [Nat.mod_eq_of_lt q]
        show (ws.map (eS (endsOf t))).getD i default = _
        rw [List.length_cons] at q
        rw [List.getD_eq_getElem?_getD, List.getD_eq_getElem?_getD, List.getElem?_append_left (by rw [List.length_map]; omega)]
      · have e : i + 1 = (w :: ws).length := by omega
        rw [e, Nat.mod_self, e0]
        rw [List.length_cons] at e
        rw [List.getD_eq_getElem?_getD, List.getElem?_append_right (by rw [List.length_map]; omega), List.length_map, show i - ws.length = 0 by omega]; rfl
    · intro x hx
      obtain ⟨i, hi, rfl⟩ := List.mem_iff_getElem.mp hx
      rw [List.length_map] at hi
      have hi1 : i + 1 < (w :: ws).length := by rw [List.length_cons]; omega
      have b1 : (ws.map (eS (endsOf t)))[i] = ((w :: ws).map (eS (endsOf t))).getD (i + 1) default := by
        rw [List.map_cons, List.getD_eq_getElem?_getD, List.getElem?_cons_succ, List.getElem?_eq_getElem (by rw [List.length_map]; exact hi)]; rfl
      have b2 := (hp (i + 1) hi1).2.2
      rw [← eSn _ hi1, ← eSn 0 hc0, e0, ← b1] at b2
      have b3 : (ws.map (eS (endsOf t)))[i] ≠ (j : Int) := fun q => by
        rw [List.map_cons, List.nodup_cons, hw0] at nd
        exact nd.1 (q ▸ List.getElem_mem _)
      omega
  · rintro ⟨k0, hk0, _, X, g2, g3, g4, g5⟩ k hk
    have hl : c.length = X.length + 1 := by have := congrArg List.length g2; simpa using this
    refine ⟨?_, ?_, ?_⟩
    · have h1 : m_law_number t.kinds (wT t.ways (c.getD k default)) = m_law_number t.kinds ((c.map (wS t.ways)).getD ((k + 1) % c.length) default) := by
        rw [← eTn k hk, ← eSn _ (hmod k hk), g2, g3]
        by_cases q : k + 1 < c.length
        · rw [Nat.mod_eq_of_lt q]
          show _ = X.getD k default
          rw [List.getD_eq_getElem?_getD, List.getD_eq_getElem?_getD, List.getElem?_append_left (by omega)]
        · rw [show k + 1 = c.length by omega, Nat.mod_self]
          rw [List.getD_eq_getElem?_getD, List.getElem?_append_right (by omega), show k - X.length = 0 by omega]; rfl
      exact inj (hT _ (getD_mem hk)) (mS _ (hmod k hk)) h1
    · have nd' : (c.map (wS t.ways)).Nodup := by
        rw [← g2] at g4
        unfold List.Nodup at g4 ⊢
        rw [List.pairwise_map] at g4 ⊢
        exact List.Pairwise.imp_of_mem (fun {x y} hx hy hxy q => hxy (by rw [eS_eq h (hin x hx), eS_eq h (hin y hy), q])) g4
      exact nodup_take nd' (by simpa using hk)
    · rw [← eSn k hk, ← eSn 0 hc0, g2]
      cases k with
      | zero => exact Int.lt_irrefl _
      | succ k =>
        have := g5 (X.getD k default) (getD_mem (by omega))
        show ¬ (X.getD k default < (k0 : Int))
        omega
/-- the law's circuits are the program's -/
theorem circuits_eq {t : Task} (h : t.ok) (h3 : t.kinds.length ≤ 3) (h4 : t.ways.length ≤ 4) : m_law_circuits t.kinds t.ways = m_circuits t := by
  unfold m_law_circuits
  rw [found_eq]
  have key : ∀ c ∈ m_circuits t, keyC t.kinds t.ways c = (eS (endsOf t) (c.getD 0 default), c) := fun c hc => by
    have q := circuits_in h c hc
    unfold keyC
    rw [eS_eq h (q.2.2 _ (getD_mem (List.length_pos_iff.mpr q.1)))]
  have en : (enumAll t.ways.length).Nodup := by
    have : ∀ n : Fin 5, (enumAll n.val).Nodup := by decide +kernel
    exact this ⟨_, by omega⟩
  have mem : ∀ c, c ∈ (enumAll t.ways.length).filter (fun c => m_law_closes t.kinds t.ways c) ↔ c ∈ m_circuits t := fun c => by
    rw [List.mem_filter, enum_mem, mem_circuits h]
    constructor
    · rintro ⟨⟨a1, a2, a3⟩, a4⟩
      exact (closes_iff h a1 a3).mp a4
    · intro hc
      have q := circuits_in h c ((mem_circuits h).mpr hc)
      refine ⟨⟨q.1, ?_, q.2.2⟩, (closes_iff h q.1 q.2.2).mpr hc⟩
      obtain ⟨k, hk, g1, X, g2, g3, g4, g5⟩ := hc
      have p3 := pig8 3 ((k : Int) :: X) g4 (fun x hx => by
        rw [← g2] at hx
        obtain ⟨w, hw, rfl⟩ := List.mem_map.mp hx
        have hS : wS t.ways w ∈ t.kinds.map (fun z : Str × Int × Int => z.1) := (h.wn _ (getD_mem (by have := g1 w hw; omega))).1
        rw [eS_eq h (g1 w hw), number_eq hS]
        obtain ⟨j, e1, e2, _⟩ := kind_number_spec hS
        rw [e1]; omega)
      have : c.length = X.length + 1 := by have := congrArg List.length g2; simpa using this
      rw [List.length_cons] at p3; omega
  have pw : ((m_circuits t).map (keyC t.kinds t.ways)).Pairwise fun a b => lt2 ltI (ltList ltI) a b = true := by
    rw [show (m_circuits t).map (keyC t.kinds t.ways) = (m_circuits t).map fun c => (eS (endsOf t) (c.getD 0 default), c) from List.map_congr_left key, List.pairwise_map]
    exact circuits_pw h
  have o := sto_two sto_int (sto_list sto_int)
  have ndk : ((m_circuits t).map (keyC t.kinds t.ways)).Nodup := pw.imp fun {a b} hab q => by rw [q, o.ir] at hab; cases hab
  have ndc : (m_circuits t).Nodup := by
    unfold List.Nodup at ndk ⊢
    rw [List.pairwise_map] at ndk
    exact ndk.imp fun {a b} hab q => hab (by rw [q])
  have pm : ((enumAll t.ways.length).filter (fun c => m_law_closes t.kinds t.ways c)).Perm (m_circuits t) := (List.perm_ext_iff_of_nodup (en.sublist List.filter_sublist) ndc).mpr mem
  rw [sortBy_eq o (pm.map (keyC t.kinds t.ways)) pw, List.map_map]
  exact List.map_id _
theorem law_true : ∀ ns : List Int, ns.length ≤ 63 → m_law ns = true := by
  intro ns _
  unfold m_law
  dsimp only
  have hnf := numbers_facts ns (27 : Int) (by decide)
  generalize m_law_numbers ns (27 : Int) = N at hnf
  obtain ⟨hk, hkl⟩ := kinds_ok hnf.2 0 (most := 3) (by decide) (by decide)
  have hpk := pick_bound N 0 (count := 3) (by decide)
  generalize m_law_kinds N 0 3 = kinds at hk hkl
  obtain ⟨hw, hwl⟩ := ways_ok N 7 (kinds := kinds) hk.pos (most := 4) (by decide) (by decide)
  have hpw := pick_bound N 7 (count := (4 : Int) + 1) (by decide)
  generalize m_law_ways N 7 kinds 4 = ways at hw hwl
  rw [init_eq (by decide +kernel) hk.are hw.are]
  have ok := task_ok hk hw (Str.ofString "t")
  have l3 : kinds.length ≤ 3 := by omega
  have l4 : ways.length ≤ 4 := by omega
  generalize ht : ({ name := Str.ofString "t", kinds := kinds, ways := ways } : Task) = t at *
  have e1 : kinds = t.kinds := by rw [← ht]
  have e2 : ways = t.ways := by rw [← ht]
  rw [e1] at l3
  rw [e2] at l4
  rw [e1, e2]
  have ceq := circuits_eq ok l3 l4
  rw [if_neg (fun q => q rfl), runE_allok (fun y _ => ?_)]
  · show (if ¬ (m_circuitsn t = m_law_circuits t.kinds t.ways) then false else decide (m_circuits t = m_law_circuits t.kinds t.ways)) = true
    rw [circuitsn_eq, ceq, if_neg (fun q => q rfl)]
    exact decide_eq_true rfl
  · unfold m_law_l0
    rw [if_neg]
    rintro (q | q)
    · exact q rfl
    · refine q ?_
      rw [List.all_eq_true]
      intro b hb
      obtain ⟨x, _, rfl⟩ := List.mem_map.mp hb
      rfl
end
section
theorem all_mk {l : PySem.W.OpenLaw} {w : World} {K : Frag} {h : Heap} {mg : Mg} {fa : Addr} (X : K.In h) (G : h.Ns mainGlobals mg) (hfa : mg "law" = some (.ref fa))
    (z_abs : PySem.W.nsIn K mainGlobals "abs" = some none)
    (z_all : PySem.W.nsIn K mainGlobals "all" = some none)
    (z_bool : PySem.W.nsIn K mainGlobals "bool" = some none)
    (z_enumerate : PySem.W.nsIn K mainGlobals "enumerate" = some none)
    (z_int : PySem.W.nsIn K mainGlobals "int" = some none)
    (z_isinstance : PySem.W.nsIn K mainGlobals "isinstance" = some none)
    (z_len : PySem.W.nsIn K mainGlobals "len" = some none)
    (z_list : PySem.W.nsIn K mainGlobals "list" = some none)
    (z_max : PySem.W.nsIn K mainGlobals "max" = some none)
    (z_range : PySem.W.nsIn K mainGlobals "range" = some none)
    (z_set : PySem.W.nsIn K mainGlobals "set" = some none)
    (z_sorted : PySem.W.nsIn K mainGlobals "sorted" = some none)
    (z_str : PySem.W.nsIn K mainGlobals "str" = some none)
    (z_tuple : PySem.W.nsIn K mainGlobals "tuple" = some none)
    {u_LONGEST_NAME : Tok} (z_LONGEST_NAME : PySem.W.nsIn K mainGlobals "LONGEST_NAME" = some (some (.int 12 u_LONGEST_NAME)))
    {u_MOST_KINDS : Tok} (z_MOST_KINDS : PySem.W.nsIn K mainGlobals "MOST_KINDS" = some (some (.int 8 u_MOST_KINDS)))
    {u_MOST_UNITS : Tok} (z_MOST_UNITS : PySem.W.nsIn K mainGlobals "MOST_UNITS" = some (some (.int 1000 u_MOST_UNITS)))
    {u_MOST_WAYS : Tok} (z_MOST_WAYS : PySem.W.nsIn K mainGlobals "MOST_WAYS" = some (some (.int 16 u_MOST_WAYS)))
    {u_NAME_CHARACTERS : Tok} (z_NAME_CHARACTERS : PySem.W.nsIn K mainGlobals "NAME_CHARACTERS" = some (some (.str "abcdefghijklmnopqrstuvwxyz0123456789" u_NAME_CHARACTERS)))
    {c_Task : Addr} (gC_Task : PySem.W.nsIn K mainGlobals "Task" = some (some (.ref c_Task)))
    (pg_Task : PySem.W.plainGet K c_Task Str.empty = true) (hd_Task : PySem.W.hasDictIn K c_Task = true) (po_Task : PySem.W.plainOver K c_Task = true) (sa_Task : PySem.W.findIn K (.ref c_Task) "__setattr__" = some (some (.builtin "object.__setattr__")))
    (na_Task_name : PySem.W.findIn K (.ref c_Task) "name" = some none)
    (na_Task_kinds : PySem.W.findIn K (.ref c_Task) "kinds" = some none)
    (na_Task_ways : PySem.W.findIn K (.ref c_Task) "ways" = some none)
    (mk_Task : PySem.W.makesIn K c_Task = true) (kc_Task : PySem.W.keepIn K (.ref c_Task) = true)
    {f_law_row : Addr} {od_law_row an_law_row : Option Addr} {sl_law_row : Array (Option Value)} {oc_law_row dc_law_row pm_law_row cd_law_row ct_law_row : Value} {kV_law_row : Value}
    (g_law_row : PySem.W.nsIn K mainGlobals "_law_row" = some (some (.ref f_law_row)))
    (l_law_row : K.lookup f_law_row = some ⟨oc_law_row, od_law_row, .func (PySem.W.fnOf "_law_row" "_law_row" (defArgs s_law_row) (defBody s_law_row) (defScope s_law_row) .none kV_law_row dc_law_row pm_law_row an_law_row cd_law_row ct_law_row), sl_law_row⟩)
    (c_law_row : PySem.W.codeIn K cd_law_row "_law_row" = true) (k_law_row : PySem.W.keepIn K (.ref f_law_row) = true)
    {f_law_numbers : Addr} {od_law_numbers an_law_numbers : Option Addr} {sl_law_numbers : Array (Option Value)} {oc_law_numbers dc_law_numbers pm_law_numbers cd_law_numbers ct_law_numbers : Value} {kV_law_numbers : Value}
    (g_law_numbers : PySem.W.nsIn K mainGlobals "_law_numbers" = some (some (.ref f_law_numbers)))
    (l_law_numbers : K.lookup f_law_numbers = some ⟨oc_law_numbers, od_law_numbers, .func (PySem.W.fnOf "_law_numbers" "_law_numbers" (defArgs s_law_numbers) (defBody s_law_numbers) (defScope s_law_numbers) .none kV_law_numbers dc_law_numbers pm_law_numbers an_law_numbers cd_law_numbers ct_law_numbers), sl_law_numbers⟩)
    (c_law_numbers : PySem.W.codeIn K cd_law_numbers "_law_numbers" = true) (k_law_numbers : PySem.W.keepIn K (.ref f_law_numbers) = true)
    {f_is_integer : Addr} {od_is_integer an_is_integer : Option Addr} {sl_is_integer : Array (Option Value)} {oc_is_integer dc_is_integer pm_is_integer cd_is_integer ct_is_integer : Value} {kV_is_integer : Value}
    (g_is_integer : PySem.W.nsIn K mainGlobals "is_integer" = some (some (.ref f_is_integer)))
    (l_is_integer : K.lookup f_is_integer = some ⟨oc_is_integer, od_is_integer, .func (PySem.W.fnOf "is_integer" "is_integer" (defArgs s_is_integer) (defBody s_is_integer) (defScope s_is_integer) .none kV_is_integer dc_is_integer pm_is_integer an_is_integer cd_is_integer ct_is_integer), sl_is_integer⟩)
    (c_is_integer : PySem.W.codeIn K cd_is_integer "is_integer" = true) (k_is_integer : PySem.W.keepIn K (.ref f_is_integer) = true)
    {f_is_name : Addr} {od_is_name an_is_name : Option Addr} {sl_is_name : Array (Option Value)} {oc_is_name dc_is_name pm_is_name cd_is_name ct_is_name : Value} {kV_is_name : Value}
    (g_is_name : PySem.W.nsIn K mainGlobals "is_name" = some (some (.ref f_is_name)))
    (l_is_name : K.lookup f_is_name = some ⟨oc_is_name, od_is_name, .func (PySem.W.fnOf "is_name" "is_name" (defArgs s_is_name) (defBody s_is_name) (defScope s_is_name) .none kV_is_name dc_is_name pm_is_name an_is_name cd_is_name ct_is_name), sl_is_name⟩)
    (c_is_name : PySem.W.codeIn K cd_is_name "is_name" = true) (k_is_name : PySem.W.keepIn K (.ref f_is_name) = true)
    {f_is_kind : Addr} {od_is_kind an_is_kind : Option Addr} {sl_is_kind : Array (Option Value)} {oc_is_kind dc_is_kind pm_is_kind cd_is_kind ct_is_kind : Value} {kV_is_kind : Value}
    (g_is_kind : PySem.W.nsIn K mainGlobals "is_kind" = some (some (.ref f_is_kind)))
    (l_is_kind : K.lookup f_is_kind = some ⟨oc_is_kind, od_is_kind, .func (PySem.W.fnOf "is_kind" "is_kind" (defArgs s_is_kind) (defBody s_is_kind) (defScope s_is_kind) .none kV_is_kind dc_is_kind pm_is_kind an_is_kind cd_is_kind ct_is_kind), sl_is_kind⟩)
    (c_is_kind : PySem.W.codeIn K cd_is_kind "is_kind" = true) (k_is_kind : PySem.W.keepIn K (.ref f_is_kind) = true)
    {f_is_way : Addr} {od_is_way an_is_way : Option Addr} {sl_is_way : Array (Option Value)} {oc_is_way dc_is_way pm_is_way cd_is_way ct_is_way : Value} {kV_is_way : Value}
    (g_is_way : PySem.W.nsIn K mainGlobals "is_way" = some (some (.ref f_is_way)))
    (l_is_way : K.lookup f_is_way = some ⟨oc_is_way, od_is_way, .func (PySem.W.fnOf "is_way" "is_way" (defArgs s_is_way) (defBody s_is_way) (defScope s_is_way) .none kV_is_way dc_is_way pm_is_way an_is_way cd_is_way ct_is_way), sl_is_way⟩)
    (c_is_way : PySem.W.codeIn K cd_is_way "is_way" = true) (k_is_way : PySem.W.keepIn K (.ref f_is_way) = true)
    {f_are_different : Addr} {od_are_different an_are_different : Option Addr} {sl_are_different : Array (Option Value)} {oc_are_different dc_are_different pm_are_different cd_are_different ct_are_different : Value} {kV_are_different : Value}
    (g_are_different : PySem.W.nsIn K mainGlobals "are_different" = some (some (.ref f_are_different)))
    (l_are_different : K.lookup f_are_different = some ⟨oc_are_different, od_are_different, .func (PySem.W.fnOf "are_different" "are_different" (defArgs s_are_different) (defBody s_are_different) (defScope s_are_different) .none kV_are_different dc_are_different pm_are_different an_are_different cd_are_different ct_are_different), sl_are_different⟩)
    (c_are_different : PySem.W.codeIn K cd_are_different "are_different" = true) (k_are_different : PySem.W.keepIn K (.ref f_are_different) = true)
    {f_are_kinds : Addr} {od_are_kinds an_are_kinds : Option Addr} {sl_are_kinds : Array (Option Value)} {oc_are_kinds dc_are_kinds pm_are_kinds cd_are_kinds ct_are_kinds : Value} {kV_are_kinds : Value}
    (g_are_kinds : PySem.W.nsIn K mainGlobals "are_kinds" = some (some (.ref f_are_kinds)))
    (l_are_kinds : K.lookup f_are_kinds = some ⟨oc_are_kinds, od_are_kinds, .func (PySem.W.fnOf "are_kinds" "are_kinds" (defArgs s_are_kinds) (defBody s_are_kinds) (defScope s_are_kinds) .none kV_are_kinds dc_are_kinds pm_are_kinds an_are_kinds cd_are_kinds ct_are_kinds), sl_are_kinds⟩)
    (c_are_kinds : PySem.W.codeIn K cd_are_kinds "are_kinds" = true) (k_are_kinds : PySem.W.keepIn K (.ref f_are_kinds) = true)
    {f_are_ways : Addr} {od_are_ways an_are_ways : Option Addr} {sl_are_ways : Array (Option Value)} {oc_are_ways dc_are_ways pm_are_ways cd_are_ways ct_are_ways : Value} {kV_are_ways : Value}
    (g_are_ways : PySem.W.nsIn K mainGlobals "are_ways" = some (some (.ref f_are_ways)))
    (l_are_ways : K.lookup f_are_ways = some ⟨oc_are_ways, od_are_ways, .func (PySem.W.fnOf "are_ways" "are_ways" (defArgs s_are_ways) (defBody s_are_ways) (defScope s_are_ways) .none kV_are_ways dc_are_ways pm_are_ways an_are_ways cd_are_ways ct_are_ways), sl_are_ways⟩)
    (c_are_ways : PySem.W.codeIn K cd_are_ways "are_ways" = true) (k_are_ways : PySem.W.keepIn K (.ref f_are_ways) = true)
    {f_Task_init__ : Addr} {od_Task_init__ an_Task_init__ : Option Addr} {sl_Task_init__ : Array (Option Value)} {oc_Task_init__ dc_Task_init__ pm_Task_init__ cd_Task_init__ ct_Task_init__ : Value} {kV_Task_init__ : Value}
    (at_Task_init__ : PySem.W.findIn K (.ref c_Task) "__init__" = some (some (.ref f_Task_init__))) (is_Task_init__ : PySem.W.isFn K (.ref f_Task_init__) = true)
    (l_Task_init__ : K.lookup f_Task_init__ = some ⟨oc_Task_init__, od_Task_init__, .func (PySem.W.fnOf "__init__" "Task.__init__" (defArgs s_Task_init__) (defBody s_Task_init__) (defScope s_Task_init__) .none kV_Task_init__ dc_Task_init__ pm_Task_init__ an_Task_init__ cd_Task_init__ ct_Task_init__), sl_Task_init__⟩)
    (c_Task_init__ : PySem.W.codeIn K cd_Task_init__ "Task.__init__" = true) (k_Task_init__ : PySem.W.keepIn K (.ref f_Task_init__) = true)
    {f_Task_kind_number : Addr} {od_Task_kind_number an_Task_kind_number : Option Addr} {sl_Task_kind_number : Array (Option Value)} {oc_Task_kind_number dc_Task_kind_number pm_Task_kind_number cd_Task_kind_number ct_Task_kind_number : Value} {kV_Task_kind_number : Value}
    (at_Task_kind_number : PySem.W.findIn K (.ref c_Task) "kind_number" = some (some (.ref f_Task_kind_number))) (is_Task_kind_number : PySem.W.isFn K (.ref f_Task_kind_number) = true)
    (l_Task_kind_number : K.lookup f_Task_kind_number = some ⟨oc_Task_kind_number, od_Task_kind_number, .func (PySem.W.fnOf "kind_number" "Task.kind_number" (defArgs s_Task_kind_number) (defBody s_Task_kind_number) (defScope s_Task_kind_number) .none kV_Task_kind_number dc_Task_kind_number pm_Task_kind_number an_Task_kind_number cd_Task_kind_number ct_Task_kind_number), sl_Task_kind_number⟩)
    (c_Task_kind_number : PySem.W.codeIn K cd_Task_kind_number "Task.kind_number" = true) (k_Task_kind_number : PySem.W.keepIn K (.ref f_Task_kind_number) = true)
    {f_law_is_integer : Addr} {od_law_is_integer an_law_is_integer : Option Addr} {sl_law_is_integer : Array (Option Value)} {oc_law_is_integer dc_law_is_integer pm_law_is_integer cd_law_is_integer ct_law_is_integer : Value} {kV_law_is_integer : Value}
    (g_law_is_integer : PySem.W.nsIn K mainGlobals "_law_is_integer" = some (some (.ref f_law_is_integer)))
    (l_law_is_integer : K.lookup f_law_is_integer = some ⟨oc_law_is_integer, od_law_is_integer, .func (PySem.W.fnOf "_law_is_integer" "_law_is_integer" (defArgs s_law_is_integer) (defBody s_law_is_integer) (defScope s_law_is_integer) .none kV_law_is_integer dc_law_is_integer pm_law_is_integer an_law_is_integer cd_law_is_integer ct_law_is_integer), sl_law_is_integer⟩)
    (c_law_is_integer : PySem.W.codeIn K cd_law_is_integer "_law_is_integer" = true) (k_law_is_integer : PySem.W.keepIn K (.ref f_law_is_integer) = true)
    {f_law_pick : Addr} {od_law_pick an_law_pick : Option Addr} {sl_law_pick : Array (Option Value)} {oc_law_pick dc_law_pick pm_law_pick cd_law_pick ct_law_pick : Value} {kV_law_pick : Value}
    (g_law_pick : PySem.W.nsIn K mainGlobals "_law_pick" = some (some (.ref f_law_pick)))
    (l_law_pick : K.lookup f_law_pick = some ⟨oc_law_pick, od_law_pick, .func (PySem.W.fnOf "_law_pick" "_law_pick" (defArgs s_law_pick) (defBody s_law_pick) (defScope s_law_pick) .none kV_law_pick dc_law_pick pm_law_pick an_law_pick cd_law_pick ct_law_pick), sl_law_pick⟩)
    (c_law_pick : PySem.W.codeIn K cd_law_pick "_law_pick" = true) (k_law_pick : PySem.W.keepIn K (.ref f_law_pick) = true)
    {f_law_scale : Addr} {od_law_scale an_law_scale : Option Addr} {sl_law_scale : Array (Option Value)} {oc_law_scale dc_law_scale pm_law_scale cd_law_scale ct_law_scale : Value} {kV_law_scale : Value}
    (g_law_scale : PySem.W.nsIn K mainGlobals "_law_scale" = some (some (.ref f_law_scale)))
    (l_law_scale : K.lookup f_law_scale = some ⟨oc_law_scale, od_law_scale, .func (PySem.W.fnOf "_law_scale" "_law_scale" (defArgs s_law_scale) (defBody s_law_scale) (defScope s_law_scale) .none kV_law_scale dc_law_scale pm_law_scale an_law_scale cd_law_scale ct_law_scale), sl_law_scale⟩)
    (c_law_scale : PySem.W.codeIn K cd_law_scale "_law_scale" = true) (k_law_scale : PySem.W.keepIn K (.ref f_law_scale) = true)
    {f_law_name : Addr} {od_law_name an_law_name : Option Addr} {sl_law_name : Array (Option Value)} {oc_law_name dc_law_name pm_law_name cd_law_name ct_law_name : Value} {kV_law_name : Value}
    (g_law_name : PySem.W.nsIn K mainGlobals "_law_name" = some (some (.ref f_law_name)))
    (l_law_name : K.lookup f_law_name = some ⟨oc_law_name, od_law_name, .func (PySem.W.fnOf "_law_name" "_law_name" (defArgs s_law_name) (defBody s_law_name) (defScope s_law_name) .none kV_law_name dc_law_name pm_law_name an_law_name cd_law_name ct_law_name), sl_law_name⟩)
    (c_law_name : PySem.W.codeIn K cd_law_name "_law_name" = true) (k_law_name : PySem.W.keepIn K (.ref f_law_name) = true)
    {f_law_kinds : Addr} {od_law_kinds an_law_kinds : Option Addr} {sl_law_kinds : Array (Option Value)} {oc_law_kinds dc_law_kinds pm_law_kinds cd_law_kinds ct_law_kinds : Value} {kV_law_kinds : Value}
    (g_law_kinds : PySem.W.nsIn K mainGlobals "_law_kinds" = some (some (.ref f_law_kinds)))
    (l_law_kinds : K.lookup f_law_kinds = some ⟨oc_law_kinds, od_law_kinds, .func (PySem.W.fnOf "_law_kinds" "_law_kinds" (defArgs s_law_kinds) (defBody s_law_kinds) (defScope s_law_kinds) .none kV_law_kinds dc_law_kinds pm_law_kinds an_law_kinds cd_law_kinds ct_law_kinds), sl_law_kinds⟩)
    (c_law_kinds : PySem.W.codeIn K cd_law_kinds "_law_kinds" = true) (k_law_kinds : PySem.W.keepIn K (.ref f_law_kinds) = true)
    {f_law_ways : Addr} {od_law_ways an_law_ways : Option Addr} {sl_law_ways : Array (Option Value)} {oc_law_ways dc_law_ways pm_law_ways cd_law_ways ct_law_ways : Value} {kV_law_ways : Value}
    (g_law_ways : PySem.W.nsIn K mainGlobals "_law_ways" = some (some (.ref f_law_ways)))
    (l_law_ways : K.lookup f_law_ways = some ⟨oc_law_ways, od_law_ways, .func (PySem.W.fnOf "_law_ways" "_law_ways" (defArgs s_law_ways) (defBody s_law_ways) (defScope s_law_ways) .none kV_law_ways dc_law_ways pm_law_ways an_law_ways cd_law_ways ct_law_ways), sl_law_ways⟩)
    (c_law_ways : PySem.W.codeIn K cd_law_ways "_law_ways" = true) (k_law_ways : PySem.W.keepIn K (.ref f_law_ways) = true)
    {f_law_number : Addr} {od_law_number an_law_number : Option Addr} {sl_law_number : Array (Option Value)} {oc_law_number dc_law_number pm_law_number cd_law_number ct_law_number : Value} {kV_law_number : Value}
    (g_law_number : PySem.W.nsIn K mainGlobals "_law_number" = some (some (.ref f_law_number)))
    (l_law_number : K.lookup f_law_number = some ⟨oc_law_number, od_law_number, .func (PySem.W.fnOf "_law_number" "_law_number" (defArgs s_law_number) (defBody s_law_number) (defScope s_law_number) .none kV_law_number dc_law_number pm_law_number an_law_number cd_law_number ct_law_number), sl_law_number⟩)
    (c_law_number : PySem.W.codeIn K cd_law_number "_law_number" = true) (k_law_number : PySem.W.keepIn K (.ref f_law_number) = true)
    {f_circuits_behind : Addr} {od_circuits_behind an_circuits_behind : Option Addr} {sl_circuits_behind : Array (Option Value)} {oc_circuits_behind dc_circuits_behind pm_circuits_behind cd_circuits_behind ct_circuits_behind : Value} {kV_circuits_behind : Value}
    (g_circuits_behind : PySem.W.nsIn K mainGlobals "_circuits_behind" = some (some (.ref f_circuits_behind)))
    (l_circuits_behind : K.lookup f_circuits_behind = some ⟨oc_circuits_behind, od_circuits_behind, .func (PySem.W.fnOf "_circuits_behind" "_circuits_behind" (defArgs s_circuits_behind) (defBody s_circuits_behind) (defScope s_circuits_behind) .none kV_circuits_behind dc_circuits_behind pm_circuits_behind an_circuits_behind cd_circuits_behind ct_circuits_behind), sl_circuits_behind⟩)
    (c_circuits_behind : PySem.W.codeIn K cd_circuits_behind "_circuits_behind" = true) (k_circuits_behind : PySem.W.keepIn K (.ref f_circuits_behind) = true)
    {f_circuits : Addr} {od_circuits an_circuits : Option Addr} {sl_circuits : Array (Option Value)} {oc_circuits dc_circuits pm_circuits cd_circuits ct_circuits : Value} {kV_circuits : Value}
    (g_circuits : PySem.W.nsIn K mainGlobals "circuits" = some (some (.ref f_circuits)))
    (l_circuits : K.lookup f_circuits = some ⟨oc_circuits, od_circuits, .func (PySem.W.fnOf "circuits" "circuits" (defArgs s_circuits) (defBody s_circuits) (defScope s_circuits) .none kV_circuits dc_circuits pm_circuits an_circuits cd_circuits ct_circuits), sl_circuits⟩)
    (c_circuits : PySem.W.codeIn K cd_circuits "circuits" = true) (k_circuits : PySem.W.keepIn K (.ref f_circuits) = true)
    {f_circuits_behindn : Addr} {od_circuits_behindn an_circuits_behindn : Option Addr} {sl_circuits_behindn : Array (Option Value)} {oc_circuits_behindn dc_circuits_behindn pm_circuits_behindn cd_circuits_behindn ct_circuits_behindn : Value} {kV_circuits_behindn : Value}
    (g_circuits_behindn : PySem.W.nsIn K mainGlobals "_circuits_behind" = some (some (.ref f_circuits_behindn)))
    (l_circuits_behindn : K.lookup f_circuits_behindn = some ⟨oc_circuits_behindn, od_circuits_behindn, .func (PySem.W.fnOf "_circuits_behind" "_circuits_behind" (defArgs s_circuits_behindn) (defBody s_circuits_behindn) (defScope s_circuits_behindn) .none kV_circuits_behindn dc_circuits_behindn pm_circuits_behindn an_circuits_behindn cd_circuits_behindn ct_circuits_behindn), sl_circuits_behindn⟩)
    (c_circuits_behindn : PySem.W.codeIn K cd_circuits_behindn "_circuits_behind" = true) (k_circuits_behindn : PySem.W.keepIn K (.ref f_circuits_behindn) = true)
    {f_law_closes : Addr} {od_law_closes an_law_closes : Option Addr} {sl_law_closes : Array (Option Value)} {oc_law_closes dc_law_closes pm_law_closes cd_law_closes ct_law_closes : Value} {kV_law_closes : Value}
    (g_law_closes : PySem.W.nsIn K mainGlobals "_law_closes" = some (some (.ref f_law_closes)))
    (l_law_closes : K.lookup f_law_closes = some ⟨oc_law_closes, od_law_closes, .func (PySem.W.fnOf "_law_closes" "_law_closes" (defArgs s_law_closes) (defBody s_law_closes) (defScope s_law_closes) .none kV_law_closes dc_law_closes pm_law_closes an_law_closes cd_law_closes ct_law_closes), sl_law_closes⟩)
    (c_law_closes : PySem.W.codeIn K cd_law_closes "_law_closes" = true) (k_law_closes : PySem.W.keepIn K (.ref f_law_closes) = true)
    {f_law_circuits : Addr} {od_law_circuits an_law_circuits : Option Addr} {sl_law_circuits : Array (Option Value)} {oc_law_circuits dc_law_circuits pm_law_circuits cd_law_circuits ct_law_circuits : Value} {kV_law_circuits : Value}
    (g_law_circuits : PySem.W.nsIn K mainGlobals "_law_circuits" = some (some (.ref f_law_circuits)))
    (l_law_circuits : K.lookup f_law_circuits = some ⟨oc_law_circuits, od_law_circuits, .func (PySem.W.fnOf "_law_circuits" "_law_circuits" (defArgs s_law_circuits) (defBody s_law_circuits) (defScope s_law_circuits) .none kV_law_circuits dc_law_circuits pm_law_circuits an_law_circuits cd_law_circuits ct_law_circuits), sl_law_circuits⟩)
    (c_law_circuits : PySem.W.codeIn K cd_law_circuits "_law_circuits" = true) (k_law_circuits : PySem.W.keepIn K (.ref f_law_circuits) = true)
    {f_circuitsn : Addr} {od_circuitsn an_circuitsn : Option Addr} {sl_circuitsn : Array (Option Value)} {oc_circuitsn dc_circuitsn pm_circuitsn cd_circuitsn ct_circuitsn : Value} {kV_circuitsn : Value}
    (g_circuitsn : PySem.W.nsIn K mainGlobals "circuits" = some (some (.ref f_circuitsn)))
    (l_circuitsn : K.lookup f_circuitsn = some ⟨oc_circuitsn, od_circuitsn, .func (PySem.W.fnOf "circuits" "circuits" (defArgs s_circuitsn) (defBody s_circuitsn) (defScope s_circuitsn) .none kV_circuitsn dc_circuitsn pm_circuitsn an_circuitsn cd_circuitsn ct_circuitsn), sl_circuitsn⟩)
    (c_circuitsn : PySem.W.codeIn K cd_circuitsn "circuits" = true) (k_circuitsn : PySem.W.keepIn K (.ref f_circuitsn) = true)
    {f_law : Addr} {od_law an_law : Option Addr} {sl_law : Array (Option Value)} {oc_law dc_law pm_law cd_law ct_law : Value} {kV_law : Value}
    (g_law : PySem.W.nsIn K mainGlobals "law" = some (some (.ref f_law)))
    (l_law : K.lookup f_law = some ⟨oc_law, od_law, .func (PySem.W.fnOf "law" "law" (defArgs s_law) (defBody s_law) (defScope s_law) .none kV_law dc_law pm_law an_law cd_law ct_law), sl_law⟩)
    (c_law : PySem.W.codeIn K cd_law "law" = true) (k_law : PySem.W.keepIn K (.ref f_law) = true)
    : ∃ fd : FuncData, (∀ (s : Shared) (v : Value), BindsTo s fd ⟨[v], []⟩ [("script", v)]) ∧ ∀ base : Heap, K.In base → base.Ns mainGlobals mg → FnOk l.prog w K mg base CX0 11 fa fd ["script"] (spTrue K) := by
  have T : TX l.prog K mg := {
    n_abs := PySem.W.mg_none_of X G z_abs
    n_all := PySem.W.mg_none_of X G z_all
    n_bool := PySem.W.mg_none_of X G z_bool
    n_enumerate := PySem.W.mg_none_of X G z_enumerate
    n_int := PySem.W.mg_none_of X G z_int
    n_isinstance := PySem.W.mg_none_of X G z_isinstance
    n_len := PySem.W.mg_none_of X G z_len
    n_list := PySem.W.mg_none_of X G z_list
    n_max := PySem.W.mg_none_of X G z_max
    n_range := PySem.W.mg_none_of X G z_range
    n_set := PySem.W.mg_none_of X G z_set
    n_sorted := PySem.W.mg_none_of X G z_sorted
    n_str := PySem.W.mg_none_of X G z_str
    n_tuple := PySem.W.mg_none_of X G z_tuple
    t_LONGEST_NAME := u_LONGEST_NAME
    c_LONGEST_NAME := PySem.W.mg_of X G z_LONGEST_NAME
    t_MOST_KINDS := u_MOST_KINDS
    c_MOST_KINDS := PySem.W.mg_of X G z_MOST_KINDS
    t_MOST_UNITS := u_MOST_UNITS
    c_MOST_UNITS := PySem.W.mg_of X G z_MOST_UNITS
    t_MOST_WAYS := u_MOST_WAYS
    c_MOST_WAYS := PySem.W.mg_of X G z_MOST_WAYS
    t_NAME_CHARACTERS := u_NAME_CHARACTERS
    c_NAME_CHARACTERS := PySem.W.mg_of X G z_NAME_CHARACTERS
    C_Task := c_Task
    q_Task := PySem.W.mg_of X G gC_Task
    cl_Task := ⟨pg_Task, hd_Task, po_Task, sa_Task⟩
    na_Task_name := na_Task_name
    na_Task_kinds := na_Task_kinds
    na_Task_ways := na_Task_ways
    a_law_row := f_law_row
    d_law_row := _
    F_law_row := fun_mk (st := s_law_row) l_law_row c_law_row k_law_row
    k_law_row := k_law_row
    m_law_row := PySem.W.mg_of X G g_law_row
    b_law_row := (fun_mk (st := s_law_row) l_law_row c_law_row k_law_row).binds (ps := ["cell", "many"]) fun _ _ _ _ _ _ us hl => match us, hl with | [_, _], _ => rfl
    a_law_numbers := f_law_numbers
    d_law_numbers := _
    F_law_numbers := fun_mk (st := s_law_numbers) l_law_numbers c_law_numbers k_law_numbers
    k_law_numbers := k_law_numbers
    m_law_numbers := PySem.W.mg_of X G g_law_numbers
    b_law_numbers := (fun_mk (st := s_law_numbers) l_law_numbers c_law_numbers k_law_numbers).binds (ps := ["script", "many"]) fun _ _ _ _ _ _ us hl => match us, hl with | [_, _], _ => rfl
    a_is_integer := f_is_integer
    d_is_integer := _
    F_is_integer := fun_mk (st := s_is_integer) l_is_integer c_is_integer k_is_integer
    k_is_integer := k_is_integer
    m_is_integer := PySem.W.mg_of X G g_is_integer
    b_is_integer := (fun_mk (st := s_is_integer) l_is_integer c_is_integer k_is_integer).binds (ps := ["value", "low", "high"]) fun _ _ _ _ _ _ us hl => match us, hl with | [_, _, _], _ => rfl
    a_is_name := f_is_name
    d_is_name := _
    F_is_name := fun_mk (st := s_is_name) l_is_name c_is_name k_is_name
    k_is_name := k_is_name
    m_is_name := PySem.W.mg_of X G g_is_name
    b_is_name := (fun_mk (st := s_is_name) l_is_name c_is_name k_is_name).binds (ps := ["value"]) fun _ _ _ _ _ _ us hl => match us, hl with | [_], _ => rfl
    a_is_kind := f_is_kind
    d_is_kind := _
    F_is_kind := fun_mk (st := s_is_kind) l_is_kind c_is_kind k_is_kind
    k_is_kind := k_is_kind
    m_is_kind := PySem.W.mg_of X G g_is_kind
    b_is_kind := (fun_mk (st := s_is_kind) l_is_kind c_is_kind k_is_kind).binds (ps := ["value"]) fun _ _ _ _ _ _ us hl => match us, hl with | [_], _ => rfl
    a_is_way := f_is_way
    d_is_way := _
    F_is_way := fun_mk (st := s_is_way) l_is_way c_is_way k_is_way
    k_is_way := k_is_way
    m_is_way := PySem.W.mg_of X G g_is_way
    b_is_way := (fun_mk (st := s_is_way) l_is_way c_is_way k_is_way).binds (ps := ["value", "kind_names"]) fun _ _ _ _ _ _ us hl => match us, hl with | [_, _], _ => rfl
    a_are_different := f_are_different
    d_are_different := _
    F_are_different := fun_mk (st := s_are_different) l_are_different c_are_different k_are_different
    k_are_different := k_are_different
    m_are_different := PySem.W.mg_of X G g_are_different
    b_are_different := (fun_mk (st := s_are_different) l_are_different c_are_different k_are_different).binds (ps := ["names"]) fun _ _ _ _ _ _ us hl => match us, hl with | [_], _ => rfl
    a_are_kinds := f_are_kinds
    d_are_kinds := _
    F_are_kinds := fun_mk (st := s_are_kinds) l_are_kinds c_are_kinds k_are_kinds
    k_are_kinds := k_are_kinds
    m_are_kinds := PySem.W.mg_of X G g_are_kinds
    b_are_kinds := (fun_mk (st := s_are_kinds) l_are_kinds c_are_kinds k_are_kinds).binds (ps := ["kinds"]) fun _ _ _ _ _ _ us hl => match us, hl with | [_], _ => rfl
    a_are_ways := f_are_ways
    d_are_ways := _
    F_are_ways := fun_mk (st := s_are_ways) l_are_ways c_are_ways k_are_ways
    k_are_ways := k_are_ways
    m_are_ways := PySem.W.mg_of X G g_are_ways
    b_are_ways := (fun_mk (st := s_are_ways) l_are_ways c_are_ways k_are_ways).binds (ps := ["ways", "kinds"]) fun _ _ _ _ _ _ us hl => match us, hl with | [_, _], _ => rfl
    a_Task_init__ := f_Task_init__
    d_Task_init__ := _
    F_Task_init__ := fun_mk (st := s_Task_init__) l_Task_init__ c_Task_init__ k_Task_init__
    k_Task_init__ := k_Task_init__
    mk_Task_init__ := ⟨mk_Task, at_Task_init__, is_Task_init__, kc_Task⟩
    kb_Task_init___1_kinds_ways := kbn_all fun us ws l1 l2 => match us, ws, l1, l2 with | [_, _], [_, _], _, _ => rfl
    a_Task_kind_number := f_Task_kind_number
    d_Task_kind_number := _
    F_Task_kind_number := fun_mk (st := s_Task_kind_number) l_Task_kind_number c_Task_kind_number k_Task_kind_number
    k_Task_kind_number := k_Task_kind_number
    me_Task_kind_number := ⟨at_Task_kind_number, is_Task_kind_number, k_Task_kind_number⟩
    b_Task_kind_number := (fun_mk (st := s_Task_kind_number) l_Task_kind_number c_Task_kind_number k_Task_kind_number).binds (ps := ["self", "kind_name"]) fun _ _ _ _ _ _ us hl => match us, hl with | [_, _], _ => rfl
    a_law_is_integer := f_law_is_integer
    d_law_is_integer := _
    F_law_is_integer := fun_mk (st := s_law_is_integer) l_law_is_integer c_law_is_integer k_law_is_integer
    k_law_is_integer := k_law_is_integer
    m_law_is_integer := PySem.W.mg_of X G g_law_is_integer
    b_law_is_integer := (fun_mk (st := s_law_is_integer) l_law_is_integer c_law_is_integer k_law_is_integer).binds (ps := ["actual"]) fun _ _ _ _ _ _ us hl => match us, hl with | [_], _ => rfl
    a_law_pick := f_law_pick
    d_law_pick := _
    F_law_pick := fun_mk (st := s_law_pick) l_law_pick c_law_pick k_law_pick
    k_law_pick := k_law_pick
    m_law_pick := PySem.W.mg_of X G g_law_pick
    b_law_pick := (fun_mk (st := s_law_pick) l_law_pick c_law_pick k_law_pick).binds (ps := ["numbers", "at", "count"]) fun _ _ _ _ _ _ us hl => match us, hl with | [_, _, _], _ => rfl
    a_law_scale := f_law_scale
    d_law_scale := _
    F_law_scale := fun_mk (st := s_law_scale) l_law_scale c_law_scale k_law_scale
    k_law_scale := k_law_scale
    m_law_scale := PySem.W.mg_of X G g_law_scale
    b_law_scale := (fun_mk (st := s_law_scale) l_law_scale c_law_scale k_law_scale).binds (ps := ["numbers"]) fun _ _ _ _ _ _ us hl => match us, hl with | [_], _ => rfl
    a_law_name := f_law_name
    d_law_name := _
    F_law_name := fun_mk (st := s_law_name) l_law_name c_law_name k_law_name
    k_law_name := k_law_name
    m_law_name := PySem.W.mg_of X G g_law_name
    b_law_name := (fun_mk (st := s_law_name) l_law_name c_law_name k_law_name).binds (ps := ["numbers", "k"]) fun _ _ _ _ _ _ us hl => match us, hl with | [_, _], _ => rfl
    a_law_kinds := f_law_kinds
    d_law_kinds := _
    F_law_kinds := fun_mk (st := s_law_kinds) l_law_kinds c_law_kinds k_law_kinds
    k_law_kinds := k_law_kinds
    m_law_kinds := PySem.W.mg_of X G g_law_kinds
    b_law_kinds := (fun_mk (st := s_law_kinds) l_law_kinds c_law_kinds k_law_kinds).binds (ps := ["numbers", "at", "most"]) fun _ _ _ _ _ _ us hl => match us, hl with | [_, _, _], _ => rfl
    a_law_ways := f_law_ways
    d_law_ways := _
    F_law_ways := fun_mk (st := s_law_ways) l_law_ways c_law_ways k_law_ways
    k_law_ways := k_law_ways
    m_law_ways := PySem.W.mg_of X G g_law_ways
    b_law_ways := (fun_mk (st := s_law_ways) l_law_ways c_law_ways k_law_ways).binds (ps := ["numbers", "at", "kinds", "most"]) fun _ _ _ _ _ _ us hl => match us, hl with | [_, _, _, _], _ => rfl
    a_law_number := f_law_number
    d_law_number := _
    F_law_number := fun_mk (st := s_law_number) l_law_number c_law_number k_law_number
    k_law_number := k_law_number
    m_law_number := PySem.W.mg_of X G g_law_number
    b_law_number := (fun_mk (st := s_law_number) l_law_number c_law_number k_law_number).binds (ps := ["kinds", "name"]) fun _ _ _ _ _ _ us hl => match us, hl with | [_, _], _ => rfl
    a_circuits_behind := f_circuits_behind
    d_circuits_behind := _
    F_circuits_behind := fun_mk (st := s_circuits_behind) l_circuits_behind c_circuits_behind k_circuits_behind
    k_circuits_behind := k_circuits_behind
    m_circuits_behind := PySem.W.mg_of X G g_circuits_behind
    b_circuits_behind := (fun_mk (st := s_circuits_behind) l_circuits_behind c_circuits_behind k_circuits_behind).binds (ps := ["ends", "sources", "path"]) fun _ _ _ _ _ _ us hl => match us, hl with | [_, _, _], _ => rfl
    a_circuits := f_circuits
    d_circuits := _
    F_circuits := fun_mk (st := s_circuits) l_circuits c_circuits k_circuits
    k_circuits := k_circuits
    m_circuits := PySem.W.mg_of X G g_circuits
    b_circuits := (fun_mk (st := s_circuits) l_circuits c_circuits k_circuits).binds (ps := ["task"]) fun _ _ _ _ _ _ us hl => match us, hl with | [_], _ => rfl
    a_circuits_behindn := f_circuits_behindn
    d_circuits_behindn := _
    F_circuits_behindn := fun_mk (st := s_circuits_behindn) l_circuits_behindn c_circuits_behindn k_circuits_behindn
    k_circuits_behindn := k_circuits_behindn
    m_circuits_behindn := PySem.W.mg_of X G g_circuits_behindn
    b_circuits_behindn := (fun_mk (st := s_circuits_behindn) l_circuits_behindn c_circuits_behindn k_circuits_behindn).binds (ps := ["ends", "sources", "path"]) fun _ _ _ _ _ _ us hl => match us, hl with | [_, _, _], _ => rfl
    a_law_closes := f_law_closes
    d_law_closes := _
    F_law_closes := fun_mk (st := s_law_closes) l_law_closes c_law_closes k_law_closes
    k_law_closes := k_law_closes
    m_law_closes := PySem.W.mg_of X G g_law_closes
    b_law_closes := (fun_mk (st := s_law_closes) l_law_closes c_law_closes k_law_closes).binds (ps := ["kinds", "ways", "circuit"]) fun _ _ _ _ _ _ us hl => match us, hl with | [_, _, _], _ => rfl
    a_law_circuits := f_law_circuits
    d_law_circuits := _
    F_law_circuits := fun_mk (st := s_law_circuits) l_law_circuits c_law_circuits k_law_circuits
    k_law_circuits := k_law_circuits
    m_law_circuits := PySem.W.mg_of X G g_law_circuits
    b_law_circuits := (fun_mk (st := s_law_circuits) l_law_circuits c_law_circuits k_law_circuits).binds (ps := ["kinds", "ways"]) fun _ _ _ _ _ _ us hl => match us, hl with | [_, _], _ => rfl
    a_circuitsn := f_circuitsn
    d_circuitsn := _
    F_circuitsn := fun_mk (st := s_circuitsn) l_circuitsn c_circuitsn k_circuitsn
    k_circuitsn := k_circuitsn
    m_circuitsn := PySem.W.mg_of X G g_circuitsn
    b_circuitsn := (fun_mk (st := s_circuitsn) l_circuitsn c_circuitsn k_circuitsn).binds (ps := ["task"]) fun _ _ _ _ _ _ us hl => match us, hl with | [_], _ => rfl
    a_law := f_law
    d_law := _
    F_law := fun_mk (st := s_law) l_law c_law k_law
    k_law := k_law
    m_law := PySem.W.mg_of X G g_law
    b_law := (fun_mk (st := s_law) l_law c_law k_law).binds (ps := ["script"]) fun _ _ _ _ _ _ us hl => match us, hl with | [_], _ => rfl
    e_law := fun s v => .of_eq rfl }
  have e : fa = T.a_law := Value.ref.inj (Option.some.inj (hfa.symm.trans T.m_law))
  subst e
  exact ⟨T.d_law, T.e_law, fun base _ _ => (ok_law (P := l.prog) (w := w) (base := base) T).imp fun vs H Q E h => spTrue_of law_true h⟩
theorem walk {l : PySem.W.OpenLaw} {q : Program} {loose : List Str} {XP : (Str → Option Value) → Heap → Prop} {YP : World → Heap → Prop} {d : DefRec} {K : Params → Frag} (hn : l.most = some 63) (hdf : d.params.defaults = [])
    (hY : ∀ (w : World) (h : Heap), YP w h → (K w.params).In h)
    (hF : ∀ (w : World) (mg : Mg) (fa : Addr) (h : Heap), (K w.params).In h → h.Ns mainGlobals mg → mg d.name = some (.ref fa) → ∃ fd : FuncData, (∀ (s : Shared) (u : Value), BindsTo s fd ⟨[u], []⟩ [("script", u)]) ∧
      ∀ base : Heap, (K w.params).In base → base.Ns mainGlobals mg → FnOk l.prog w (K w.params) mg base CX0 11 fa fd ["script"] (spTrue (K w.params))) : PySem.W.WalkO q loose XP YP l.row.toRowW d [] (fun f vs => PySem.call f vs) :=
  L2.walk_of (n := 63) (k := 11) (x := "script") (CX := fun _ => CX0) (sp := fun w => spTrue (K w.params)) hn (by decide) hdf ⟨rfl, by decide, by decide⟩ hY hF (fun _ _ a ns hl _ hS => ⟨a, ns, rfl, hS, hl, fun _ => rfl⟩) fun _ _ _ _ _ z => z
end
end My
open PySem PySem.W PyProof.Rows in
set_option maxRecDepth 100000 in
set_option maxHeartbeats 0 in
theorem PySem.Challenge.cw_neverlate_k25_all_circuits_holds : PySem.Challenge.rw_neverlate_k25_all_circuits.Holds := by
  w_on; o_law; k_head; (case hw => w_witness2)
  k_fill
  refine My.walk (l := PySem.Challenge.rw_neverlate_k25_all_circuits) rfl rfl (fun w h Y => PySem.W.kIn_of Y) ?hF
  case hF =>
    intro w mg fa h KX G hmg
    refine' My.all_mk KX G hmg ?z_abs ?z_all ?z_bool ?z_enumerate ?z_int ?z_isinstance ?z_len ?z_list ?z_max ?z_range ?z_set ?z_sorted ?z_str ?z_tuple ?z_LONGEST_NAME ?z_MOST_KINDS ?z_MOST_UNITS ?z_MOST_WAYS ?z_NAME_CHARACTERS ?gC_Task ?pg_Task ?hd_Task ?po_Task ?sa_Task ?na_Task_name ?na_Task_kinds ?na_Task_ways ?mk_Task ?kc_Task ?g_law_row ?l_law_row ?c_law_row ?k_law_row ?g_law_numbers ?l_law_numbers ?c_law_numbers ?k_law_numbers ?g_is_integer ?l_is_integer ?c_is_integer ?k_is_integer ?g_is_name ?l_is_name ?c_is_name ?k_is_name ?g_is_kind ?l_is_kind ?c_is_kind ?k_is_kind ?g_is_way ?l_is_way ?c_is_way ?k_is_way ?g_are_different ?l_are_different ?c_are_different ?k_are_different ?g_are_kinds ?l_are_kinds ?c_are_kinds ?k_are_kinds ?g_are_ways ?l_are_ways ?c_are_ways ?k_are_ways ?at_Task_init__ ?is_Task_init__ ?l_Task_init__ ?c_Task_init__ ?k_Task_init__ ?at_Task_kind_number ?is_Task_kind_number ?l_Task_kind_number ?c_Task_kind_number ?k_Task_kind_number ?g_law_is_integer ?l_law_is_integer ?c_law_is_integer ?k_law_is_integer ?g_law_pick ?l_law_pick ?c_law_pick ?k_law_pick ?g_law_scale ?l_law_scale ?c_law_scale ?k_law_scale ?g_law_name ?l_law_name ?c_law_name ?k_law_name ?g_law_kinds ?l_law_kinds ?c_law_kinds ?k_law_kinds ?g_law_ways ?l_law_ways ?c_law_ways ?k_law_ways ?g_law_number ?l_law_number ?c_law_number ?k_law_number ?g_circuits_behind ?l_circuits_behind ?c_circuits_behind ?k_circuits_behind ?g_circuits ?l_circuits ?c_circuits ?k_circuits ?g_circuits_behindn ?l_circuits_behindn ?c_circuits_behindn ?k_circuits_behindn ?g_law_closes ?l_law_closes ?c_law_closes ?k_law_closes ?g_law_circuits ?l_law_circuits ?c_law_circuits ?k_law_circuits ?g_circuitsn ?l_circuitsn ?c_circuitsn ?k_circuitsn ?g_law ?l_law ?c_law ?k_law
    (case z_abs => k_is)
    (case z_all => k_is)
    (case z_bool => k_is)
    (case z_enumerate => k_is)
    (case z_int => k_is)
    (case z_isinstance => k_is)
    (case z_len => k_is)
    (case z_list => k_is)
    (case z_max => k_is)
    (case z_range => k_is)
    (case z_set => k_is)
    (case z_sorted => k_is)
    (case z_str => k_is)
    (case z_tuple => k_is)
    (case z_LONGEST_NAME => k_is)
    (case z_MOST_KINDS => k_is)
    (case z_MOST_UNITS => k_is)
    (case z_MOST_WAYS => k_is)
    (case z_NAME_CHARACTERS => k_is)
    (case gC_Task => k_is)
    (case pg_Task => k_is)
    (case hd_Task => k_is)
    (case po_Task => k_is)
    (case sa_Task => k_is)
    (case na_Task_name => k_is)
    (case na_Task_kinds => k_is)
    (case na_Task_ways => k_is)
    (case mk_Task => k_is)
    (case kc_Task => k_is)
    (case g_law_row => k_is)
    (case l_law_row => k_is)
    (case c_law_row => k_is)
    (case k_law_row => k_is)
    (case g_law_numbers => k_is)
    (case l_law_numbers => k_is)
    (case c_law_numbers => k_is)
    (case k_law_numbers => k_is)
    (case g_is_integer => k_is)
    (case l_is_integer => k_is)
    (case c_is_integer => k_is)
    (case k_is_integer => k_is)
    (case g_is_name => k_is)
    (case l_is_name => k_is)
    (case c_is_name => k_is)
    (case k_is_name => k_is)
    (case g_is_kind => k_is)
    (case l_is_kind => k_is)
    (case c_is_kind => k_is)
    (case k_is_kind => k_is)
    (case g_is_way => k_is)
    (case l_is_way => k_is)
    (case c_is_way => k_is)
    (case k_is_way => k_is)
    (case g_are_different => k_is)
    (case l_are_different => k_is)
    (case c_are_different => k_is)
    (case k_are_different => k_is)
    (case g_are_kinds => k_is)
    (case l_are_kinds => k_is)
    (case c_are_kinds => k_is)
    (case k_are_kinds => k_is)
    (case g_are_ways => k_is)
    (case l_are_ways => k_is)
    (case c_are_ways => k_is)
    (case k_are_ways => k_is)
    (case at_Task_init__ => k_is)
    (case is_Task_init__ => k_is)
    (case l_Task_init__ => k_is)
    (case c_Task_init__ => k_is)
    (case k_Task_init__ => k_is)
    (case at_Task_kind_number => k_is)
    (case is_Task_kind_number => k_is)
    (case l_Task_kind_number => k_is)
    (case c_Task_kind_number => k_is)
    (case k_Task_kind_number => k_is)
    (case g_law_is_integer => k_is)
    (case l_law_is_integer => k_is)
    (case c_law_is_integer => k_is)
    (case k_law_is_integer => k_is)
    (case g_law_pick => k_is)
    (case l_law_pick => k_is)
    (case c_law_pick => k_is)
    (case k_law_pick => k_is)
    (case g_law_scale => k_is)
    (case l_law_scale => k_is)
    (case c_law_scale => k_is)
    (case k_law_scale => k_is)
    (case g_law_name => k_is)
    (case l_law_name => k_is)
    (case c_law_name => k_is)
    (case k_law_name => k_is)
    (case g_law_kinds => k_is)
    (case l_law_kinds => k_is)
    (case c_law_kinds => k_is)
    (case k_law_kinds => k_is)
    (case g_law_ways => k_is)
    (case l_law_ways => k_is)
    (case c_law_ways => k_is)
    (case k_law_ways => k_is)
    (case g_law_number => k_is)
    (case l_law_number => k_is)
    (case c_law_number => k_is)
    (case k_law_number => k_is)
    (case g_circuits_behind => k_is)
    (case l_circuits_behind => k_is)
    (case c_circuits_behind => k_is)
    (case k_circuits_behind => k_is)
    (case g_circuits => k_is)
    (case l_circuits => k_is)
    (case c_circuits => k_is)
    (case k_circuits => k_is)
    (case g_circuits_behindn => k_is)
    (case l_circuits_behindn => k_is)
    (case c_circuits_behindn => k_is)
    (case k_circuits_behindn => k_is)
    (case g_law_closes => k_is)
    (case l_law_closes => k_is)
    (case c_law_closes => k_is)
    (case k_law_closes => k_is)
    (case g_law_circuits => k_is)
    (case l_law_circuits => k_is)
    (case c_law_circuits => k_is)
    (case k_law_circuits => k_is)
    (case g_circuitsn => k_is)
    (case l_circuitsn => k_is)
    (case c_circuitsn => k_is)
    (case k_circuitsn => k_is)
    (case g_law => k_is)
    (case l_law => k_is)
    (case c_law => k_is)
    (case k_law => k_is)
