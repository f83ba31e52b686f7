import PyProof.Rows.All
import Wide.All
import OpenK.AllK
import Wide.FinOn
import HandS.ForMost
import HandS.ForExc
import HandS.IsInst
import HandS.Gcd
import HandS.Wide
import HandS.Property
import HandS.MakeKw
import HandS.MakeKwOnly
import HandS.Iter
import HandS.Strs
import HandS.Text
import KE.GoesMore
import PyProof.EnumMake
import KE.DataEq
import HandS.Style
import KE.KTupSum
import KE.DatumOrd
import HandS.SortKw
import HandS.Defaults
import KE.KMathGC
import KE.GoesZip
import KE.GoesEnum
import KE.SortData
import KE.DataCmp
import HandS.CallSlots
import HandS.ExcIs
import HandS.ExcField
import HandS.ExcInit
import HandS.Nested
import HandS.FStr
import HandS.ExcSuper
import HandS.TryOnly
import KE.KExcSuper
import KE.KExcIs
import PyProof.FitsInt
import PyProof.StrBlock2
import HandS.RaiseMore
import HandS.StrMore
import PyProof.NoPylong
import PyProof.Rows.RuleDivmod
import PyProof.Rows.InDataRows
import PyProof.StrLawsIn
import KE.IntTextLaws
import PySem.Challenge.RW_neverlate_k14_first_fault_of_releases
set_option Elab.async false
set_option linter.all false
set_option maxRecDepth 100000
set_option maxHeartbeats 0
namespace Nz
open PySem PySem.Spec PyProof.Rows L2
/-- data that never changes any more -/
inductive D where
  | non | bl (b : Bool) | int (i : Int) | str (s : Str)
  | tup (xs : List D) | lst (xs : List D) | obj (c : Str) (fs : List (Str × D))
abbrev Frag := PySem.W.Frag
abbrev Mg := Str → Option Value
mutual
inductive Rep (K : Frag) (mg : Mg) (F : Hp) : D → V → Prop
  | non : Rep K mg F .non .non
  | bl (b : Bool) : Rep K mg F (.bl b) (.bl b)
  | int (i : Int) : Rep K mg F (.int i) (.int i)
  | str (s : Str) : Rep K mg F (.str s) (.str s)
  | tup {a : Addr} {ds : List D} {vs : List V} : SqT K F a vs → Reps K mg F ds vs → Rep K mg F (.tup ds) (.ref a)
  | lst {a : Addr} {ds : List D} {vs : List V} : SqL K F a vs → Reps K mg F ds vs → Rep K mg F (.lst ds) (.ref a)
  | obj {a dx C : Addr} {c : Str} {fs : List (Str × D)} {vs : List (Str × V)} : mg c = some (.ref C) → F a = some (.ins C dx vs) → F dx = some (.own a) →
      RepF K mg F fs vs → Rep K mg F (.obj c fs) (.ref a)
inductive Reps (K : Frag) (mg : Mg) (F : Hp) : List D → List V → Prop
  | nil : Reps K mg F [] []
  | cons {d : D} {v : V} {ds : List D} {vs : List V} : Rep K mg F d v → Reps K mg F ds vs → Reps K mg F (d :: ds) (v :: vs)
inductive RepF (K : Frag) (mg : Mg) (F : Hp) : List (Str × D) → List (Str × V) → Prop
  | nil : RepF K mg F [] []
  | cons {n : Str} {d : D} {v : V} {ds : List (Str × D)} {vs : List (Str × V)} : Rep K mg F d v → RepF K mg F ds vs → RepF K mg F ((n, d) :: ds) ((n, v) :: vs)
end
theorem _root_.L2.Same.seqT {K : Frag} {H H' : Hp} {a : Addr} {xs : List V} (e : Same H H') (h : SqT K H a xs) : SqT K H' a xs := by
  rcases h with (h | ⟨o, h⟩) | h
  · exact .inl (.inl (e _ _ h))
  · exact .inl (.inr ⟨o, e _ _ h⟩)
  · exact .inr h
section
variable {K : Frag} {mg : Mg} {F F' : Hp}
mutual
theorem Rep.mono (s : Same F F') : ∀ {d : D} {v : V}, Rep K mg F d v → Rep K mg F' d v
  | _, _, .non => .non
  | _, _, .bl b => .bl b
  | _, _, .int i => .int i
  | _, _, .str x => .str x
  | _, _, .tup h r => .tup (s.seqT h) (Reps.mono s r)
  | _, _, .lst h r => .lst (s.seq h) (Reps.mono s r)
  | _, _, .obj m h1 h2 r => .obj m (s _ _ h1) (s _ _ h2) (RepF.mono s r)
theorem Reps.mono (s : Same F F') : ∀ {d : List D} {v : List V}, Reps K mg F d v → Reps K mg F' d v
  | _, _, .nil => .nil
  | _, _, .cons h r => .cons (Rep.mono s h) (Reps.mono s r)
theorem RepF.mono (s : Same F F') : ∀ {d : List (Str × D)} {v : List (Str × V)}, RepF K mg F d v → RepF K mg F' d v
  | _, _, .nil => .nil
  | _, _, .cons h r => .cons (Rep.mono s h) (RepF.mono s r)
end
theorem Reps.length : ∀ {ds : List D} {vs : List V}, Reps K mg F ds vs → ds.length = vs.length
  | _, _, .nil => rfl
  | _, _, .cons _ r => congrArg (· + 1) (Reps.length r)
theorem Reps.get : ∀ {ds : List D} {vs : List V} {i : Nat} {d : D}, Reps K mg F ds vs → ds[i]? = some d → ∃ v, vs[i]? = some v ∧ Rep K mg F d v
  | _, _, _, _, .nil, h => by simp at h
  | _, _, 0, _, .cons h r, e => by simp at e; subst e; exact ⟨_, rfl, h⟩
  | _, _, i + 1, _, .cons h r, e => by
    obtain ⟨v, h1, h2⟩ := Reps.get (i := i) r (by simpa using e)
    exact ⟨v, by simpa using h1, h2⟩
theorem Reps.append : ∀ {ds es : List D} {vs us : List V}, Reps K mg F ds vs → Reps K mg F es us → Reps K mg F (ds ++ es) (vs ++ us)
  | _, _, _, _, .nil, s => s
  | _, _, _, _, .cons h r, s => .cons h (r.append s)
theorem Reps.ints : ∀ {ns : List Int}, Reps K mg F (ns.map D.int) (ns.map V.int)
  | [] => .nil
  | _ :: ns => .cons (.int _) (Reps.ints (ns := ns))
theorem Reps.set : ∀ {ds : List D} {vs : List V} (i : Nat) {d : D} {v : V}, Reps K mg F ds vs → Rep K mg F d v → Reps K mg F (ds.set i d) (vs.set i v)
  | _, _, _, _, _, .nil, _ => .nil
  | _, _, 0, _, _, .cons _ r, h => .cons h r
  | _, _, i + 1, _, _, .cons q r, h => .cons q (r.set i h)
theorem Reps.take : ∀ {ds : List D} {vs : List V} (i : Nat), Reps K mg F ds vs → Reps K mg F (ds.take i) (vs.take i)
  | _, _, 0, _ => by simpa using Reps.nil
  | _, _, _ + 1, .nil => .nil
  | _, _, i + 1, .cons q r => .cons q (r.take i)
theorem Reps.drop : ∀ {ds : List D} {vs : List V} (i : Nat), Reps K mg F ds vs → Reps K mg F (ds.drop i) (vs.drop i)
  | _, _, 0, r => r
  | _, _, _ + 1, .nil => .nil
  | _, _, i + 1, .cons _ r => r.drop i
theorem RepF.look : ∀ {ds : List (Str × D)} {vs : List (Str × V)} {n : Str} {d : D}, RepF K mg F ds vs → ds.lookup n = some d → ∃ v, vs.lookup n = some v ∧ Rep K mg F d v
  | _, _, _, _, .nil, h => by simp at h
  | _, _, n, d, .cons (n := m) h r, e => by
    rw [List.lookup_cons] at e ⊢
    cases q : (n == m) with
    | true => rw [q] at e; cases e; exact ⟨_, rfl, h⟩
    | false => rw [q] at e; exact RepF.look r e
end
/-- a cell: frozen data, or the live object of this name -/
inductive Ce where
  | fr (d : D) | ad (n : Nat) | xv (u : V)
/-- a live object -/
inductive LO where
  | fl (ds : List D)                    -- a list of frozen data
  | cl (cs : List Ce)                   -- a list of cells
  | ins (c : Str) (fs : List (Str × Ce)) -- an instance
  | dT (kvs : List (List Key × D))
  | dK (kvs : List (Key × Ce))
/-- a state: the slots, the live objects -/
structure S where
  ρ : List (Option Ce)
  L : List (Nat × LO)
def names (L : List (Nat × LO)) : List Nat := L.map (·.1)
def CRel (K : Frag) (mg : Mg) (F : Hp) (α : Nat → Addr) (L : List (Nat × LO)) (c : Ce) (v : V) : Prop :=
  match c with
  | .fr d => Rep K mg F d v
  | .ad n => n ∈ names L ∧ v = .ref (α n)
  | .xv u => v = u
inductive CRels (K : Frag) (mg : Mg) (F : Hp) (α : Nat → Addr) (L : List (Nat × LO)) : List Ce → List V → Prop
  | nil : CRels K mg F α L [] []
  | cons {c : Ce} {v : V} {cs : List Ce} {vs : List V} : CRel K mg F α L c v → CRels K mg F α L cs vs → CRels K mg F α L (c :: cs) (v :: vs)
inductive CRelF (K : Frag) (mg : Mg) (F : Hp) (α : Nat → Addr) (L : List (Nat × LO)) : List (Str × Ce) → List (Str × V) → Prop
  | nil : CRelF K mg F α L [] []
  | cons {n : Str} {c : Ce} {v : V} {cs : List (Str × Ce)} {vs : List (Str × V)} : CRel K mg F α L c v → CRelF K mg F α L cs vs → CRelF K mg F α L ((n, c) :: cs) ((n, v) :: vs)
inductive CRelK {κ : Type} (K : Frag) (mg : Mg) (F : Hp) (α : Nat → Addr) (L : List (Nat × LO)) : List (κ × Ce) → List (κ × V) → Prop
  | nil : CRelK K mg F α L [] []
  | cons {n : κ} {c : Ce} {v : V} {cs : List (κ × Ce)} {vs : List (κ × V)} : CRel K mg F α L c v → CRelK K mg F α L cs vs → CRelK K mg F α L ((n, c) :: cs) ((n, v) :: vs)
/-- the slots -/
inductive SlR (K : Frag) (mg : Mg) (F : Hp) (α : Nat → Addr) (L : List (Nat × LO)) : List (Option Ce) → L2.St → Prop
  | nil : SlR K mg F α L [] []
  | no {o : Option V} {cs : List (Option Ce)} {vs : L2.St} : SlR K mg F α L cs vs → SlR K mg F α L (none :: cs) (o :: vs)
  | so {c : Ce} {v : V} {cs : List (Option Ce)} {vs : L2.St} : CRel K mg F α L c v → SlR K mg F α L cs vs → SlR K mg F α L (some c :: cs) (some v :: vs)
/-- what a def was entered with: the frozen heap, the heap, what it may change -/
structure Bd where
  F0 : Hp
  H0 : Hp
  fp : Addr → Prop
  pa : Nat → Option Addr
  hpa : ∀ n, 100 ≤ n → pa n = none
/-- the live object o stands at a -/
def LAt (K : Frag) (mg : Mg) (B : Bd) (F : Hp) (α : Nat → Addr) (L : List (Nat × LO)) (H : Hp) (a : Addr) : LO → Prop
  | .fl ds => ∃ vs, H a = some (.lst vs) ∧ Reps K mg F ds vs
  | .cl cs => ∃ vs, H a = some (.lst vs) ∧ CRels K mg F α L cs vs
  | .ins c fs => ∃ C dx vs, mg c = some (.ref C) ∧ H a = some (.ins C dx vs) ∧ H dx = some (.own a) ∧ F dx = none ∧ (B.H0 dx = none ∨ B.fp dx) ∧ CRelF K mg F α L fs vs
  | .dT kvs => ∃ vs, H a = some (.dT vs) ∧ Paired (fun (p : List Key × D) (q : List Key × V) => p.1 = q.1 ∧ Rep K mg F p.2 q.2) kvs vs
  | .dK kvs => ∃ vs, H a = some (.dK vs) ∧ CRelK K mg F α L kvs vs
structure Rel (K : Frag) (mg : Mg) (B : Bd) (F : Hp) (α : Nat → Addr) (H : Hp) (σ : L2.St) (S : S) : Prop where
  sub : Same F H
  bF : Same B.F0 F
  nF : ∀ b o, F b = some o → B.F0 b = some o ∨ B.H0 b = none ∨ B.fp b
  frame : ∀ b o, B.H0 b = some o → ¬ B.fp b → H b = some o
  nd : (names S.L).Nodup
  inj : ∀ n m, n ∈ names S.L → m ∈ names S.L → α n = α m → n = m
  live : ∀ n o, (n, o) ∈ S.L → F (α n) = none ∧ (B.H0 (α n) = none ∨ B.fp (α n)) ∧ LAt K mg B F α S.L H (α n) o
  slots : SlR K mg F α S.L S.ρ σ
  fix : ∀ n a, B.pa n = some a → n ∈ names S.L → α n = a
/-- a step keeps what is frozen, and the names of what lives -/
structure Stp (F : Hp) (α : Nat → Addr) (L : List (Nat × LO)) (F' : Hp) (α' : Nat → Addr) : Prop where
  fro : Same F F'
  nm : ∀ n, n ∈ names L → α' n = α n
def wE (X : Cx) (e : Expr) (σ : L2.St) (H : Hp) (Q : VK) : Prop :=
  ∀ pins s, Inv X pins σ H s → wpAny (model X.prog X.w) X.A (eval e X.env) (EP X pins σ Q) X.xe s
def wT (X : Cx) (e : Expr) (σ : L2.St) (H : Hp) (Q : Bool → Hp → Prop) : Prop :=
  ∀ pins s, Inv X pins σ H s → wpAny (model X.prog X.w) X.A (isTrue e X.env (eval e X.env)) (TP X pins σ Q) X.xe s
def wA (X : Cx) (es : List Expr) (σ : L2.St) (H : Hp) (Q : List V → Hp → Prop) : Prop :=
  ∀ pos pins s, Inv X pins σ H s → wpAny (model X.prog X.w) X.A (spliced (backTo pos (starEach es X.env))) (AP X pins σ Q) X.xe s
def wS (X : Cx) (st : Stmt) (D : Ends) (σ : L2.St) (H : Hp) : Prop :=
  ∀ pins s, Inv X pins σ H s → wpAny (model X.prog X.w) X.A (exec st X.env) (SP X pins D) X.xe s
def wSs (X : Cx) (st : List Stmt) (D : Ends) (σ : L2.St) (H : Hp) : Prop :=
  ∀ pins s, Inv X pins σ H s → wpAny (model X.prog X.w) X.A (execs st X.env) (SP X pins D) X.xe s
theorem pe_w {X : Cx} {e : Expr} : PE X e (wE X e) := ⟨fun pins s σ H Q I h => h pins s I⟩
theorem pt_w {X : Cx} {e : Expr} : PT X e (wT X e) := ⟨fun pins s σ H Q I h => h pins s I⟩
theorem pa_w {X : Cx} {e : List Expr} : PA X e (wA X e) := ⟨fun pos pins s σ H Q I h => h pos pins s I⟩
theorem ps_w {X : Cx} {e : Stmt} : PS X e (wS X e) := ⟨fun pins s σ H Q I h => h pins s I⟩
theorem pss_w {X : Cx} {e : List Stmt} : PSs X e (wSs X e) := ⟨fun pins s σ H Q I h => h pins s I⟩
theorem wE.of {X : Cx} {e : Expr} {t : TE} {σ : L2.St} {H : Hp} {Q : VK} (h : PE X e t) (q : t σ H Q) : wE X e σ H Q := fun pins s I => h.run pins s σ H Q I q
theorem wT.of {X : Cx} {e : Expr} {t : TT} {σ : L2.St} {H : Hp} {Q : Bool → Hp → Prop} (h : PT X e t) (q : t σ H Q) : wT X e σ H Q := fun pins s I => h.run pins s σ H Q I q
theorem wA.of {X : Cx} {e : List Expr} {t : TA} {σ : L2.St} {H : Hp} {Q : List V → Hp → Prop} (h : PA X e t) (q : t σ H Q) : wA X e σ H Q := fun pos pins s I => h.run pos pins s σ H Q I q
theorem wS.of {X : Cx} {e : Stmt} {t : TS} {σ : L2.St} {H : Hp} {D : Ends} (h : PS X e t) (q : t D σ H) : wS X e D σ H := fun pins s I => h.run pins s σ H D I q
theorem wSs.of {X : Cx} {e : List Stmt} {t : TS} {σ : L2.St} {H : Hp} {D : Ends} (h : PSs X e t) (q : t D σ H) : wSs X e D σ H := fun pins s I => h.run pins s σ H D I q
abbrev RelX (X : Cx) := Rel X.K X.mg
abbrev CR (X : Cx) := CRel X.K X.mg
/-- e in the state S gives c and leaves S' -/
def Ev (X : Cx) (B : Bd) (e : Expr) (S : S) (c : Ce) (S' : Nz.S) : Prop :=
  ∀ F α H σ Q, RelX X B F α H σ S → (∀ F' α' v H', RelX X B F' α' H' σ S' → Stp F α S.L F' α' → CR X F' α' S'.L c v → Q v H') → wE X e σ H Q
def Et (X : Cx) (B : Bd) (e : Expr) (S : S) (b : Bool) (S' : Nz.S) : Prop :=
  ∀ F α H σ Q, RelX X B F α H σ S → (∀ F' α' H', RelX X B F' α' H' σ S' → Stp F α S.L F' α' → Q b H') → wT X e σ H Q
def Ea (X : Cx) (B : Bd) (es : List Expr) (S : S) (cs : List Ce) (S' : Nz.S) : Prop :=
  ∀ F α H σ Q, RelX X B F α H σ S → (∀ F' α' vs H', RelX X B F' α' H' σ S' → Stp F α S.L F' α' → CRels X.K X.mg F' α' S'.L cs vs → Q vs H') → wA X es σ H Q
/-- how a statement ends -/
inductive Out where
  | nx (S : S) | ret (c : Ce) (S : S) | bk (S : S) | ct (S : S)
structure OutOk (X : Cx) (B : Bd) (F : Hp) (K : Out → Prop) (D : Ends) : Prop where
  nx : ∀ S' F' α' H' σ', K (.nx S') → RelX X B F' α' H' σ' S' → Same F F' → D.nx σ' H'
  bk : ∀ S' F' α' H' σ', K (.bk S') → RelX X B F' α' H' σ' S' → Same F F' → D.bk σ' H'
  ct : ∀ S' F' α' H' σ', K (.ct S') → RelX X B F' α' H' σ' S' → Same F F' → D.ct σ' H'
  ret : ∀ c S' F' α' H' σ' v, K (.ret c S') → RelX X B F' α' H' σ' S' → Same F F' → CR X F' α' S'.L c v → D.rt v H'
theorem OutOk.mono {X : Cx} {B : Bd} {F F' : Hp} {K : Out → Prop} {D : Ends} (h : OutOk X B F K D) (s : Same F F') : OutOk X B F' K D :=
  ⟨fun S' F1 α' H' σ' k r q => h.nx _ _ _ _ _ k r (s.trans q), fun S' F1 α' H' σ' k r q => h.bk _ _ _ _ _ k r (s.trans q), fun S' F1 α' H' σ' k r q => h.ct _ _ _ _ _ k r (s.trans q),
    fun c S' F1 α' H' σ' v k r q z => h.ret _ _ _ _ _ _ _ k r (s.trans q) z⟩
def Ex (X : Cx) (B : Bd) (st : Stmt) (S : S) (K : Out → Prop) : Prop :=
  ∀ F α H σ D, RelX X B F α H σ S → OutOk X B F K D → wS X st D σ H
def Exs (X : Cx) (B : Bd) (st : List Stmt) (S : S) (K : Out → Prop) : Prop :=
  ∀ F α H σ D, RelX X B F α H σ S → OutOk X B F K D → wSs X st D σ H
end Nz
namespace Nz
open PySem PySem.Spec PyProof.Rows L2
def getL (n : Nat) : List (Nat × LO) → Option LO
  | [] => none
  | (m, o) :: r => if n = m then some o else getL n r
def setL (n : Nat) (o : LO) : List (Nat × LO) → List (Nat × LO)
  | [] => []
  | (m, u) :: r => if n = m then (m, o) :: r else (m, u) :: setL n o r
theorem getL_mem : ∀ {L : List (Nat × LO)} {n : Nat} {o : LO}, getL n L = some o → (n, o) ∈ L
  | (m, u) :: r, n, o, h => by
    unfold getL at h
    split at h
    · rename_i e; cases h; rw [e]; exact List.mem_cons_self
    · exact List.mem_cons_of_mem _ (getL_mem h)
theorem mem_names {L : List (Nat × LO)} {n : Nat} {o : LO} (h : (n, o) ∈ L) : n ∈ names L := List.mem_map.mpr ⟨_, h, rfl⟩
theorem names_setL : ∀ (L : List (Nat × LO)) (n : Nat) (o : LO), names (setL n o L) = names L
  | [], _, _ => rfl
  | (m, u) :: r, n, o => by
    unfold setL
    split
    · rfl
    · show m :: names (setL n o r) = m :: names r
      rw [names_setL r n o]
theorem mem_setL : ∀ {L : List (Nat × LO)} {n m : Nat} {o u : LO}, (names L).Nodup → (m, u) ∈ setL n o L → (m = n ∧ u = o) ∨ (m ≠ n ∧ (m, u) ∈ L)
  | (k, w) :: r, n, m, o, u, nd, h => by
    have nd' : k ∉ names r ∧ (names r).Nodup := List.nodup_cons.mp nd
    unfold setL at h
    split at h
    · rename_i e
      subst e
      rcases List.mem_cons.mp h with h | h
      · cases h; exact .inl ⟨rfl, rfl⟩
      · exact .inr ⟨fun q => nd'.1 (q ▸ mem_names h), List.mem_cons_of_mem _ h⟩
    · rename_i e
      rcases List.mem_cons.mp h with h | h
      · cases h; exact .inr ⟨fun q => e q.symm, List.mem_cons_self⟩
      · rcases mem_setL nd'.2 h with h | ⟨h1, h2⟩
        · exact .inl h
        · exact .inr ⟨h1, List.mem_cons_of_mem _ h2⟩
section
variable {K : Frag} {mg : Mg} {F F' : Hp} {α α' : Nat → Addr} {L L' : List (Nat × LO)}
theorem Stp.refl : Stp F α L F α := ⟨Same.refl _, fun _ _ => rfl⟩
theorem Stp.trans {F2 : Hp} {α2 : Nat → Addr} (a : Stp F α L F' α') (b : Stp F' α' L' F2 α2) (s : ∀ n, n ∈ names L → n ∈ names L') : Stp F α L F2 α2 :=
  ⟨a.fro.trans b.fro, fun n h => (b.nm n (s n h)).trans (a.nm n h)⟩
theorem CRel.step (st : Stp F α L F' α') (hs : ∀ n, n ∈ names L → n ∈ names L') : ∀ {c : Ce} {v : V}, CRel K mg F α L c v → CRel K mg F' α' L' c v
  | .fr _, _, h => Rep.mono st.fro h
  | .ad n, _, ⟨h1, h2⟩ => ⟨hs n h1, by rw [h2, st.nm n h1]⟩
  | .xv _, _, h => h
theorem CRels.step (st : Stp F α L F' α') (hs : ∀ n, n ∈ names L → n ∈ names L') : ∀ {c : List Ce} {v : List V}, CRels K mg F α L c v → CRels K mg F' α' L' c v
  | _, _, .nil => .nil
  | _, _, .cons h r => .cons (h.step st hs) (r.step st hs)
theorem CRelF.step (st : Stp F α L F' α') (hs : ∀ n, n ∈ names L → n ∈ names L') : ∀ {c : List (Str × Ce)} {v : List (Str × V)}, CRelF K mg F α L c v → CRelF K mg F' α' L' c v
  | _, _, .nil => .nil
  | _, _, .cons h r => .cons (h.step st hs) (r.step st hs)
theorem CRelK.step {κ : Type} (st : Stp F α L F' α') (hs : ∀ n, n ∈ names L → n ∈ names L') : ∀ {c : List (κ × Ce)} {v : List (κ × V)}, CRelK K mg F α L c v → CRelK K mg F' α' L' c v
  | _, _, .nil => .nil
  | _, _, .cons h r => .cons (h.step st hs) (r.step st hs)
theorem SlR.step (st : Stp F α L F' α') (hs : ∀ n, n ∈ names L → n ∈ names L') : ∀ {c : List (Option Ce)} {v : L2.St}, SlR K mg F α L c v → SlR K mg F' α' L' c v
  | _, _, .nil => .nil
  | _, _, .no r => .no (r.step st hs)
  | _, _, .so h r => .so (h.step st hs) (r.step st hs)
theorem SlR.get : ∀ {c : List (Option Ce)} {σ : L2.St} {i : Nat} {x : Ce}, SlR K mg F α L c σ → c[i]? = some (some x) → ∃ v, σ[i]? = some (some v) ∧ CRel K mg F α L x v
  | _, _, _, _, .nil, h => by simp at h
  | _, _, 0, _, .no _, h => by simp at h
  | _, _, 0, _, .so h _, e => by simp at e; subst e; exact ⟨_, rfl, h⟩
  | _, _, i + 1, _, .no r, e => by
    obtain ⟨v, h1, h2⟩ := SlR.get (i := i) r (by simpa using e)
    exact ⟨v, by simpa using h1, h2⟩
  | _, _, i + 1, _, .so _ r, e => by
    obtain ⟨v, h1, h2⟩ := SlR.get (i := i) r (by simpa using e)
    exact ⟨v, by simpa using h1, h2⟩
theorem SlR.set : ∀ {c : List (Option Ce)} {σ : L2.St} (i : Nat) {x : Ce} {v : V}, SlR K mg F α L c σ → CRel K mg F α L x v → SlR K mg F α L (c.set i (some x)) (σ.set i (some v))
  | _, _, _, _, _, .nil, _ => .nil
  | _, _, 0, _, _, .no r, h => .so h r
  | _, _, 0, _, _, .so _ r, h => .so h r
  | _, _, i + 1, _, _, .no r, h => .no (r.set i h)
  | _, _, i + 1, _, _, .so q r, h => .so q (r.set i h)
theorem CRels.fr : ∀ {ds : List D} {vs : List V}, CRels K mg F α L (ds.map Ce.fr) vs → Reps K mg F ds vs
  | [], _, .nil => .nil
  | _ :: _, _, .cons h r => .cons h (CRels.fr r)
theorem CRels.length : ∀ {c : List Ce} {v : List V}, CRels K mg F α L c v → c.length = v.length
  | _, _, .nil => rfl
  | _, _, .cons _ r => congrArg (· + 1) r.length
theorem CRels.append : ∀ {c c' : List Ce} {v v' : List V}, CRels K mg F α L c v → CRels K mg F α L c' v' → CRels K mg F α L (c ++ c') (v ++ v')
  | _, _, _, _, .nil, s => s
  | _, _, _, _, .cons h r, s => .cons h (r.append s)
theorem CRels.get : ∀ {ds : List Ce} {vs : List V} {i : Nat} {d : Ce}, CRels K mg F α L ds vs → ds[i]? = some d → ∃ v, vs[i]? = some v ∧ CRel K mg F α L d v
  | _, _, _, _, .nil, h => by simp at h
  | _, _, 0, _, .cons h r, e => by simp at e; subst e; exact ⟨_, rfl, h⟩
  | _, _, i + 1, _, .cons h r, e => by
    obtain ⟨v, h1, h2⟩ := CRels.get (i := i) r (by simpa using e)
    exact ⟨v, by simpa using h1, h2⟩
theorem CRelF.look : ∀ {ds : List (Str × Ce)} {vs : List (Str × V)} {n : Str} {d : Ce}, CRelF K mg F α L ds vs → ds.lookup n = some d → ∃ v, vs.lookup n = some v ∧ CRel K mg F α L d v
  | _, _, _, _, .nil, h => by simp at h
  | _, _, n, d, .cons (n := m) h r, e => by
    rw [List.lookup_cons] at e ⊢
    cases q : (n == m) with
    | true => rw [q] at e; cases e; exact ⟨_, rfl, h⟩
    | false => rw [q] at e; exact CRelF.look r e
variable {B : Bd} {H H' : Hp} {a : Addr}
theorem Paired.imp {κ μ : Type} {R R' : κ → μ → Prop} (h : ∀ a b, R a b → R' a b) : ∀ {xs : List κ} {ys : List μ}, Paired R xs ys → Paired R' xs ys
  | _, _, .nil => .nil
  | _, _, .cons r t => .cons (h _ _ r) (Paired.imp h t)
theorem LAt.step {o : LO} (st : Stp F α L F' α') (hs : ∀ n, n ∈ names L → n ∈ names L') (hH : ∀ b u, H b = some u → H' b = some u) (hF : ∀ b u, F' b = some u → F b = some u ∨ H b = none)
    (h : LAt K mg B F α L H a o) : LAt K mg B F' α' L' H' a o := by
  cases o with
  | fl ds => obtain ⟨vs, e, r⟩ := h; exact ⟨vs, hH _ _ e, r.mono st.fro⟩
  | cl cs => obtain ⟨vs, e, r⟩ := h; exact ⟨vs, hH _ _ e, r.step st hs⟩
  | ins c fs =>
    obtain ⟨C, dx, vs, m, e1, e2, e3, e4, r⟩ := h
    refine ⟨C, dx, vs, m, hH _ _ e1, hH _ _ e2, ?_, e4, r.step st hs⟩
    cases q : F' dx with
    | none => rfl
    | some u =>
      rcases hF _ _ q with z | z
      · rw [e3] at z; cases z
      · rw [e2] at z; cases z
  | dT kvs => obtain ⟨vs, e, r⟩ := h; exact ⟨vs, hH _ _ e, Paired.imp (fun _ _ z => ⟨z.1, z.2.mono st.fro⟩) r⟩
  | dK kvs => obtain ⟨vs, e, r⟩ := h; exact ⟨vs, hH _ _ e, r.step st hs⟩
theorem LAt.is {o : LO} (h : LAt K mg B F α L H a o) : ∃ u, H a = some u := by
  cases o with
  | fl ds => obtain ⟨vs, e, r⟩ := h; exact ⟨_, e⟩
  | cl cs => obtain ⟨vs, e, r⟩ := h; exact ⟨_, e⟩
  | ins c fs => obtain ⟨C, dx, vs, m, e1, _⟩ := h; exact ⟨_, e1⟩
  | dT kvs => obtain ⟨vs, e, r⟩ := h; exact ⟨_, e⟩
  | dK kvs => obtain ⟨vs, e, r⟩ := h; exact ⟨_, e⟩
variable {σ : L2.St} {S : Nz.S}
/-- the heap grows, and what is frozen by new things -/
theorem Rel.grow (R : Rel K mg B F α H σ S) (hF : Same F F') (hH : Same H H') (hs : Same F' H') (hn : ∀ b u, F' b = some u → F b = some u ∨ H b = none) : Rel K mg B F' α H' σ S := by
  have st : Stp F α S.L F' α := ⟨hF, fun _ _ => rfl⟩
  refine ⟨hs, R.bF.trans hF, fun b o e => ?_, fun b o e n => hH _ _ (R.frame b o e n), R.nd, R.inj, fun n o h => ?_, R.slots.step st fun _ z => z, R.fix⟩
  · rcases hn b o e with z | z
    · exact R.nF b o z
    · refine .inr ?_
      by_cases f : B.fp b
      · exact .inr f
      · refine .inl ?_
        cases q : B.H0 b with
        | none => rfl
        | some u => rw [R.frame b u q f] at z; cases z
  · obtain ⟨h1, h2, h3⟩ := R.live n o h
    refine ⟨?_, h2, h3.step st (fun _ z => z) hH hn⟩
    cases q : F' (α n) with
    | none => rfl
    | some u =>
      obtain ⟨w', hw⟩ := h3.is
      rcases hn _ _ q with z | z
      · rw [h1] at z; cases z
      · rw [hw] at z; cases z
theorem same_upd {H : Hp} {p : Addr} {o : HO} (h : H p = none) : Same H (upd H p o) := fun b u e => by rw [upd_ne (ne_of_none e h)]; exact e
theorem Rel.fresh (R : Rel K mg B F α H σ S) {p : Addr} (h : H p = none) : F p = none := R.sub.free h
/-- a new frozen thing -/
theorem Rel.allocF (R : Rel K mg B F α H σ S) {p : Addr} {o : HO} (h : H p = none) : Rel K mg B (upd F p o) α (upd H p o) σ S := by
  refine R.grow (same_upd (R.fresh h)) (same_upd h) (fun b u e => ?_) fun b u e => ?_
  · by_cases q : b = p
    · subst q; rw [upd_same] at e ⊢; exact e
    · rw [upd_ne q] at e ⊢; exact R.sub b u e
  · by_cases q : b = p
    · subst q; exact .inr h
    · rw [upd_ne q] at e; exact .inl e
theorem stp_allocF {p : Addr} {o : HO} (h : F p = none) : Stp F α L (upd F p o) α := ⟨same_upd h, fun _ _ => rfl⟩
def setα (α : Nat → Addr) (n : Nat) (p : Addr) : Nat → Addr := fun m => if m = n then p else α m
theorem stp_setα {n : Nat} {p : Addr} (h : n ∉ names L) : Stp F α L F (setα α n p) := ⟨Same.refl _, fun m hm => by show (if m = n then p else α m) = α m; rw [if_neg (show ¬ m = n from fun q => h (by rw [← q]; exact hm))]⟩
theorem names_append (L : List (Nat × LO)) (n : Nat) (o : LO) : names (L ++ [(n, o)]) = names L ++ [n] := by simp [names]
/-- a new live thing -/
theorem Rel.allocL (R : Rel K mg B F α H σ S) {p : Addr} {o : HO} {n : Nat} {u : LO} (h : H p = none) (hn : n ∉ names S.L) (h100 : 100 ≤ n)
    (new : LAt K mg B F (setα α n p) (S.L ++ [(n, u)]) (upd H p o) p u) : Rel K mg B F (setα α n p) (upd H p o) σ ⟨S.ρ, S.L ++ [(n, u)]⟩ := by
  have st : Stp F α S.L F (setα α n p) := stp_setα hn
  have hsub : ∀ m, m ∈ names S.L → m ∈ names (S.L ++ [(n, u)]) := fun m hm => by rw [names_append]; exact List.mem_append_left _ hm
  have hself : setα α n p n = p := by unfold setα; rw [if_pos rfl]
  have hp0 : B.H0 p = none ∨ B.fp p := by
    by_cases f : B.fp p
    · exact .inr f
    · refine .inl ?_
      cases q : B.H0 p with
      | none => rfl
      | some w' => rw [R.frame p w' q f] at h; cases h
  refine ⟨fun b w' e => same_upd h b w' (R.sub b w' e), R.bF, R.nF, fun b w' e f => same_upd h b w' (R.frame b w' e f), ?_, ?_, ?_, R.slots.step st hsub, fun m a e hm => ?_⟩
  · rw [names_append]
    exact List.nodup_append.mpr ⟨R.nd, by simp, fun a ha b hb => by
      have : b = n := by simpa using hb
      subst this
      exact fun q => hn (q ▸ ha)⟩
  · have key : ∀ m, m ∈ names S.L → setα α n p m ≠ p := fun m hm e => by
      rw [st.nm m hm] at e
      obtain ⟨⟨m', o'⟩, h1, h2⟩ := List.mem_map.mp hm
      cases h2
      obtain ⟨w', hw⟩ := (R.live _ _ h1).2.2.is
      rw [e, h] at hw; cases hw
    intro a b ha hb e
    rw [names_append] at ha hb
    rcases List.mem_append.mp ha with ha' | ha' <;> rcases List.mem_append.mp hb with hb' | hb'
    · rw [st.nm a ha', st.nm b hb'] at e; exact R.inj a b ha' hb' e
    · have h2 : b = n := by simpa using hb'
      rw [h2, hself] at e
      exact absurd e (key a ha')
    · have h2 : a = n := by simpa using ha'
      rw [h2, hself] at e
      exact absurd e.symm (key b hb')
    · have h1 : a = n := by simpa using ha'
      have h2 : b = n := by simpa using hb'
      rw [h1, h2]
  · intro m o' hm
    rcases List.mem_append.mp hm with hm | hm
    · obtain ⟨h1, h2, h3⟩ := R.live m o' hm
      have e : setα α n p m = α m := st.nm m (mem_names hm)
      rw [e]
      exact ⟨h1, h2, h3.step st hsub (same_upd h) fun b w' z => .inl z⟩
    · have e : (m, o') = (n, u) := by simpa using hm
      cases e
      rw [hself]
      exact ⟨R.fresh h, hp0, new⟩
  · have hm : m ∈ names (S.L ++ [(n, u)]) := hm
    rw [names_append] at hm
    rcases List.mem_append.mp hm with hm | hm
    · rw [st.nm m hm]; exact R.fix m a e hm
    · have : m = n := by simpa using hm
      rw [this, B.hpa n h100] at e; cases e
/-- a live thing is changed -/
theorem Rel.write (R : Rel K mg B F α H σ S) {n : Nat} {o u : LO} {o' : HO} (hn : (n, o) ∈ S.L)
    (no : ∀ b y, H b = some (.own y) → b ≠ α n) (new : LAt K mg B F α (setL n u S.L) (upd H (α n) o') (α n) u)
    (oth : ∀ m w', (m, w') ∈ S.L → m ≠ n → LAt K mg B F α S.L H (α m) w' → LAt K mg B F α (setL n u S.L) (upd H (α n) o') (α m) w') :
    Rel K mg B F α (upd H (α n) o') σ ⟨S.ρ, setL n u S.L⟩ := by
  obtain ⟨f0, f1, f2⟩ := R.live n o hn
  obtain ⟨w0, hw0⟩ := f2.is
  have st : Stp F α S.L F α := Stp.refl
  have hsub : ∀ m, m ∈ names S.L → m ∈ names (setL n u S.L) := fun m hm => by rw [names_setL]; exact hm
  refine ⟨fun b w' e => ?_, R.bF, R.nF, fun b w' e f => ?_, by rw [names_setL]; exact R.nd, fun a b ha hb e => R.inj a b (by rw [names_setL] at ha; exact ha) (by rw [names_setL] at hb; exact hb) e, fun m w' hm => ?_, R.slots.step st hsub, fun m a e hm => R.fix m a e (by rw [names_setL] at hm; exact hm)⟩
  · rw [upd_ne (fun q => by rw [q, f0] at e; cases e)]; exact R.sub b w' e
  · have hb : b ≠ α n := fun q => by
      subst q
      rcases f1 with z | z
      · rw [z] at e; cases e
      · exact f z
    rw [upd_ne hb]; exact R.frame b w' e f
  · rcases mem_setL R.nd hm with ⟨h1, h2⟩ | ⟨h1, h2⟩
    · subst h1; subst h2
      exact ⟨f0, f1, new⟩
    · obtain ⟨g0, g1, g2⟩ := R.live m w' h2
      exact ⟨g0, g1, oth m w' h2 h1 g2⟩
theorem LAt.other {o : LO} {p : Addr} {w' : HO} (ne : a ≠ p) (no : ∀ b, H b = some (.own a) → b ≠ p) (hs : ∀ n, n ∈ names L → n ∈ names L') (h : LAt K mg B F α L H a o) : LAt K mg B F α L' (upd H p w') a o := by
  have st : Stp F α L F α := Stp.refl
  cases o with
  | fl ds => obtain ⟨vs, e, r⟩ := h; exact ⟨vs, by rw [upd_ne ne]; exact e, r⟩
  | cl cs => obtain ⟨vs, e, r⟩ := h; exact ⟨vs, by rw [upd_ne ne]; exact e, r.step st hs⟩
  | ins c fs => obtain ⟨C, dx, vs, m, e1, e2, e3, e4, r⟩ := h; exact ⟨C, dx, vs, m, by rw [upd_ne ne]; exact e1, by rw [upd_ne (no _ e2)]; exact e2, e3, e4, r.step st hs⟩
  | dT kvs => obtain ⟨vs, e, r⟩ := h; exact ⟨vs, by rw [upd_ne ne]; exact e, r⟩
  | dK kvs => obtain ⟨vs, e, r⟩ := h; exact ⟨vs, by rw [upd_ne ne]; exact e, r.step st hs⟩
theorem LAt.notown {o : LO} (h : LAt K mg B F α L H a o) : ∀ b y, H b = some (.own y) → b ≠ a := fun b y e q => by
  subst q
  cases o with
  | fl ds => obtain ⟨vs, e1, r⟩ := h; rw [e] at e1; cases e1
  | cl cs => obtain ⟨vs, e1, r⟩ := h; rw [e] at e1; cases e1
  | ins c fs => obtain ⟨C, dx, vs, m, e1, _⟩ := h; rw [e] at e1; cases e1
  | dT kvs => obtain ⟨vs, e1, r⟩ := h; rw [e] at e1; cases e1
  | dK kvs => obtain ⟨vs, e1, r⟩ := h; rw [e] at e1; cases e1
/-- .. in short -/
theorem Rel.put (R : Rel K mg B F α H σ S) {n : Nat} {o u : LO} {o' : HO} (hn : (n, o) ∈ S.L) (new : LAt K mg B F α (setL n u S.L) (upd H (α n) o') (α n) u) : Rel K mg B F α (upd H (α n) o') σ ⟨S.ρ, setL n u S.L⟩ := by
  have no := LAt.notown (R.live n o hn).2.2
  refine R.write hn no new fun m w' hm ne h => h.other (fun q => ne (R.inj _ _ (mem_names hm) (mem_names hn) q)) (fun b e => no b _ e) fun k hk => by rw [names_setL]; exact hk
end
end Nz
namespace Nz
open PySem PySem.Spec PyProof.Rows L2
def Sub (L L' : List (Nat × LO)) : Prop := ∀ n, n ∈ names L → n ∈ names L'
theorem Sub.refl {L : List (Nat × LO)} : Sub L L := fun _ h => h
theorem Sub.app {L M : List (Nat × LO)} : Sub L (L ++ M) := fun n h => by rw [names, List.map_append]; exact List.mem_append_left _ h
/-- the cell c looks like the list ds, the tuple ds -/
def AsL (L : List (Nat × LO)) (c : Ce) (ds : List D) : Prop :=
  match c with
  | .fr d => d = .lst ds
  | .ad n => getL n L = some (.fl ds)
  | .xv _ => False
section
variable {X : Cx} {B : Bd} {F : Hp} {α : Nat → Addr} {H : Hp} {σ : L2.St} {S : Nz.S}
theorem Rel.asL (R : RelX X B F α H σ S) {c : Ce} {ds : List D} {v : V} (h : AsL S.L c ds) (r : CR X F α S.L c v) : ∃ a vs, v = .ref a ∧ SqL X.K H a vs ∧ Reps X.K X.mg F ds vs := by
  cases c with
  | fr d =>
    have e : d = .lst ds := h
    subst e
    have r' : Rep X.K X.mg F (.lst ds) v := r
    cases r' with
    | lst h1 h2 => exact ⟨_, _, rfl, R.sub.seq h1, h2⟩
  | ad n =>
    obtain ⟨_, rfl⟩ := r
    obtain ⟨_, _, vs, e, q⟩ := R.live n _ (getL_mem h)
    exact ⟨_, vs, rfl, SqL.of e, q⟩
  | xv u => exact False.elim h
theorem Rel.asT (R : RelX X B F α H σ S) {ds : List D} {v : V} (r : Rep X.K X.mg F (.tup ds) v) : ∃ a vs, v = .ref a ∧ SqT X.K H a vs ∧ Reps X.K X.mg F ds vs := by
  cases r with
  | tup h1 h2 => exact ⟨_, _, rfl, R.sub.seqT h1, h2⟩
end
def Op2 (X : Cx) (f : Value → Value → Sem Value) (d1 d2 d : D) : Prop :=
  ∀ B F α H σ (S : Nz.S) (Q : VK) x y, RelX X B F α H σ S → Rep X.K X.mg F d1 x → Rep X.K X.mg F d2 y → (∀ F' α' v H', RelX X B F' α' H' σ S → Stp F α S.L F' α' → Rep X.K X.mg F' d v → Q v H') →
    ∀ pins s v u, Inv X pins σ H s → RelV x v → RelV y u → wpAny (model X.prog X.w) X.A (f v u) (EP X pins σ Q) X.xe s
theorem Op2.pure {X : Cx} {f : Value → Value → Sem Value} {d1 d2 d : D} {r : R2} {v : V} (h : OpR X f r) (hd : ∀ F, Rep X.K X.mg F d v)
    (hr : ∀ F H (Q : VK) x y, Same F H → Rep X.K X.mg F d1 x → Rep X.K X.mg F d2 y → Q v H → r x y H Q) : Op2 X f d1 d2 d :=
  fun B F α H σ S Q x y R rx ry k pins s v' u I rv ru => h pins s σ H x y v' u Q I rv ru (hr F H Q x y R.sub rx ry (k F α v H R Stp.refl (hd F)))
section
variable {X : Cx}
theorem op2I {f : Value → Value → Sem Value} {C : Int → Int → Prop} {g : Int → Int → V} {i j : Int} {d : D} (h : OpR X f (rI C g)) (hc : C i j) (hd : ∀ F, Rep X.K X.mg F d (g i j)) : Op2 X f (.int i) (.int j) d :=
  .pure h hd fun F H Q x y _ rx ry q => by cases rx; cases ry; exact ⟨_, _, rfl, rfl, hc, q⟩
theorem op2I0 {f : Value → Value → Sem Value} {g : Int → Int → V} {i j : Int} {d : D} (h : OpR X f (rI0 g)) (hd : ∀ F, Rep X.K X.mg F d (g i j)) : Op2 X f (.int i) (.int j) d :=
  .pure h hd fun F H Q x y _ rx ry q => by cases rx; cases ry; exact ⟨_, _, rfl, rfl, q⟩
theorem o_add {i j : Int} : Op2 X (binaryOp .Add) (.int i) (.int j) (.int (i + j)) := op2I0 op_add fun _ => .int _
theorem o_sub {i j : Int} : Op2 X (binaryOp .Sub) (.int i) (.int j) (.int (i - j)) := op2I0 op_sub fun _ => .int _
theorem o_mul {i j : Int} (h : CMul i j) : Op2 X (binaryOp .Mult) (.int i) (.int j) (.int (i * j)) := op2I op_mul h fun _ => .int _
theorem o_div {i j : Int} (h : 0 < j) (h' : j < 1073741824) : Op2 X (binaryOp .FloorDiv) (.int i) (.int j) (.int (i / j)) := op2I op_fdiv ⟨h, h'⟩ fun _ => .int _
theorem o_mod {i j : Int} (h : 0 < j) : Op2 X (binaryOp .Mod) (.int i) (.int j) (.int (i % j)) := op2I op_mod h fun _ => .int _
theorem o_pow {i j : Int} (h : CPow i j) : Op2 X (binaryOp .Pow) (.int i) (.int j) (.int (i ^ j.toNat)) := op2I op_pow h fun _ => .int _
theorem o_adds {i j : Str} (h : i.length + j.length ≤ sizeLine) : Op2 X (binaryOp .Add) (.str i) (.str j) (.str (i ++ j)) :=
  .pure (v := .str (i ++ j)) op_add_str (fun _ => .str _) fun F H Q x y _ rx ry q => by cases rx; cases ry; exact ⟨_, _, rfl, rfl, h, q⟩
theorem o_lt {i j : Int} : Op2 X (compareOp .Lt) (.int i) (.int j) (.bl (decide (i < j))) := op2I0 op_lt fun _ => .bl _
theorem o_le {i j : Int} : Op2 X (compareOp .LtE) (.int i) (.int j) (.bl (decide (i ≤ j))) := op2I0 op_le fun _ => .bl _
theorem o_gt {i j : Int} : Op2 X (compareOp .Gt) (.int i) (.int j) (.bl (decide (j < i))) := op2I0 op_gt fun _ => .bl _
theorem o_ge {i j : Int} : Op2 X (compareOp .GtE) (.int i) (.int j) (.bl (decide (j ≤ i))) := op2I0 op_ge fun _ => .bl _
theorem o_eqi {i j : Int} : Op2 X (compareOp .Eq) (.int i) (.int j) (.bl (decide (i = j))) :=
  .pure (v := .bl (decide (V.int i = V.int j))) op_eq (fun _ => by rw [show decide (V.int i = V.int j) = decide (i = j) from by simp]; exact .bl _) fun F H Q x y _ rx ry q => by cases rx; cases ry; exact ⟨rfl, q⟩
theorem o_nei {i j : Int} : Op2 X (compareOp .NotEq) (.int i) (.int j) (.bl (!decide (i = j))) :=
  .pure (v := .bl (!decide (V.int i = V.int j))) op_ne (fun _ => by rw [show decide (V.int i = V.int j) = decide (i = j) from by simp]; exact .bl _) fun F H Q x y _ rx ry q => by cases rx; cases ry; exact ⟨rfl, q⟩
theorem o_eqs {i j : Str} : Op2 X (compareOp .Eq) (.str i) (.str j) (.bl (decide (i = j))) :=
  .pure (v := .bl (decide (V.str i = V.str j))) op_eq (fun _ => by rw [show decide (V.str i = V.str j) = decide (i = j) from by simp]; exact .bl _) fun F H Q x y _ rx ry q => by cases rx; cases ry; exact ⟨rfl, q⟩
end
section
variable {X : Cx} {B : Bd} {S S1 S2 S3 : Nz.S} {a b c e : Expr} {es : List Expr} {pos p : Pos} {d d1 d2 d3 : D}
theorem ev_var (i : Nat) {x : Str} {c : Ce} (hN : X.N[i]? = some x) (hv : Vis X.env.scope x) (hρ : S.ρ[i]? = some (some c)) (hd : (x == ("__debug__" : Str)) = false := by decide) (hcd : (x == ("__classdict__" : Str)) = false := by decide) : Ev X B (.Name x pos) S c S :=
  fun F α H σ Q R k => wE.of (pe_var hN hv hd hcd) (by
    obtain ⟨v, e, r⟩ := R.slots.get hρ
    exact ⟨v, e, k F α v H R Stp.refl r⟩)
theorem ev_int {i : Int} {j pos} : Ev X B (.Constant (.int i) j pos) S (.fr (.int i)) S := fun F α H σ Q R k => wE.of pe_int (k F α _ H R Stp.refl (.int i))
theorem ev_bl {i : Bool} {j pos} : Ev X B (.Constant (.bool i) j pos) S (.fr (.bl i)) S := fun F α H σ Q R k => wE.of pe_bl (k F α _ H R Stp.refl (.bl i))
theorem ev_non {j pos} : Ev X B (.Constant .none j pos) S (.fr .non) S := fun F α H σ Q R k => wE.of pe_non (k F α _ H R Stp.refl .non)
theorem ev_str {i : Str} {j pos} : Ev X B (.Constant (.str i) j pos) S (.fr (.str i)) S := fun F α H σ Q R k => wE.of pe_str (k F α _ H R Stp.refl (.str i))
theorem ev_gi {x : Str} {i : Int} {t : Tok} (hg : Gl X x) (hm : X.mg x = some (.int i t)) (hd : (x == ("__debug__" : Str)) = false := by decide) : Ev X B (.Name x pos) S (.fr (.int i)) S :=
  fun F α H σ Q R k => wE.of (pe_glob (v := .int i) hg hm ⟨t, rfl⟩ hd) (k F α _ H R Stp.refl (.int i))
theorem ev_gs {x : Str} {i : Str} {t : Tok} (hg : Gl X x) (hm : X.mg x = some (.str i t)) (hd : (x == ("__debug__" : Str)) = false := by decide) : Ev X B (.Name x pos) S (.fr (.str i)) S :=
  fun F α H σ Q R k => wE.of (pe_glob (v := .str i) hg hm ⟨t, rfl⟩ hd) (k F α _ H R Stp.refl (.str i))
theorem ev_bin {op : Operator} (ho : Op2 X (binaryOp op) d1 d2 d) (ha : Ev X B a S (.fr d1) S1) (hb : Ev X B b S1 (.fr d2) S2) (h1 : Sub S.L S1.L := by exact Sub.refl) (h2 : Sub S1.L S2.L := by exact Sub.refl) : Ev X B (.BinOp a op b pos) S (.fr d) S2 :=
  fun F α H σ Q R k pins s I => by
    refine wpAny_BinOp (thn (ha F α H σ _ R (fun F1 α1 v1 H1 R1 st1 r1 => hb F1 α1 H1 σ (fun v2 H2 => ∃ F2 α2, RelX X B F2 α2 H2 σ S2 ∧ Stp F α S.L F2 α2 ∧ Rep X.K X.mg F2 d1 v1 ∧ Rep X.K X.mg F2 d2 v2) R1 fun F2 α2 v2 H2 R2 st2 r2 =>
      ⟨F2, α2, R2, st1.trans st2 h1, Rep.mono st2.fro r1, r2⟩) pins s I) fun v s1 ⟨x, H1, I1, rv, q1⟩ => thn (q1 pins s1 I1) fun u s2 ⟨y, H2, I2, ru, F2, α2, R2, st, r1, r2⟩ => ?_)
    exact ho B F2 α2 H2 σ S2 Q x y R2 r1 r2 (fun F' α' v' H' R' st' r' => k F' α' v' H' R' (st.trans st' fun n h => h2 n (h1 n h)) r') pins s2 v u I2 rv ru
theorem ev_cmp {op : CmpOp} (ho : Op2 X (compareOp op) d1 d2 d) (ha : Ev X B a S (.fr d1) S1) (hb : Ev X B b S1 (.fr d2) S2) (hm : behindInMarks op b = false) (h1 : Sub S.L S1.L := by exact Sub.refl) (h2 : Sub S1.L S2.L := by exact Sub.refl) : Ev X B (.Compare a [op] [b] pos) S (.fr d) S2 :=
  fun F α H σ Q R k pins s I => by
    refine wpAny_Compare1 (thn (ha F α H σ _ R (fun F1 α1 v1 H1 R1 st1 r1 => hb F1 α1 H1 σ (fun v2 H2 => ∃ F2 α2, RelX X B F2 α2 H2 σ S2 ∧ Stp F α S.L F2 α2 ∧ Rep X.K X.mg F2 d1 v1 ∧ Rep X.K X.mg F2 d2 v2) R1 fun F2 α2 v2 H2 R2 st2 r2 =>
      ⟨F2, α2, R2, st1.trans st2 h1, Rep.mono st2.fro r1, r2⟩) pins s I) fun v s1 ⟨x, H1, I1, rv, q1⟩ => thn (q1 pins s1 I1) fun u s2 ⟨y, H2, I2, ru, F2, α2, R2, st, r1, r2⟩ => ?_) hm
    exact ho B F2 α2 H2 σ S2 Q x y R2 r1 r2 (fun F' α' v' H' R' st' r' => k F' α' v' H' R' (st.trans st' fun n h => h2 n (h1 n h)) r') pins s2 v u I2 rv ru
theorem ev_not {i : Bool} (ha : Ev X B a S (.fr (.bl i)) S1) : Ev X B (.UnaryOp .Not a pos) S (.fr (.bl (!i))) S1 :=
  fun F α H σ Q R k => wE.of (pe_not pe_w) (ha F α H σ _ R fun F1 α1 v1 H1 R1 st1 r1 => by cases r1; exact ⟨_, rfl, k F1 α1 _ H1 R1 st1 (.bl _)⟩)
theorem ev_one {op : BoolOp} {c : Ce} (ha : Ev X B a S c S1) : Ev X B (.BoolOp op [a] pos) S c S1 :=
  fun F α H σ Q R k => wE.of (pe_one pe_w) (ha F α H σ _ R k)
theorem ev_and {i j : Bool} (ha : Ev X B a S (.fr (.bl i)) S) (hb : i = true → Ev X B (.BoolOp .And (b :: es) pos) S (.fr (.bl j)) S) : Ev X B (.BoolOp .And (a :: b :: es) pos) S (.fr (.bl (i && j))) S :=
  fun F α H σ Q R k => wE.of (pe_and pe_w pe_w) (ha F α H σ _ R fun F1 α1 v1 H1 R1 st1 r1 => by
    cases r1
    refine ⟨i, rfl, ?_⟩
    cases i with
    | true => rw [if_pos rfl]; exact hb rfl F1 α1 H1 σ _ R1 fun F2 α2 v2 H2 R2 st2 r2 => k F2 α2 v2 H2 R2 (st1.trans st2 Sub.refl) (by simpa using r2)
    | false => rw [if_neg Bool.false_ne_true]; exact k F1 α1 _ H1 R1 st1 (.bl _))
theorem ev_or {i j : Bool} (ha : Ev X B a S (.fr (.bl i)) S) (hb : i = false → Ev X B (.BoolOp .Or (b :: es) pos) S (.fr (.bl j)) S) : Ev X B (.BoolOp .Or (a :: b :: es) pos) S (.fr (.bl (i || j))) S :=
  fun F α H σ Q R k => wE.of (pe_or pe_w pe_w) (ha F α H σ _ R fun F1 α1 v1 H1 R1 st1 r1 => by
    cases r1
    refine ⟨i, rfl, ?_⟩
    cases i with
    | false => rw [if_neg Bool.false_ne_true]; exact hb rfl F1 α1 H1 σ _ R1 fun F2 α2 v2 H2 R2 st2 r2 => k F2 α2 v2 H2 R2 (st1.trans st2 Sub.refl) (by simpa using r2)
    | true => rw [if_pos rfl]; exact k F1 α1 _ H1 R1 st1 (.bl _))
/-- tests -/
theorem et_val {i : Bool} (ha : Ev X B a S (.fr (.bl i)) S1) (he : ∀ whole, isTrue a X.env whole = (do let v ← whole; standAt a.pos; holding [v] (truthy v)) := by intro _; rfl) : Et X B a S i S1 :=
  fun F α H σ Q R k => wT.of (pt_val pe_w he) (ha F α H σ _ R fun F1 α1 v1 H1 R1 st1 r1 => by cases r1; exact ⟨i, rfl, k F1 α1 H1 R1 st1⟩)
theorem et_cmp {op : CmpOp} {i : Bool} (ho : Op2 X (compareOp op) d1 d2 (.bl i)) (ha : Ev X B a S (.fr d1) S1) (hb : Ev X B b S1 (.fr d2) S2) (hm : behindInMarks op b = false) (h1 : Sub S.L S1.L := by exact Sub.refl) (h2 : Sub S1.L S2.L := by exact Sub.refl) : Et X B (.Compare a [op] [b] pos) S i S2 :=
  fun F α H σ Q R k pins s I => by
    refine wpAny_isTrue_Compare1 (thn (ha F α H σ _ R (fun F1 α1 v1 H1 R1 st1 r1 => hb F1 α1 H1 σ (fun v2 H2 => ∃ F2 α2, RelX X B F2 α2 H2 σ S2 ∧ Stp F α S.L F2 α2 ∧ Rep X.K X.mg F2 d1 v1 ∧ Rep X.K X.mg F2 d2 v2) R1 fun F2 α2 v2 H2 R2 st2 r2 =>
      ⟨F2, α2, R2, st1.trans st2 h1, Rep.mono st2.fro r1, r2⟩) pins s I) fun v s1 ⟨x, H1, I1, rv, q1⟩ => thn (q1 pins s1 I1) fun u s2 ⟨y, H2, I2, ru, F2, α2, R2, st, r1, r2⟩ => ?_) hm
    refine thn (ho B F2 α2 H2 σ S2 (fun v' H' => ∃ k, v' = .bl k ∧ Q k H') x y R2 r1 r2 (fun F' α' v' H' R' st' r' => by cases r'; exact ⟨i, rfl, k F' α' H' R' (st.trans st' fun n h => h2 n (h1 n h))⟩) pins s2 v u I2 rv ru) fun c s3 ⟨z, H3, I3, r3, k', e, q3⟩ => ?_
    subst e
    cases r3
    exact wpAny_truthy_bool ⟨H3, I3, q3⟩
theorem et_not {i : Bool} (ha : Et X B a S i S1) : Et X B (.UnaryOp .Not a pos) S (!i) S1 := fun F α H σ Q R k => wT.of (pt_not pt_w) (ha F α H σ _ R k)
/-- a chain of tests, whatever its whole -/
def Ew (X : Cx) (B : Bd) (e : Expr) (S : Nz.S) (b : Bool) : Prop :=
  ∀ F α H σ (Q : Bool → Hp → Prop), RelX X B F α H σ S → (∀ F' α' H', RelX X B F' α' H' σ S → Stp F α S.L F' α' → Q b H') → ∀ whole pins s, Inv X pins σ H s → wpAny (model X.prog X.w) X.A (isTrue e X.env whole) (TP X pins σ Q) X.xe s
def tW (X : Cx) (e : Expr) : TT := fun σ H Q => ∀ whole pins s, Inv X pins σ H s → wpAny (model X.prog X.w) X.A (isTrue e X.env whole) (TP X pins σ Q) X.xe s
theorem pw_w {e : Expr} : PW X e (tW X e) := ⟨fun whole pins s σ H Q I h => h whole pins s I⟩
theorem Ew.of {e : Expr} {t : TT} {i : Bool} (h : PW X e t) (q : ∀ F α H σ (Q : Bool → Hp → Prop), RelX X B F α H σ S → (∀ F' α' H', RelX X B F' α' H' σ S → Stp F α S.L F' α' → Q i H') → t σ H Q) : Ew X B e S i :=
  fun F α H σ Q R k whole pins s I => h.run whole pins s σ H Q I (q F α H σ Q R k)
theorem Ew.et {e : Expr} {i : Bool} (h : Ew X B e S i) : Et X B e S i S := fun F α H σ Q R k pins s I => h F α H σ Q R k _ pins s I
theorem ew_and1 {i : Bool} (ha : Et X B a S i S) : Ew X B (.BoolOp .And [a] pos) S i := .of (pw_and1 pt_w) fun F α H σ Q R k => ha F α H σ _ R k
theorem ew_or1 {i : Bool} (ha : Et X B a S i S) : Ew X B (.BoolOp .Or [a] pos) S i := .of (pw_or1 pt_w) fun F α H σ Q R k => ha F α H σ _ R k
theorem ew_and {i j : Bool} (ha : Et X B a S i S) (hb : i = true → Ew X B (.BoolOp .And (b :: es) pos) S j) : Ew X B (.BoolOp .And (a :: b :: es) pos) S (i && j) :=
  .of (pw_and pt_w pw_w) fun F α H σ Q R k => ha F α H σ _ R fun F1 α1 H1 R1 st1 => by
    cases i with
    | true => rw [if_pos rfl]; exact hb rfl F1 α1 H1 σ _ R1 fun F2 α2 H2 R2 st2 => by simpa using k F2 α2 H2 R2 (st1.trans st2 Sub.refl)
    | false => rw [if_neg Bool.false_ne_true]; simpa using k F1 α1 H1 R1 st1
theorem ew_or {i j : Bool} (ha : Et X B a S i S) (hb : i = false → Ew X B (.BoolOp .Or (b :: es) pos) S j) : Ew X B (.BoolOp .Or (a :: b :: es) pos) S (i || j) :=
  .of (pw_or pt_w pw_w) fun F α H σ Q R k => ha F α H σ _ R fun F1 α1 H1 R1 st1 => by
    cases i with
    | false => rw [if_neg Bool.false_ne_true]; exact hb rfl F1 α1 H1 σ _ R1 fun F2 α2 H2 R2 st2 => by simpa using k F2 α2 H2 R2 (st1.trans st2 Sub.refl)
    | true => rw [if_pos rfl]; simpa using k F1 α1 H1 R1 st1
theorem ea_nil : Ea X B [] S [] S := fun F α H σ Q R k => wA.of pa_nil (k F α _ H R Stp.refl .nil)
theorem ea_cons {c : Ce} {cs : List Ce} (ha : Ev X B a S c S1) (hr : Ea X B es S1 cs S2) (h1 : Sub S.L S1.L := by exact Sub.refl) (h2 : Sub S1.L S2.L := by exact Sub.refl) (hs : starEach (a :: es) X.env = (false, eval a X.env) :: starEach es X.env := by rfl) : Ea X B (a :: es) S (c :: cs) S2 :=
  fun F α H σ Q R k => wA.of (pa_cons pe_w pa_w hs) (ha F α H σ _ R fun F1 α1 v1 H1 R1 st1 r1 => hr F1 α1 H1 σ _ R1 fun F2 α2 vs H2 R2 st2 r2 => k F2 α2 _ H2 R2 (st1.trans st2 h1) (.cons (r1.step st2 h2) r2))
theorem ev_lst {ds : List D} (h : Ea X B es S (ds.map Ce.fr) S1) (hz : ds.length ≤ sizeLine) : Ev X B (.List es pos) S (.fr (.lst ds)) S1 :=
  fun F α H σ Q R k => wE.of (pe_lst pa_w) (h F α H σ _ R fun F1 α1 vs H1 R1 st1 r1 => by
    have r := r1.fr
    refine ⟨by rw [← r.length]; exact hz, fun p hp => ?_⟩
    have hf := R1.fresh hp
    exact k _ α1 _ _ (R1.allocF hp) ⟨st1.fro.trans (same_upd hf), st1.nm⟩ (Rep.lst (SqL.of upd_same) (r.mono (same_upd hf))))
theorem ev_tup {ds : List D} {k1} (h : Ea X B es S (ds.map Ce.fr) S1) (hz : ds.length ≤ sizeLine) : Ev X B (.Tuple es k1 pos) S (.fr (.tup ds)) S1 :=
  fun F α H σ Q R k => wE.of (pe_tup pa_w) (h F α H σ _ R fun F1 α1 vs H1 R1 st1 r1 => by
    have r := r1.fr
    refine ⟨by rw [← r.length]; exact hz, fun p hp => ?_⟩
    have hf := R1.fresh hp
    exact k _ α1 _ _ (R1.allocF hp) ⟨st1.fro.trans (same_upd hf), st1.nm⟩ (Rep.tup (SqT.of upd_same) (r.mono (same_upd hf))))
theorem ev_lstL (n : Nat) {ds : List D} (h : Ea X B es S (ds.map Ce.fr) S1) (hz : ds.length ≤ sizeLine) (hn : n ∉ names S1.L) (h100 : 100 ≤ n) (h1 : Sub S.L S1.L := by exact Sub.refl) : Ev X B (.List es pos) S (.ad n) ⟨S1.ρ, S1.L ++ [(n, .fl ds)]⟩ :=
  fun F α H σ Q R k => wE.of (pe_lst pa_w) (h F α H σ _ R fun F1 α1 vs H1 R1 st1 r1 => by
    have r := r1.fr
    refine ⟨by rw [← r.length]; exact hz, fun p hp => ?_⟩
    refine k F1 (setα α1 n p) _ _ (R1.allocL hp hn h100 ⟨vs, upd_same, r⟩) (st1.trans (stp_setα hn) h1) ⟨?_, ?_⟩
    · rw [names_append]; exact List.mem_append_right _ (List.mem_singleton.mpr rfl)
    · show V.ref p = V.ref (if n = n then p else α1 n)
      rw [if_pos rfl])
theorem ev_ixL {ca : Ce} {i : Int} {ds : List D} (ha : Ev X B a S ca S1) (hb : Ev X B b S1 (.fr (.int i)) S2) (hl : AsL S2.L ca ds) (hi : atI ds i = some d) (hs : PlainIx b := by exact fun _ _ => rfl) (h1 : Sub S.L S1.L := by exact Sub.refl) (h2 : Sub S1.L S2.L := by exact Sub.refl) :
    Ev X B (.Subscript a b pos) S (.fr d) S2 :=
  fun F α H σ Q R k => wE.of (pe_ix ix_list pe_w pe_w hs) (ha F α H σ _ R fun F1 α1 v1 H1 R1 st1 r1 => hb F1 α1 H1 σ _ R1 fun F2 α2 v2 H2 R2 st2 r2 => by
    obtain ⟨p, vs, rfl, hq, rs⟩ := R2.asL hl (r1.step st2 h2)
    cases r2
    obtain ⟨v, hv, rv⟩ : ∃ v, atI vs i = some v ∧ Rep X.K X.mg F2 d v := by
      unfold atI at hi ⊢
      rw [← rs.length]
      cases q : ixN ds.length i with
      | none => rw [q] at hi; cases hi
      | some j => rw [q] at hi; exact rs.get hi
    exact ⟨p, vs, i, v, rfl, rfl, hq, hv, k F2 α2 v H2 R2 (st1.trans st2 h1) rv⟩)
theorem ev_ixT {i : Int} {ds : List D} (ha : Ev X B a S (.fr (.tup ds)) S1) (hb : Ev X B b S1 (.fr (.int i)) S2) (hi : atI ds i = some d) (hs : PlainIx b := by exact fun _ _ => rfl) (h1 : Sub S.L S1.L := by exact Sub.refl) (h2 : Sub S1.L S2.L := by exact Sub.refl) :
    Ev X B (.Subscript a b pos) S (.fr d) S2 :=
  fun F α H σ Q R k => wE.of (pe_ix ix_tup pe_w pe_w hs) (ha F α H σ _ R fun F1 α1 v1 H1 R1 st1 r1 => hb F1 α1 H1 σ _ R1 fun F2 α2 v2 H2 R2 st2 r2 => by
    obtain ⟨p, vs, rfl, hq, rs⟩ := R2.asT (Rep.mono st2.fro r1)
    cases r2
    obtain ⟨v, hv, rv⟩ : ∃ v, atI vs i = some v ∧ Rep X.K X.mg F2 d v := by
      unfold atI at hi ⊢
      rw [← rs.length]
      cases q : ixN ds.length i with
      | none => rw [q] at hi; cases hi
      | some j => rw [q] at hi; exact rs.get hi
    exact ⟨p, vs, i, v, rfl, rfl, hq, hv, k F2 α2 v H2 R2 (st1.trans st2 h1) rv⟩)
end
end Nz
namespace Nz
open PySem PySem.Spec PyProof.Rows L2
def wI (X : Cx) (tg iter : Expr) (σ : L2.St) (H : Hp) (R : It → Hp → Prop) : Prop :=
  ∀ pins s, Inv X pins σ H s → wpAny (model X.prog X.w) X.A (eval iter X.env) (fun v s1 => wpAny (model X.prog X.w) X.A (pyIter v) (PIE X pins σ tg R) X.xe s1) X.xe s
theorem pi_w {X : Cx} {tg iter : Expr} : PI X tg iter (wI X tg iter) := ⟨fun pins s σ H R I h => h pins s I⟩
theorem wI.of {X : Cx} {tg iter : Expr} {t : TI} {σ : L2.St} {H : Hp} {R : It → Hp → Prop} (h : PI X tg iter t) (q : t σ H R) : wI X tg iter σ H R := fun pins s I => h.run pins s σ H R I q
structure JOk (K : Frag) (mg : Mg) (F : Hp) (J : It) (xs : List D) : Prop where
  go : ∀ (B : Bd) F' α H σ (S : Nz.S) (i : Nat) (d : D), Rel K mg B F' α H σ S → Same F F' → xs[i]? = some d → J.go i H ∧ ∀ x H', J.yld i H x H' → ∃ F2, Rel K mg B F2 α H' σ S ∧ Same F' F2 ∧ Rep K mg F2 d x
  stop : ∀ (B : Bd) F' α H σ (S : Nz.S) (i : Nat), Rel K mg B F' α H σ S → Same F F' → xs.length ≤ i → J.stop i H
def Src (X : Cx) (B : Bd) (tg iter : Expr) (S : Nz.S) (xs : List D) (S1 : Nz.S) : Prop :=
  ∀ F α H σ R, RelX X B F α H σ S → (∀ F' α' H' J, RelX X B F' α' H' σ S1 → Stp F α S.L F' α' → JOk X.K X.mg F' J xs → R J H') → wI X tg iter σ H R
section
variable {X : Cx} {B : Bd} {S S1 S2 S3 : Nz.S} {tg a b c e : Expr} {es : List Expr} {pos p : Pos} {d d1 d2 d3 : D} {xs : List D}
theorem src_list (h : Ev X B e S (.fr (.lst xs)) S1) : Src X B tg e S xs S1 := fun F α H σ R RR k => wI.of (pi_list pe_w) (h F α H σ _ RR fun F1 α1 v1 H1 R1 st1 r1 => by
  cases r1 with
  | lst h1 h2 =>
    rename_i a vs
    refine ⟨a, rfl, ⟨vs, R1.sub.seq h1⟩, k F1 α1 H1 _ R1 st1 ⟨fun B F' α H σ S i d R' hs hi => ?_, fun B F' α H σ S i R' hs hi => ⟨vs, R'.sub.seq (hs.seq h1), by rw [← h2.length]; exact hi⟩⟩⟩
    obtain ⟨v, hv, rv⟩ := h2.get hi
    refine ⟨⟨vs, v, R'.sub.seq (hs.seq h1), hv⟩, fun x H' y => ?_⟩
    obtain ⟨rfl, y⟩ := y
    have := y vs (R'.sub.seq (hs.seq h1))
    rw [hv] at this; cases this
    exact ⟨F', R', Same.refl _, rv.mono hs⟩)
theorem src_tup (h : Ev X B e S (.fr (.tup xs)) S1) : Src X B tg e S xs S1 := fun F α H σ R RR k => wI.of (pi_tup pe_w) (h F α H σ _ RR fun F1 α1 v1 H1 R1 st1 r1 => by
  cases r1 with
  | tup h1 h2 =>
    rename_i a vs
    refine ⟨a, rfl, ⟨vs, R1.sub.seqT h1⟩, k F1 α1 H1 _ R1 st1 ⟨fun B F' α H σ S i d R' hs hi => ?_, fun B F' α H σ S i R' hs hi => ⟨vs, R'.sub.seqT (hs.seqT h1), by rw [← h2.length]; exact hi⟩⟩⟩
    obtain ⟨v, hv, rv⟩ := h2.get hi
    refine ⟨⟨vs, v, R'.sub.seqT (hs.seqT h1), hv⟩, fun x H' y => ?_⟩
    obtain ⟨rfl, y⟩ := y
    have := y vs (R'.sub.seqT (hs.seqT h1))
    rw [hv] at this; cases this
    exact ⟨F', R', Same.refl _, rv.mono hs⟩)
/-- lo, lo + 1, .. -/
def rngD (lo : Int) (n : Nat) : List D := (List.range n).map fun (i : Nat) => D.int (lo + (i : Int))
theorem rngD_get {lo : Int} {n i : Nat} {d : D} (h : (rngD lo n)[i]? = some d) : i < n ∧ d = .int (lo + i) := by
  unfold rngD at h
  rw [List.getElem?_map] at h
  by_cases hi : i < n
  · rw [List.getElem?_range hi] at h
    exact ⟨hi, (Option.some.inj h).symm⟩
  · rw [List.getElem?_eq_none (by simpa using hi)] at h
    cases h
theorem rngD_len {lo : Int} {n : Nat} : (rngD lo n).length = n := by simp [rngD]
theorem jok_range {K : Frag} {mg : Mg} {F : Hp} {lo : Int} {n : Nat} : JOk K mg F (Itr lo n) (rngD lo n) :=
  ⟨fun B F' α H σ S i d R' hs hi => by
    obtain ⟨h1, rfl⟩ := rngD_get hi
    refine ⟨h1, fun x H' y => ?_⟩
    obtain ⟨rfl, rfl⟩ := y
    exact ⟨F', R', Same.refl _, .int _⟩, fun B F' α H σ S i R' hs hi => by rw [rngD_len] at hi; exact hi⟩
theorem src_range1 {j : Int} (h : Ea X B [a] S [.fr (.int j)] S1) (hg : Gl X "range") (hm : X.mg "range" = none) (h1 : -(2 ^ 62) ≤ j) (h2 : j < 2 ^ 62) (hs : starEach [a] X.env = [(false, eval a X.env)] := by rfl) : Src X B tg (.Call (.Name "range" p) [a] [] pos) S (rngD 0 j.toNat) S1 :=
  fun F α H σ R RR k => wI.of (pi_range1 hg hm pa_w hs) (h F α H σ _ RR fun F1 α1 vs H1 R1 st1 r1 => by
    cases r1 with
    | cons r1 r2 =>
      cases r2
      cases r1
      exact ⟨j, rfl, h1, h2, k F1 α1 H1 _ R1 st1 jok_range⟩)
def wG (X : Cx) (tg : Expr) (v : V) (σ : L2.St) (H : Hp) (Q : L2.St → Hp → Prop) : Prop :=
  ∀ pins s u, Inv X pins σ H s → RelV v u → wpAny (model X.prog X.w) X.A (assign tg X.env u) (fun _ s' => ∃ σ' H', Inv X pins σ' H' s' ∧ Q σ' H') X.xe s
theorem pg_w {tg : Expr} : PG X tg (fun v σ H Q => wG X tg v σ H Q) := ⟨fun pins s σ H v u Q I r h => h pins s u I r⟩
def Eg (X : Cx) (B : Bd) (tg : Expr) (c : Ce) (S S2 : Nz.S) : Prop :=
  ∀ F α H σ v Q, RelX X B F α H σ S → CR X F α S.L c v → (∀ σ' F' H', RelX X B F' α H' σ' S2 → Same F F' → Q σ' H') → wG X tg v σ H Q
def setS (S : Nz.S) (i : Nat) (c : Ce) : Nz.S := ⟨S.ρ.set i (some c), S.L⟩
theorem Rel.setS {K : Frag} {mg : Mg} {F : Hp} {α : Nat → Addr} {H : Hp} {σ : L2.St} (R : Rel K mg B F α H σ S) {i : Nat} {c : Ce} {v : V} (r : CRel K mg F α S.L c v) : Rel K mg B F α H (σ.set i (some v)) (setS S i c) :=
  ⟨R.sub, R.bF, R.nF, R.frame, R.nd, R.inj, R.live, R.slots.set i r, R.fix⟩
theorem eg_name (i : Nat) {x : Str} {c : Ce} (hN : X.N.Nodup) (hi : X.N[i]? = some x) (hx : Loc X.env.scope x) (hf : X.fn x = true ∨ X.env.scope.names.lookup x = some .local := by first | exact .inl rfl | exact .inr rfl | assumption) : Eg X B (.Name x pos) c S (setS S i c) :=
  fun F α H σ v Q R r k pins s u I ru => (pg_name hN hi hx hf).run pins s σ H v u Q I ru (k _ F H (R.setS r) (Same.refl _))
/-- several -/
def Egs (X : Cx) (B : Bd) (ts : List Expr) (cs : List D) (S S2 : Nz.S) : Prop :=
  ∀ F α H σ vs (Q : L2.St → Hp → Prop), RelX X B F α H σ S → Reps X.K X.mg F cs vs → (∀ σ' F' H', RelX X B F' α H' σ' S2 → Same F F' → Q σ' H') →
    ∀ pins s us, Inv X pins σ H s → Vals vs us → wpAny (model X.prog X.w) X.A (assignInOrder ((assignEach ts X.env).map (·.2)) us) (fun _ s' => ∃ σ' H', Inv X pins σ' H' s' ∧ Q σ' H') X.xe s
theorem egs_nil : Egs X B [] [] S S := fun F α H σ vs Q R r k pins s us I ru => by
  cases r
  cases ru
  exact assignInOrder_nil ⟨σ, H, I, k σ F H R (Same.refl _)⟩
theorem egs_cons {ds : List D} (h1 : Eg X B e (.fr d) S S1) (h2 : Egs X B es ds S1 S2) (hL : S1.L = S.L := by rfl) (hs : (assignEach (e :: es) X.env).map (·.2) = assign e X.env :: (assignEach es X.env).map (·.2) := by rfl) : Egs X B (e :: es) (d :: ds) S S2 :=
  fun F α H σ vs Q R r k pins s us I ru => by
    cases r with
    | cons r rr =>
      cases ru with
      | cons u uu =>
        rw [hs]
        refine assignInOrder_cons (thn (h1 F α H σ _ (fun σ1 H1 => ∃ F1, RelX X B F1 α H1 σ1 S1 ∧ Same F F1) R r (fun σ' F' H' R' s' => ⟨F', R', s'⟩) pins s _ I u) fun _ s1 ⟨σ1, H1, I1, F1, R1, sm⟩ => ?_)
        exact h2 F1 α H1 σ1 _ Q R1 (rr.mono sm) (fun σ' F' H' R' s' => k σ' F' H' R' (sm.trans s')) pins s1 _ I1 uu
theorem eg_tup {ds : List D} {k1} (hc : X.calm = true) (h : Egs X B es ds S S2) (hn : (assignEach es X.env).length = ds.length := by rfl) (hst : (assignEach es X.env).findIdx? (·.1) = none := by rfl) : Eg X B (.Tuple es k1 pos) (.fr (.tup ds)) S S2 :=
  fun F α H σ v Q R r k pins s u I ru => by
    cases (show Rep X.K X.mg F (.tup ds) v from r) with
    | tup hq hr =>
      have hq' := R.sub.seqT hq
      cases ru
      obtain ⟨its, rv, ht, hz⟩ := I.tuple hq'
      refine assign_Tuple_tuple (I.ok.hd hc) ht (by simp [hn, hr.length, rv.length]) hst fun h' hx => ?_
      have I1 : Inv X pins σ H { s with heap := h' } := I.kept (t' := s.toks) fun b o e => hx b o (Nat.ne_of_lt (Heap.lt_size e)) e
      exact h F α H σ _ Q R hr k pins _ _ I1 (by simpa using rv)
variable {K : Out → Prop} {st : Stmt} {sts body els : List Stmt}
def seqK (X : Cx) (B : Bd) (rest : List Stmt) (K : Out → Prop) : Out → Prop
  | .nx S => Exs X B rest S K
  | .ret c S => K (.ret c S)
  | .bk S => K (.bk S)
  | .ct S => K (.ct S)
theorem exs_nil (h : K (.nx S)) : Exs X B [] S K := fun F α H σ D R o => wSs.of pss_nil (o.nx S F α H σ h R (Same.refl _))
theorem exs_cons (h : Ex X B st S (seqK X B sts K)) : Exs X B (st :: sts) S K := fun F α H σ D R o => wSs.of (pss_cons ps_w pss_w) (h F α H σ _ R
  ⟨fun S' F' α' H' σ' k R' s' => k F' α' H' σ' D R' (o.mono s'), fun S' F' α' H' σ' k R' s' => o.bk S' F' α' H' σ' k R' s', fun S' F' α' H' σ' k R' s' => o.ct S' F' α' H' σ' k R' s',
    fun c S' F' α' H' σ' v k R' s' r => o.ret c S' F' α' H' σ' v k R' s' r⟩)
theorem exs_one (h : Ex X B st S K) : Exs X B [st] S K := fun F α H σ D R o => wSs.of (pss_one ps_w) (h F α H σ _ R o)
theorem ex_asg {cv : Ce} (he : Ev X B e S cv S1) (hg : Eg X B tg cv S1 S2) (k : K (.nx S2)) (hs : swapsWithSole [tg] e pos.line X.env = pure false := by rfl) (hw : swappedStores [tg] e X.env = pure none := by rfl)
    (h1 : (assignEach [tg] X.env).map (·.2) = [assign tg X.env] := by rfl) : Ex X B (.Assign [tg] e pos) S K := fun F α H σ D R o => wS.of (ps_asg pe_w pg_w hs hw h1) (he F α H σ _ R fun F1 α1 v1 H1 R1 st1 r1 =>
      hg F1 α1 H1 σ v1 _ R1 r1 fun σ' F' H' R' s' => o.nx S2 F' α1 H' σ' k R' (st1.fro.trans s'))
theorem ex_set (i : Nat) {x : Str} {c : Ce} {pos' : Pos} (he : Ev X B e S c S1) (k : K (.nx (setS S1 i c))) (hN : X.N.Nodup) (hi : X.N[i]? = some x) (hx : Loc X.env.scope x) (hs : swapsWith e (some (.Name x pos')) pos.line X.env = pure false := by rfl)
    (hf : X.fn x = true ∨ X.env.scope.names.lookup x = some .local := by first | exact .inl rfl | exact .inr rfl | assumption) : Ex X B (.Assign [.Name x pos'] e pos) S K :=
  fun F α H σ D R o => wS.of (ps_set hN hi hx pe_w hs hf) (he F α H σ _ R fun F1 α1 v1 H1 R1 st1 r1 => o.nx _ F1 α1 H1 _ k (R1.setS r1) st1.fro)
theorem ex_ret {c : Ce} (he : Ev X B e S c S1) (k : K (.ret c S1)) : Ex X B (.Return (some e) pos) S K := fun F α H σ D R o => wS.of (ps_ret pe_w) (he F α H σ _ R fun F1 α1 v1 H1 R1 st1 r1 => o.ret c S1 F1 α1 H1 σ v1 k R1 st1.fro r1)
theorem ex_expr {c : Ce} (he : Ev X B e S c S1) (k : K (.nx S1)) (hs : swapsWith e none pos.line X.env = pure false := by rfl) : Ex X B (.Expr e pos) S K := fun F α H σ D R o => wS.of (ps_expr pe_w hs) (he F α H σ _ R fun F1 α1 v1 H1 R1 st1 r1 => o.nx S1 F1 α1 H1 σ k R1 st1.fro)
theorem ex_if {i : Bool} (ht : Et X B e S i S1) (ha : i = true → Exs X B body S1 K) (hb : i = false → Exs X B els S1 K) : Ex X B (.If e body els pos) S K := fun F α H σ D R o => wS.of (ps_if pt_w pss_w pss_w) (ht F α H σ _ R fun F1 α1 H1 R1 st1 => by
  cases i with
  | true => rw [if_pos rfl]; exact ha rfl F1 α1 H1 σ D R1 (o.mono st1.fro)
  | false => rw [if_neg Bool.false_ne_true]; exact hb rfl F1 α1 H1 σ D R1 (o.mono st1.fro))
theorem Exs.mono {K' : Out → Prop} (h : Exs X B sts S K) (hk : ∀ o, K o → K' o) : Exs X B sts S K' := fun F α H σ D R o => h F α H σ D R
  ⟨fun S' F' α' H' σ' k => o.nx S' F' α' H' σ' (hk _ k), fun S' F' α' H' σ' k => o.bk S' F' α' H' σ' (hk _ k), fun S' F' α' H' σ' k => o.ct S' F' α' H' σ' (hk _ k), fun c S' F' α' H' σ' v k => o.ret c S' F' α' H' σ' v (hk _ k)⟩
theorem Ex.mono {K' : Out → Prop} (h : Ex X B st S K) (hk : ∀ o, K o → K' o) : Ex X B st S K' := fun F α H σ D R o => h F α H σ D R
  ⟨fun S' F' α' H' σ' k => o.nx S' F' α' H' σ' (hk _ k), fun S' F' α' H' σ' k => o.bk S' F' α' H' σ' (hk _ k), fun S' F' α' H' σ' k => o.ct S' F' α' H' σ' (hk _ k), fun c S' F' α' H' σ' v k => o.ret c S' F' α' H' σ' v (hk _ k)⟩
end
end Nz
namespace Nz
open PySem PySem.Spec PyProof.Rows L2
def delL (n : Nat) : List (Nat × LO) → List (Nat × LO)
  | [] => []
  | (m, o) :: r => if n = m then delL n r else (m, o) :: delL n r
def frC (n : Nat) (d : D) : Ce → Ce
  | .fr e => .fr e
  | .ad m => if n = m then .fr d else .ad m
  | .xv u => .xv u
def frO (n : Nat) (d : D) : LO → LO
  | .fl ds => .fl ds
  | .cl cs => .cl (cs.map (frC n d))
  | .ins c fs => .ins c (fs.map fun p => (p.1, frC n d p.2))
  | .dT kvs => .dT kvs
  | .dK kvs => .dK (kvs.map fun p => (p.1, frC n d p.2))
def frS (n : Nat) (d : D) (S : Nz.S) : Nz.S := ⟨S.ρ.map (Option.map (frC n d)), (delL n S.L).map fun p => (p.1, frO n d p.2)⟩
section
variable {K : Frag} {mg : Mg} {B : Bd} {F F' : Hp} {α α' : Nat → Addr} {L L' : List (Nat × LO)} {H H' : Hp} {σ : L2.St} {S : Nz.S}
theorem mem_delL : ∀ {L : List (Nat × LO)} {n m : Nat} {o : LO}, (m, o) ∈ delL n L ↔ m ≠ n ∧ (m, o) ∈ L
  | [], n, m, o => by simp [delL]
  | (k, u) :: r, n, m, o => by
    unfold delL
    by_cases q : n = k
    · subst q
      rw [if_pos rfl, mem_delL, List.mem_cons]
      constructor
      · rintro ⟨h1, h2⟩; exact ⟨h1, .inr h2⟩
      · rintro ⟨h1, h2 | h2⟩
        · cases h2; exact absurd rfl h1
        · exact ⟨h1, h2⟩
    · rw [if_neg q, List.mem_cons, mem_delL, List.mem_cons]
      constructor
      · rintro (h | ⟨h1, h2⟩)
        · cases h; exact ⟨fun z => q z.symm, .inl rfl⟩
        · exact ⟨h1, .inr h2⟩
      · rintro ⟨h1, h2 | h2⟩
        · exact .inl h2
        · exact .inr ⟨h1, h2⟩
theorem names_delL {n m : Nat} : m ∈ names (delL n L) ↔ m ≠ n ∧ m ∈ names L := by
  constructor
  · intro h
    obtain ⟨⟨a, o⟩, h1, h2⟩ := List.mem_map.mp h
    have h2 : a = m := h2
    subst h2
    obtain ⟨h3, h4⟩ := mem_delL.mp h1
    exact ⟨h3, mem_names h4⟩
  · rintro ⟨h1, h2⟩
    obtain ⟨⟨a, o⟩, h3, h4⟩ := List.mem_map.mp h2
    have h4 : a = m := h4
    subst h4
    exact mem_names (mem_delL.mpr ⟨h1, h3⟩)
theorem names_frS {n : Nat} {d : D} : names ((delL n L).map fun p => (p.1, frO n d p.2)) = names (delL n L) := by simp [names]
theorem nodup_delL {n : Nat} (h : (names L).Nodup) : (names (delL n L)).Nodup := by
  refine h.sublist (List.Sublist.map _ ?_)
  induction L with
  | nil => exact .slnil
  | cons p r ih =>
    obtain ⟨m, o⟩ := p
    have ih' := ih (List.nodup_cons.mp h).2
    unfold delL
    split
    · exact .cons _ ih'
    · exact .cons₂ _ ih'
theorem CRel.freeze {n : Nat} {d : D} (hF : Same F F') (hd : Rep K mg F' d (.ref (α n))) : ∀ {c : Ce} {v : V}, CRel K mg F α L c v → CRel K mg F' α ((delL n L).map fun p => (p.1, frO n d p.2)) (frC n d c) v
  | .fr e, v, h => Rep.mono hF h
  | .ad m, v, ⟨h1, h2⟩ => by
    subst h2
    show CRel K mg F' α _ (if n = m then .fr d else .ad m) _
    by_cases q : n = m
    · subst q; rw [if_pos rfl]; exact hd
    · rw [if_neg q]
      exact ⟨by rw [names_frS]; exact names_delL.mpr ⟨fun z => q z.symm, h1⟩, rfl⟩
  | .xv _, _, h => h
theorem CRels.freeze {n : Nat} {d : D} (hF : Same F F') (hd : Rep K mg F' d (.ref (α n))) : ∀ {c : List Ce} {v : List V}, CRels K mg F α L c v → CRels K mg F' α ((delL n L).map fun p => (p.1, frO n d p.2)) (c.map (frC n d)) v
  | _, _, .nil => .nil
  | _, _, .cons h r => .cons (h.freeze hF hd) (r.freeze hF hd)
theorem CRelF.freeze {n : Nat} {d : D} (hF : Same F F') (hd : Rep K mg F' d (.ref (α n))) : ∀ {c : List (Str × Ce)} {v : List (Str × V)}, CRelF K mg F α L c v → CRelF K mg F' α ((delL n L).map fun p => (p.1, frO n d p.2)) (c.map fun p => (p.1, frC n d p.2)) v
  | _, _, .nil => .nil
  | _, _, .cons h r => .cons (h.freeze hF hd) (r.freeze hF hd)
theorem CRelK.freeze {κ : Type} {n : Nat} {d : D} (hF : Same F F') (hd : Rep K mg F' d (.ref (α n))) : ∀ {c : List (κ × Ce)} {v : List (κ × V)}, CRelK K mg F α L c v → CRelK K mg F' α ((delL n L).map fun p => (p.1, frO n d p.2)) (c.map fun p => (p.1, frC n d p.2)) v
  | _, _, .nil => .nil
  | _, _, .cons h r => .cons (h.freeze hF hd) (r.freeze hF hd)
theorem SlR.freeze {n : Nat} {d : D} (hF : Same F F') (hd : Rep K mg F' d (.ref (α n))) : ∀ {c : List (Option Ce)} {v : L2.St}, SlR K mg F α L c v → SlR K mg F' α ((delL n L).map fun p => (p.1, frO n d p.2)) (c.map (Option.map (frC n d))) v
  | _, _, .nil => .nil
  | _, _, .no r => .no (r.freeze hF hd)
  | _, _, .so h r => .so (h.freeze hF hd) (r.freeze hF hd)
/-- a live list whose items are frozen is frozen -/
theorem Rel.freeze (R : Rel K mg B F α H σ S) {n : Nat} {ds : List D} (hn : getL n S.L = some (.fl ds)) :
    ∃ F', Rel K mg B F' α H σ (frS n (.lst ds) S) ∧ Stp F α S.L F' α ∧ Rep K mg F' (.lst ds) (.ref (α n)) ∧ ∀ c v, CRel K mg F α S.L c v → CRel K mg F' α (frS n (.lst ds) S).L (frC n (.lst ds) c) v := by
  obtain ⟨f0, f1, vs, e, r⟩ := R.live n _ (getL_mem hn)
  have hF : Same F (upd F (α n) (.lst vs)) := same_upd f0
  have hd : Rep K mg (upd F (α n) (.lst vs)) (.lst ds) (.ref (α n)) := .lst (SqL.of upd_same) (r.mono hF)
  refine ⟨upd F (α n) (.lst vs), ⟨fun b u q => ?_, R.bF.trans hF, fun b u q => ?_, R.frame, ?_, fun a b ha hb => ?_, fun m o hm => ?_, R.slots.freeze hF hd, fun m a e hm => R.fix m a e (names_delL.mp (by rw [← names_frS]; exact hm)).2⟩, ⟨hF, fun _ _ => rfl⟩, hd, fun c v h => h.freeze hF hd⟩
  · by_cases z : b = α n
    · subst z; rw [upd_same] at q; rw [e]; exact q
    · rw [upd_ne z] at q; exact R.sub b u q
  · by_cases z : b = α n
    · subst z; exact .inr f1
    · rw [upd_ne z] at q; exact R.nF b u q
  · show (names ((delL n S.L).map fun p => (p.1, frO n (.lst ds) p.2))).Nodup
    rw [names_frS]; exact nodup_delL R.nd
  · have ha : a ∈ names ((delL n S.L).map fun p => (p.1, frO n (.lst ds) p.2)) := ha
    have hb : b ∈ names ((delL n S.L).map fun p => (p.1, frO n (.lst ds) p.2)) := hb
    rw [names_frS] at ha hb
    exact R.inj a b (names_delL.mp ha).2 (names_delL.mp hb).2
  · obtain ⟨⟨m', o'⟩, h1, h2⟩ := List.mem_map.mp hm
    cases h2
    obtain ⟨h3, h4⟩ := mem_delL.mp h1
    obtain ⟨g0, g1, g2⟩ := R.live m' o' h4
    have ne : α m' ≠ α n := fun q => h3 (R.inj _ _ (mem_names h4) (mem_names (getL_mem hn)) q)
    refine ⟨(upd_ne ne).trans g0, g1, ?_⟩
    cases o' with
    | fl ds' => obtain ⟨us, e1, r1⟩ := g2; exact ⟨us, e1, r1.mono hF⟩
    | cl cs => obtain ⟨us, e1, r1⟩ := g2; exact ⟨us, e1, r1.freeze hF hd⟩
    | ins c fs =>
      obtain ⟨C, dx, us, m1, e1, e2, e3, e4, r1⟩ := g2
      exact ⟨C, dx, us, m1, e1, e2, by rw [upd_ne (fun q => by rw [q, e] at e2; cases e2)]; exact e3, e4, r1.freeze hF hd⟩
    | dT kvs => obtain ⟨us, e1, r1⟩ := g2; exact ⟨us, e1, Paired.imp (fun _ _ z => ⟨z.1, z.2.mono hF⟩) r1⟩
    | dK kvs => obtain ⟨us, e1, r1⟩ := g2; exact ⟨us, e1, r1.freeze hF hd⟩
/-- an object's cells speak of L alone -/
theorem CRel.res : ∀ {c : Ce} {v v1 : V} {F1 : Hp} {α1 : Nat → Addr} {mg1 : Mg}, CRel K mg F α L' c v → CRel K mg1 F1 α1 L c v1 → CRel K mg F α L c v
  | .fr _, _, _, _, _, _, h, _ => h
  | .ad n, _, _, _, _, _, ⟨_, h2⟩, ⟨h3, _⟩ => ⟨h3, h2⟩
  | .xv _, _, _, _, _, _, h, _ => h
theorem CRels.res : ∀ {c : List Ce} {v v1 : List V} {F1 : Hp} {α1 : Nat → Addr}, CRels K mg F α L' c v → CRels K mg F1 α1 L c v1 → CRels K mg F α L c v
  | _, _, _, _, _, .nil, .nil => .nil
  | _, _, _, _, _, .cons h r, .cons h' r' => .cons (h.res h') (r.res r')
theorem CRelF.res : ∀ {c : List (Str × Ce)} {v v1 : List (Str × V)} {F1 : Hp} {α1 : Nat → Addr}, CRelF K mg F α L' c v → CRelF K mg F1 α1 L c v1 → CRelF K mg F α L c v
  | _, _, _, _, _, .nil, .nil => .nil
  | _, _, _, _, _, .cons h r, .cons h' r' => .cons (h.res h') (r.res r')
theorem CRelK.res {κ : Type} : ∀ {c : List (κ × Ce)} {v v1 : List (κ × V)} {F1 : Hp} {α1 : Nat → Addr}, CRelK K mg F α L' c v → CRelK K mg F1 α1 L c v1 → CRelK K mg F α L c v
  | _, _, _, _, _, .nil, .nil => .nil
  | _, _, _, _, _, .cons h r, .cons h' r' => .cons (h.res h') (r.res r')
theorem LAt.res {a a1 : Addr} {o : LO} {F1 H1 : Hp} {α1 : Nat → Addr} (h : LAt K mg B F α L' H a o) (h1 : LAt K mg B F1 α1 L H1 a1 o) : LAt K mg B F α L H a o := by
  cases o with
  | fl ds => exact h
  | cl cs => obtain ⟨us, e1, r1⟩ := h; obtain ⟨_, _, q⟩ := h1; exact ⟨us, e1, r1.res q⟩
  | ins c fs => obtain ⟨C, dx, us, m1, e1, e2, e3, e4, r1⟩ := h; obtain ⟨_, _, _, _, _, _, _, _, q⟩ := h1; exact ⟨C, dx, us, m1, e1, e2, e3, e4, r1.res q⟩
  | dT kvs => exact h
  | dK kvs => obtain ⟨us, e1, r1⟩ := h; obtain ⟨_, _, q⟩ := h1; exact ⟨us, e1, r1.res q⟩
theorem LAt.frz {a p : Addr} {o : LO} {vs : List V} (f0 : F p = none) (e : H p = some (.lst vs)) (h : LAt K mg B F α L H a o) : LAt K mg B (upd F p (.lst vs)) α L H a o := by
  have hF : Same F (upd F p (.lst vs)) := same_upd f0
  have st : Stp F α L (upd F p (.lst vs)) α := ⟨hF, fun _ _ => rfl⟩
  cases o with
  | fl ds => obtain ⟨us, e1, r1⟩ := h; exact ⟨us, e1, r1.mono hF⟩
  | cl cs => obtain ⟨us, e1, r1⟩ := h; exact ⟨us, e1, r1.step st fun _ z => z⟩
  | ins c fs =>
    obtain ⟨C, dx, us, m1, e1, e2, e3, e4, r1⟩ := h
    exact ⟨C, dx, us, m1, e1, e2, by rw [upd_ne (fun q => by rw [q, e] at e2; cases e2)]; exact e3, e4, r1.step st fun _ z => z⟩
  | dT kvs => obtain ⟨us, e1, r1⟩ := h; exact ⟨us, e1, Paired.imp (fun _ _ z => ⟨z.1, z.2.mono hF⟩) r1⟩
  | dK kvs => obtain ⟨us, e1, r1⟩ := h; exact ⟨us, e1, r1.step st fun _ z => z⟩
/-- the last live list is frozen, the rest is as it was -/
theorem Rel.close {F1 H1 : Hp} {α1 : Nat → Addr} {σ1 : L2.St} {ρ ρ1 : List (Option Ce)} {n : Nat} {ds : List D} (R1 : Rel K mg B F1 α1 H1 σ1 ⟨ρ1, L⟩) (R : Rel K mg B F α H σ ⟨ρ, L ++ [(n, .fl ds)]⟩) (st : Stp F1 α1 L F α) (hn : n ∉ names L) :
    ∃ F', Rel K mg B F' α H σ1 ⟨ρ1, L⟩ ∧ Stp F1 α1 L F' α ∧ Rep K mg F' (.lst ds) (.ref (α n)) := by
  obtain ⟨f0, f1, vs, e, r⟩ := R.live n (.fl ds) (List.mem_append_right _ (List.mem_singleton.mpr rfl))
  have hF : Same F (upd F (α n) (.lst vs)) := same_upd f0
  have hd : Rep K mg (upd F (α n) (.lst vs)) (.lst ds) (.ref (α n)) := .lst (SqL.of upd_same) (r.mono hF)
  have st2 : Stp F1 α1 L (upd F (α n) (.lst vs)) α := ⟨st.fro.trans hF, st.nm⟩
  have nn : ∀ m, m ∈ names L → m ∈ names (L ++ [(n, LO.fl ds)]) := fun m h => Sub.app m h
  refine ⟨upd F (α n) (.lst vs), ⟨fun b u q => ?_, R.bF.trans hF, fun b u q => ?_, R.frame, R1.nd, fun a b ha hb => R.inj a b (nn a ha) (nn b hb), fun m o hm => ?_, R1.slots.step st2 fun _ z => z, fun m a e hm => R.fix m a e (nn m hm)⟩, st2, hd⟩
  · by_cases z : b = α n
    · subst z; rw [upd_same] at q; rw [e]; exact q
    · rw [upd_ne z] at q; exact R.sub b u q
  · by_cases z : b = α n
    · subst z; exact .inr f1
    · rw [upd_ne z] at q; exact R.nF b u q
  · have hm' : (m, o) ∈ L := hm
    obtain ⟨g0, g1, g2⟩ := R.live m o (List.mem_append_left _ hm')
    have ne : α m ≠ α n := fun q => hn (by rw [← R.inj _ _ (nn m (mem_names hm')) (by rw [names_append]; exact List.mem_append_right _ (List.mem_singleton.mpr rfl)) q]; exact mem_names hm')
    refine ⟨by rw [upd_ne ne]; exact g0, g1, ?_⟩
    have g3 : LAt K mg B (upd F (α n) (.lst vs)) α (L ++ [(n, .fl ds)]) H (α m) o := g2.frz f0 e
    exact g3.res (R1.live m o hm').2.2
end
end Nz
namespace Nz
open PySem PySem.Spec PyProof.Rows L2
def EgC (X : Cx) (B : Bd) (tg : Expr) (c : Ce) (S S2 : Nz.S) (vs : List Nat) : Prop :=
  ∀ F α H σ v Q, RelX X B F α H σ S → CR X F α S.L c v → (∀ σ' F' H', RelX X B F' α H' σ' S2 → Same F F' → wipe σ' vs = wipe σ vs → Q σ' H') → wG X tg v σ H Q
theorem wipe_set : ∀ {vs : List Nat} {σ : L2.St} {i : Nat} {x : Option V}, i ∈ vs → wipe (σ.set i x) vs = wipe σ vs
  | v :: vs, σ, i, x, h => by
    show (wipe (σ.set i x) vs).set v none = (wipe σ vs).set v none
    by_cases hi : i ∈ vs
    · rw [wipe_set hi]
    · have e : v = i := by
        rcases List.mem_cons.mp h with h | h
        · exact h.symm
        · exact absurd h hi
      subst e
      clear h
      have key : ∀ (vs : List Nat) (σ : L2.St), v ∉ vs → wipe (σ.set v x) vs = (wipe σ vs).set v x := by
        intro vs
        induction vs with
        | nil => intro σ _; rfl
        | cons u us ih =>
          intro σ hn
          show (wipe (σ.set v x) us).set u none = ((wipe σ us).set u none).set v x
          rw [ih σ (fun z => hn (List.mem_cons_of_mem _ z)), List.set_comm _ _ (fun z => hn (by rw [z]; exact List.mem_cons_self))]
      rw [key vs σ hi, List.set_set]
theorem wipe_idem {σ : L2.St} : ∀ {vs : List Nat}, wipe (wipe σ vs) vs = wipe σ vs
  | [] => rfl
  | v :: vs => by
    show (wipe ((wipe σ vs).set v none) vs).set v none = (wipe σ vs).set v none
    by_cases h : v ∈ vs
    · rw [wipe_set h, wipe_idem]
    · have key : ∀ (ws : List Nat) (τ : L2.St), v ∉ ws → wipe (τ.set v none) ws = (wipe τ ws).set v none := by
        intro ws
        induction ws with
        | nil => intro τ _; rfl
        | cons u us ih =>
          intro τ hn
          show (wipe (τ.set v none) us).set u none = ((wipe τ us).set u none).set v none
          rw [ih τ (fun z => hn (List.mem_cons_of_mem _ z)), List.set_comm _ _ (fun z => hn (by rw [z]; exact List.mem_cons_self))]
      rw [key vs _ h, wipe_idem, List.set_set]
theorem getL_app : ∀ {L : List (Nat × LO)} {n : Nat} {o : LO}, n ∉ names L → getL n (L ++ [(n, o)]) = some o
  | [], n, o, _ => by simp [getL]
  | (m, u) :: r, n, o, h => by
    show (if n = m then some u else getL n (r ++ [(n, o)])) = _
    rw [if_neg (fun z => h (by rw [z]; exact List.mem_cons_self)), getL_app (fun z => h (List.mem_cons_of_mem _ z))]
theorem setL_app : ∀ {L : List (Nat × LO)} {n : Nat} {o u : LO}, n ∉ names L → setL n u (L ++ [(n, o)]) = L ++ [(n, u)]
  | [], n, o, u, _ => by simp [setL]
  | (m, w) :: r, n, o, u, h => by
    show (if n = m then (m, u) :: (r ++ [(n, o)]) else (m, w) :: setL n u (r ++ [(n, o)])) = _
    rw [if_neg (fun z => h (by rw [z]; exact List.mem_cons_self)), setL_app (fun z => h (List.mem_cons_of_mem _ z))]
    rfl
theorem eg_nameC {X : Cx} {B : Bd} {S : Nz.S} {vs : List Nat} (i : Nat) {x : Str} {c : Ce} {pos : Pos} (hN : X.N.Nodup) (hi : X.N[i]? = some x) (hx : Loc X.env.scope x) (hv : i ∈ vs) (hf : X.fn x = true ∨ X.env.scope.names.lookup x = some .local) : EgC X B (.Name x pos) c S (setS S i c) vs :=
  fun F α H σ v Q R r k pins s u I ru => (pg_name hN hi hx hf).run pins s σ H v u Q I ru (k _ F H (R.setS r) (Same.refl _) (wipe_set hv))
def EgsC (X : Cx) (B : Bd) (ts : List Expr) (cs : List D) (S S2 : Nz.S) (ws : List Nat) : Prop :=
  ∀ F α H σ vs (Q : L2.St → Hp → Prop), RelX X B F α H σ S → Reps X.K X.mg F cs vs → (∀ σ' F' H', RelX X B F' α H' σ' S2 → Same F F' → wipe σ' ws = wipe σ ws → Q σ' H') →
    ∀ pins s us, Inv X pins σ H s → Vals vs us → wpAny (model X.prog X.w) X.A (assignInOrder ((assignEach ts X.env).map (·.2)) us) (fun _ s' => ∃ σ' H', Inv X pins σ' H' s' ∧ Q σ' H') X.xe s
section
variable {X : Cx} {B : Bd} {S S1 S2 : Nz.S} {ws : List Nat} {e : Expr} {es : List Expr} {d : D} {pos : Pos}
theorem egs_nilC : EgsC X B [] [] S S ws := fun F α H σ vs Q R r k pins s us I ru => by
  cases r
  cases ru
  exact assignInOrder_nil ⟨σ, H, I, k σ F H R (Same.refl _) rfl⟩
theorem egs_consC {ds : List D} (h1 : EgC X B e (.fr d) S S1 ws) (h2 : EgsC X B es ds S1 S2 ws) (hL : S1.L = S.L := by rfl) (hs : (assignEach (e :: es) X.env).map (·.2) = assign e X.env :: (assignEach es X.env).map (·.2) := by rfl) : EgsC X B (e :: es) (d :: ds) S S2 ws :=
  fun F α H σ vs Q R r k pins s us I ru => by
    cases r with
    | cons r rr =>
      cases ru with
      | cons u uu =>
        rw [hs]
        refine assignInOrder_cons (thn (h1 F α H σ _ (fun σ1 H1 => ∃ F1, RelX X B F1 α H1 σ1 S1 ∧ Same F F1 ∧ wipe σ1 ws = wipe σ ws) R r (fun σ' F' H' R' s' w' => ⟨F', R', s', w'⟩) pins s _ I u) fun _ s1 ⟨σ1, H1, I1, F1, R1, sm, w1⟩ => ?_)
        exact h2 F1 α H1 σ1 _ Q R1 (rr.mono sm) (fun σ' F' H' R' s' w' => k σ' F' H' R' (sm.trans s') (w'.trans w1)) pins s1 _ I1 uu
theorem eg_tupC {ds : List D} {k1} (hc : X.calm = true) (h : EgsC X B es ds S S2 ws) (hn : (assignEach es X.env).length = ds.length := by rfl) (hst : (assignEach es X.env).findIdx? (·.1) = none := by rfl) : EgC X B (.Tuple es k1 pos) (.fr (.tup ds)) S S2 ws :=
  fun F α H σ v Q R r k pins s u I ru => by
    cases (show Rep X.K X.mg F (.tup ds) v from r) with
    | tup hq hr =>
      have hq' := R.sub.seqT hq
      cases ru
      obtain ⟨its, rv, ht, hz⟩ := I.tuple hq'
      refine assign_Tuple_tuple (I.ok.hd hc) ht (by simp [hn, hr.length, rv.length]) hst fun h' hx => ?_
      have I1 : Inv X pins σ H { s with heap := h' } := I.kept (t' := s.toks) fun b o e => hx b o (Nat.ne_of_lt (Heap.lt_size e)) e
      exact h F α H σ _ Q R hr k pins _ _ I1 (by simpa using rv)
end
def wTs (X : Cx) (ifs : List Expr) (σ : L2.St) (H : Hp) (Q : Bool → Hp → Prop) : Prop :=
  ∀ pins s, Inv X pins σ H s → wpAny (model X.prog X.w) X.A (forIn ifs true fun c r => if r = true then do let ok ← isTrue c X.env (eval c X.env); pure (ForInStep.yield ok) else pure (ForInStep.yield r)) (TP X pins σ Q) X.xe s
def Ets (X : Cx) (B : Bd) (ifs : List Expr) (S : Nz.S) (b : Bool) : Prop :=
  ∀ F α H σ Q, RelX X B F α H σ S → (∀ F' α' H', RelX X B F' α' H' σ S → Stp F α S.L F' α' → Q b H') → wTs X ifs σ H Q
theorem ets_nil {X : Cx} {B : Bd} {S : Nz.S} : Ets X B [] S true := fun F α H σ Q R k pins s I => pts_nil.run pins s σ H Q I (k F α H R Stp.refl)
theorem ets_one {X : Cx} {B : Bd} {S : Nz.S} {c : Expr} {b : Bool} (h : Et X B c S b S) : Ets X B [c] S b := fun F α H σ Q R k pins s I => (pts_one pt_w).run pins s σ H Q I (h F α H σ Q R k)
def wipeC (ρ : List (Option Ce)) : List Nat → List (Option Ce)
  | [] => ρ
  | v :: vs => (wipeC ρ vs).set v none
theorem SlR.setN {K : Frag} {mg : Mg} {F : Hp} {α : Nat → Addr} {L : List (Nat × LO)} : ∀ {c : List (Option Ce)} {σ : L2.St} (i : Nat) {o : Option V}, SlR K mg F α L c σ → SlR K mg F α L (c.set i none) (σ.set i o)
  | _, _, _, _, .nil => .nil
  | _, _, 0, _, .no r => .no r
  | _, _, 0, _, .so _ r => .no r
  | _, _, i + 1, _, .no r => .no (r.setN i)
  | _, _, i + 1, _, .so q r => .so q (r.setN i)
theorem SlR.wipe {K : Frag} {mg : Mg} {F : Hp} {α : Nat → Addr} {L : List (Nat × LO)} {c : List (Option Ce)} {σ : L2.St} (h : SlR K mg F α L c σ) : ∀ vs : List Nat, SlR K mg F α L (wipeC c vs) (L2.wipe σ vs)
  | [] => h
  | v :: vs => (h.wipe vs).setN v
/-- the context of a comprehension's block -/
abbrev Blk (X : Cx) (scope : Scope) (s : Shared) (H : Hp) (C : Addr) (cl : List (Str × Addr)) (fp : List Addr) : Cx := X.blk s H scope (compEnvC scope cl C X.env) fp
section
variable {X : Cx} {B : Bd} {S S1 : Nz.S} {elt tg iter : Expr} {ifs : List Expr} {scope : Scope} {own : List (Str × Nat)} {pos : Pos}
/-- [elt for tg in iter if ..] of data -/
theorem lc_reading {τ : Type} (nD : Nat) {ys : List τ} {enc : τ → D} (f : τ → D) (p : τ → Bool) (Sx : Nat → τ → List D → Nz.S)
    (hsrc : Src X B tg iter S (ys.map enc) S1) (hn : nD ∉ names S1.L) (h100 : 100 ≤ nD) (hz : ys.length ≤ sizeLine) (hL : ∀ i y acc, (Sx i y acc).L = S1.L ++ [(nD, .fl acc)])
    (hg : ∀ i y acc, ys[i]? = some y → ∀ s H0 C cl fp, EgC (Blk X scope s H0 C cl fp) B tg (.fr (enc y)) ⟨wipeC S1.ρ (own.map (·.2)), S1.L ++ [(nD, .fl acc)]⟩ (Sx i y acc) (own.map (·.2)))
    (ht : ∀ i y acc, ys[i]? = some y → ∀ s H0 C cl fp, Ets (Blk X scope s H0 C cl fp) B ifs (Sx i y acc) (p y))
    (he : ∀ i y acc, ys[i]? = some y → p y = true → ∀ s H0 C cl fp, Ev (Blk X scope s H0 C cl fp) B elt (Sx i y acc) (.fr (f y)) (Sx i y acc))
    (F : Hp) (α : Nat → Addr) (H : Hp) (σ : L2.St) (Q : VK) (R : RelX X B F α H σ S) (hS : Sub S.L S1.L)
    (k : ∀ F' α' v H', RelX X B F' α' H' σ S1 → Stp F α S.L F' α' → Rep X.K X.mg F' (.lst ((ys.filter p).map f)) v → Q v H') :
    tLc (wI X tg iter) (fun v σ H Q => ∀ s H0 C cl fp, wG (Blk X scope s H0 C cl fp) tg v σ H Q) (fun σ H Q => ∀ s H0 C cl fp, wTs (Blk X scope s H0 C cl fp) ifs σ H Q) (fun σ H Q => ∀ s H0 C cl fp, wE (Blk X scope s H0 C cl fp) elt σ H Q) (own.map (·.2)) σ H Q := by
  refine hsrc F α H σ _ R fun F1 α1 H1 J R1 st1 j => ?_
  intro D hD
  have Rn := R1.allocL (n := nD) (u := .fl []) (o := .lst []) hD hn h100 ⟨[], upd_same, .nil⟩
  have stn : Stp F1 α1 S1.L F1 (setα α1 nD D) := stp_setα hn
  have eD : setα α1 nD D nD = D := by unfold setα; rw [if_pos rfl]
  -- the state at turn i
  let W : Nat → Hp → Prop := fun i H => ∃ F' α', RelX X B F' α' H (L2.wipe σ (own.map (·.2))) ⟨wipeC S1.ρ (own.map (·.2)), S1.L ++ [(nD, .fl (((ys.take i).filter p).map f))]⟩ ∧ Stp F1 (setα α1 nD D) (S1.L ++ [(nD, .fl [])]) F' α'
  have w0 : W 0 (upd H1 D (.lst [])) := ⟨F1, setα α1 nD D, ⟨Rn.sub, Rn.bF, Rn.nF, Rn.frame, Rn.nd, Rn.inj, Rn.live, Rn.slots.wipe _, Rn.fix⟩, Stp.refl⟩
  refine ⟨fun i m H => m = ys.length - i ∧ i ≤ ys.length ∧ W i H, ⟨ys.length, by simp, Nat.zero_le _, w0⟩, ?_⟩
  rintro i m H' ⟨rfl, hi, F', α', R', st'⟩
  have sm : Same F1 F' := st'.fro
  have nmD : α' nD = D := by rw [st'.nm nD (by rw [names_append]; exact List.mem_append_right _ (List.mem_singleton.mpr rfl)), eD]
  by_cases hlt : i < ys.length
  · obtain ⟨y, hy⟩ : ∃ y, ys[i]? = some y := ⟨ys[i], by simp [hlt]⟩
    obtain ⟨g, yl⟩ := j.go B F' α' H' _ _ i (enc y) R' sm (by rw [List.getElem?_map, hy]; rfl)
    have tk : (ys.take (i + 1)) = ys.take i ++ [y] := by rw [List.take_succ, hy]; rfl
    refine .inr ⟨g, W (i + 1), fun H2 w2 => ⟨ys.length - (i + 1), by omega, rfl, hlt, w2⟩, fun x H2 yy => ?_⟩
    obtain ⟨F2, R2, s2, r2⟩ := yl x H2 yy
    intro sA HA CA clA fpA
    refine hg i y (((ys.take i).filter p).map f) hy sA HA CA clA fpA F2 α' H2 _ x _ R2 r2 fun σ3 F3 H3 R3 s3 w3 => ⟨w3.trans wipe_idem, ?_⟩
    intro sB HB CB clB fpB
    refine ht i y (((ys.take i).filter p).map f) hy sB HB CB clB fpB F3 α' H3 σ3 _ R3 fun F4 α4 H4 R4 st4 => ?_
    have hLL := hL i y (((ys.take i).filter p).map f)
    have full : ∀ {F5 : Hp} {α5 : Nat → Addr} {acc : List Nz.D}, Same F' F5 → (∀ n, n ∈ names (S1.L ++ [(nD, LO.fl (((ys.take i).filter p).map f))]) → α5 n = α' n) → Stp F1 (setα α1 nD D) (S1.L ++ [(nD, .fl [])]) F5 α5 := fun {F5 α5 acc} h1 h2 =>
      ⟨sm.trans h1, fun n hn' => by
        rw [h2 n (by rw [names_append] at hn' ⊢; exact hn'), st'.nm n hn']⟩
    have back : ∀ {F5 : Hp} {α5 : Nat → Addr} {H5 : Hp} {acc : List Nz.D}, RelX X B F5 α5 H5 σ3 ⟨(Sx i y (((ys.take i).filter p).map f)).ρ, S1.L ++ [(nD, .fl acc)]⟩ → SlR X.K X.mg F5 α5 (S1.L ++ [(nD, .fl acc)]) (wipeC S1.ρ (own.map (·.2))) (L2.wipe σ (own.map (·.2))) →
        RelX X B F5 α5 H5 (L2.wipe σ (own.map (·.2))) ⟨wipeC S1.ρ (own.map (·.2)), S1.L ++ [(nD, .fl acc)]⟩ := fun {F5 α5 H5 acc} Rr sl => ⟨Rr.sub, Rr.bF, Rr.nF, Rr.frame, Rr.nd, Rr.inj, Rr.live, sl, Rr.fix⟩
    have sl0 : SlR X.K X.mg F' α' (S1.L ++ [(nD, .fl (((ys.take i).filter p).map f))]) (wipeC S1.ρ (own.map (·.2))) (L2.wipe σ (own.map (·.2))) := R'.slots
    have st4' : Stp F' α' (S1.L ++ [(nD, .fl (((ys.take i).filter p).map f))]) F4 α4 := ⟨s2.trans (s3.trans st4.fro), fun n hn' => st4.nm n (by rw [hLL]; exact hn')⟩
    cases hp : p y with
    | false =>
      rw [if_neg Bool.false_ne_true]
      have e2 : ((ys.take (i + 1)).filter p).map f = ((ys.take i).filter p).map f := by rw [tk, List.filter_append]; simp [hp]
      refine ⟨F4, α4, ?_, full (acc := []) st4'.fro st4'.nm⟩
      rw [e2]
      have R4' : RelX X B F4 α4 H4 σ3 ⟨(Sx i y (((ys.take i).filter p).map f)).ρ, S1.L ++ [(nD, .fl (((ys.take i).filter p).map f))]⟩ := by rw [← hLL]; exact R4
      exact back R4' (sl0.step st4' fun _ z => z)
    | true =>
      rw [if_pos rfl]
      intro sC HC CC clC fpC
      refine he i y (((ys.take i).filter p).map f) hy hp sC HC CC clC fpC F4 α4 H4 σ3 _ R4 fun F5 α5 v5 H5 R5 st5 r5 => ?_
      have st5' : Stp F' α' (S1.L ++ [(nD, .fl (((ys.take i).filter p).map f))]) F5 α5 := st4'.trans ⟨st5.fro, fun n hn' => st5.nm n (by rw [hLL]; exact hn')⟩ fun _ z => z
      have R5' : RelX X B F5 α5 H5 σ3 ⟨(Sx i y (((ys.take i).filter p).map f)).ρ, S1.L ++ [(nD, .fl (((ys.take i).filter p).map f))]⟩ := by rw [← hLL]; exact R5
      obtain ⟨q0, q1, vs5, e5, rs5⟩ := R5'.live nD _ (List.mem_append_right _ (List.mem_singleton.mpr rfl))
      have nm5 : α5 nD = D := by rw [st5'.nm nD (by rw [names_append]; exact List.mem_append_right _ (List.mem_singleton.mpr rfl)), nmD]
      have gl := getL_app (o := .fl (((ys.take i).filter p).map f)) hn
      have sl : ∀ (acc : List Nz.D), setL nD (.fl acc) (S1.L ++ [(nD, LO.fl (((ys.take i).filter p).map f))]) = S1.L ++ [(nD, .fl acc)] := fun acc => setL_app hn
      rw [nm5] at e5
      have e2 : ((ys.take (i + 1)).filter p).map f = ((ys.take i).filter p).map f ++ [f y] := by rw [tk, List.filter_append, List.map_append]; simp [hp]
      have lenv : vs5.length < sizeLine := by
        rw [← rs5.length, List.length_map]
        have := List.length_filter_le p (ys.take i)
        rw [List.length_take] at this
        omega
      refine ⟨vs5, e5, lenv, F5, α5, ?_, full (acc := []) st5'.fro st5'.nm⟩
      have Rp := R5'.put (n := nD) (u := .fl (((ys.take i).filter p).map f ++ [f y])) (o' := .lst (vs5 ++ [v5])) (getL_mem gl) ⟨vs5 ++ [v5], upd_same, rs5.append (.cons r5 .nil)⟩
      rw [nm5] at Rp
      rw [e2]
      have Rp' : RelX X B F5 α5 (upd H5 D (.lst (vs5 ++ [v5]))) σ3 ⟨(Sx i y (((ys.take i).filter p).map f)).ρ, S1.L ++ [(nD, .fl (((ys.take i).filter p).map f ++ [f y]))]⟩ := by rw [← sl]; exact Rp
      refine back Rp' (sl0.step (L' := S1.L ++ [(nD, .fl (((ys.take i).filter p).map f ++ [f y]))]) st5' fun n hn' => by rw [names_append] at hn' ⊢; exact hn')
  · have e1 : i = ys.length := by omega
    subst e1
    refine .inl ⟨j.stop B F' α' H' _ _ _ R' sm (by rw [List.length_map]; exact Nat.le_refl _), ?_⟩
    rw [List.take_length] at R'
    have stA : Stp F1 α1 S1.L F' α' := stn.trans ⟨st'.fro, fun n hn' => st'.nm n (Sub.app n hn')⟩ fun _ z => z
    obtain ⟨F6, R6, st6, r6⟩ := Rel.close (L := S1.L) R1 R' stA hn
    rw [nmD] at r6
    exact k F6 α' (.ref D) H' R6 (st1.trans st6 hS) r6
section
variable {τ : Type} {ys : List τ} {enc : τ → D}
theorem ev_lc (nD : Nat) (ys : List τ) (enc : τ → D) (f : τ → D) (p : τ → Bool) (Sx : Nat → τ → List D → Nz.S) (hc : X.calm = true) (hN : X.N.Nodup) (ok : BlkOk X.N X.env.scope scope own)
    (hsrc : Src X B tg iter S (ys.map enc) S1) (hn : nD ∉ names S1.L) (h100 : 100 ≤ nD) (hz : ys.length ≤ sizeLine) (hL : ∀ i y acc, (Sx i y acc).L = S1.L ++ [(nD, .fl acc)])
    (hg : ∀ i y acc, ys[i]? = some y → ∀ s H0 C cl fp, EgC (Blk X scope s H0 C cl fp) B tg (.fr (enc y)) ⟨wipeC S1.ρ (own.map (·.2)), S1.L ++ [(nD, .fl acc)]⟩ (Sx i y acc) (own.map (·.2)))
    (ht : ∀ i y acc, ys[i]? = some y → ∀ s H0 C cl fp, Ets (Blk X scope s H0 C cl fp) B ifs (Sx i y acc) (p y))
    (he : ∀ i y acc, ys[i]? = some y → p y = true → ∀ s H0 C cl fp, Ev (Blk X scope s H0 C cl fp) B elt (Sx i y acc) (.fr (f y)) (Sx i y acc)) (hS : Sub S.L S1.L := by exact Sub.refl) (hs : ∀ x, foldedSetIterable iter X.env x = pure x := by intro _; rfl) :
    Ev X B (.ListComp elt [⟨tg, iter, ifs, 0⟩] scope pos) S (.fr (.lst ((ys.filter p).map f))) S1 :=
  fun F α H σ Q R k => wE.of (pe_lc hc hN pi_w ok (fun s H0 C cl fp => ⟨fun pins s1 σ1 H1 v u Q1 I r h => h s H0 C cl fp pins s1 u I r⟩) (fun s H0 C cl fp => ⟨fun pins s1 σ1 H1 Q1 I h => h s H0 C cl fp pins s1 I⟩) (fun s H0 C cl fp => ⟨fun pins s1 σ1 H1 Q1 I h => h s H0 C cl fp pins s1 I⟩) hs)
    (lc_reading nD f p Sx hsrc hn h100 hz hL hg ht he F α H σ Q R hS k)
theorem ex_setLc (i : Nat) {y : Str} {py spos : Pos} {K : Out → Prop} (nD : Nat) (ys : List τ) (enc : τ → D) (f : τ → D) (p : τ → Bool) (Sx : Nat → τ → List D → Nz.S) (hc : X.calm = true) (hN : X.N.Nodup) (hy : X.N[i]? = some y) (hyl : X.env.scope.names.lookup y = some .local)
    (hsw : swapsWith (.ListComp elt [⟨tg, iter, ifs, 0⟩] scope pos) (some (.Name y py)) spos.line X.env = pure true) (ok : BlkOk X.N X.env.scope scope own)
    (hsrc : Src X B tg iter S (ys.map enc) S1) (hn : nD ∉ names S1.L) (h100 : 100 ≤ nD) (hz : ys.length ≤ sizeLine) (hL : ∀ i y acc, (Sx i y acc).L = S1.L ++ [(nD, .fl acc)])
    (hg : ∀ i y acc, ys[i]? = some y → ∀ s H0 C cl fp, EgC (Blk X scope s H0 C cl fp) B tg (.fr (enc y)) ⟨wipeC S1.ρ (own.map (·.2)), S1.L ++ [(nD, .fl acc)]⟩ (Sx i y acc) (own.map (·.2)))
    (ht : ∀ i y acc, ys[i]? = some y → ∀ s H0 C cl fp, Ets (Blk X scope s H0 C cl fp) B ifs (Sx i y acc) (p y))
    (he : ∀ i y acc, ys[i]? = some y → p y = true → ∀ s H0 C cl fp, Ev (Blk X scope s H0 C cl fp) B elt (Sx i y acc) (.fr (f y)) (Sx i y acc))
    (k : K (.nx (setS S1 i (.fr (.lst ((ys.filter p).map f)))))) (hS : Sub S.L S1.L := by exact Sub.refl) (hs : ∀ x, foldedSetIterable iter X.env x = pure x := by intro _; rfl) :
    Ex X B (.Assign [.Name y py] (.ListComp elt [⟨tg, iter, ifs, 0⟩] scope pos) spos) S K :=
  fun F α H σ D R o => wS.of (ps_setLc hc hN hy hyl hsw pi_w ok (fun s H0 C cl fp => ⟨fun pins s1 σ1 H1 v u Q1 I r h => h s H0 C cl fp pins s1 u I r⟩) (fun s H0 C cl fp => ⟨fun pins s1 σ1 H1 Q1 I h => h s H0 C cl fp pins s1 I⟩) (fun s H0 C cl fp => ⟨fun pins s1 σ1 H1 Q1 I h => h s H0 C cl fp pins s1 I⟩) hs)
    (lc_reading nD f p Sx hsrc hn h100 hz hL hg ht he F α H σ _ R hS fun F' α' v H' R' st r => o.nx _ F' α' H' _ k (R'.setS r) st.fro)
end
end
def Cb (X : Cx) (f : Value) (ds : List D) (d : D) : Prop :=
  ∀ B F α H σ (S : Nz.S) (Q : VK) xs, RelX X B F α H σ S → Reps X.K X.mg F ds xs → (∀ F' α' v H', RelX X B F' α' H' σ S → Stp F α S.L F' α' → Rep X.K X.mg F' d v → Q v H') →
    ∀ pins s us, Inv X pins σ H s → Vals xs us → wpAny (model X.prog X.w) X.A (call f us) (EP X pins σ Q) X.xe s
theorem Cb.of {X : Cx} {f : Value} {ds : List D} {d : D} {r : List V → Hp → VK → Prop} (h : CallR X f r)
    (hr : ∀ B F α H σ (S : Nz.S) (Q : VK) xs, RelX X B F α H σ S → Reps X.K X.mg F ds xs → (∀ F' α' v H', RelX X B F' α' H' σ S → Stp F α S.L F' α' → Rep X.K X.mg F' d v → Q v H') → r xs H Q) : Cb X f ds d :=
  fun B F α H σ S Q xs R rx k pins s us I rv => h pins s σ H xs us Q I rv (hr B F α H σ S Q xs R rx k)
section
variable {X : Cx} {B : Bd} {S S1 : Nz.S} {a e : Expr} {es : List Expr} {pos p : Pos} {x : Str} {ds : List D} {d : D} {id T : String}
theorem ev_callB (hc : Cb X (.builtin id) ds d) (ha : Ea X B (e :: es) S (ds.map Ce.fr) S1) (hg : Gl X x) (hm : X.mg x = none) (hv : bootBuiltins x = some (.builtin id)) (h1 : Sub S.L S1.L := by exact Sub.refl) (hn : x ≠ "__name__" := by decide) (hdb : (x == ("__debug__" : Str)) = false := by decide)
    (he : starEach (e :: es) X.env = (false, eval e X.env) :: starEach es X.env := by rfl) (hpl : (backTo pos (starEach es X.env)).any (·.1) = false := by rfl) : Ev X B (.Call (.Name x p) (e :: es) [] pos) S (.fr d) S1 :=
  fun F α H σ Q R k pins s I => wpAny_Call_Name_kw (ld_blt I hg hm hv (PyProof.Rows.callWith_builtin1 (thn (ha F α H σ (fun vs H1 => ∃ F1 α1, RelX X B F1 α1 H1 σ S1 ∧ Stp F α S.L F1 α1 ∧ Reps X.K X.mg F1 ds vs) R
    (fun F1 α1 vs H1 R1 st1 r1 => ⟨F1, α1, R1, st1, r1.fr⟩) pos pins s I) fun us s1 ⟨vs, H1, I1, rv, F1, α1, R1, st1, r1⟩ =>
      hc B F1 α1 H1 σ S1 Q vs R1 r1 (fun F' α' v H' R' st' r' => k F' α' v H' R' (st1.trans st' h1) r') pins s1 us I1 rv) he hpl) hn hdb)
theorem ev_callTy (hc : Cb X (.type T) ds d) (ha : Ea X B (e :: es) S (ds.map Ce.fr) S1) (hg : Gl X x) (hm : X.mg x = none) (hv : bootBuiltins x = some (.type T)) (h1 : Sub S.L S1.L := by exact Sub.refl) (hn : x ≠ "__name__" := by decide) (hdb : (x == ("__debug__" : Str)) = false := by decide)
    (he : starEach (e :: es) X.env = (false, eval e X.env) :: starEach es X.env := by rfl) (hpl : (backTo pos (starEach es X.env)).any (·.1) = false := by rfl) : Ev X B (.Call (.Name x p) (e :: es) [] pos) S (.fr d) S1 :=
  fun F α H σ Q R k pins s I => wpAny_Call_Name_kw (ld_blt I hg hm hv (PyProof.Rows.callWith_type1 (thn (ha F α H σ (fun vs H1 => ∃ F1 α1, RelX X B F1 α1 H1 σ S1 ∧ Stp F α S.L F1 α1 ∧ Reps X.K X.mg F1 ds vs) R
    (fun F1 α1 vs H1 R1 st1 r1 => ⟨F1, α1, R1, st1, r1.fr⟩) pos pins s I) fun us s1 ⟨vs, H1, I1, rv, F1, α1, R1, st1, r1⟩ =>
      hc B F1 α1 H1 σ S1 Q vs R1 r1 (fun F' α' v H' R' st' r' => k F' α' v H' R' (st1.trans st' h1) r') pins s1 us I1 rv) he hpl) hn hdb)
theorem c_abs {i : Int} : Cb X (.builtin "abs") [.int i] (.int (if i < 0 then -i else i)) := .of call_abs fun B F α H σ S Q xs R rx k => by
  cases rx with | cons r rr => cases rr; cases r; exact ⟨i, rfl, k F α _ H R Stp.refl (.int _)⟩
theorem c_max2 {i j : Int} (hc : X.calm = true) : Cb X (.builtin "max") [.int i, .int j] (.int (if j > i then j else i)) := .of (call_max2 hc) fun B F α H σ S Q xs R rx k => by
  cases rx with | cons r rr => cases rr with | cons r2 rr => cases rr; cases r; cases r2; exact ⟨i, j, rfl, k F α _ H R Stp.refl (.int _)⟩
theorem c_str {i : Int} (h : i.natAbs.log2 < 1920) : Cb X (.type "str") [.int i] (.str (toString i)) := .of call_str_int fun B F α H σ S Q xs R rx k => by
  cases rx with | cons r rr => cases rr; cases r; exact ⟨i, rfl, h, k F α _ H R Stp.refl (.str _)⟩
theorem c_lenT {xs : List D} : Cb X (.builtin "len") [.tup xs] (.int xs.length) := .of call_len_seq fun B F α H σ S Q vs R rx k => by
  cases rx with
  | cons r rr =>
    cases rr
    obtain ⟨a, us, rfl, hq, rs⟩ := R.asT r
    exact ⟨a, us, rfl, .inr hq, by rw [← rs.length]; exact k F α _ H R Stp.refl (.int _)⟩
theorem c_lenS {z : Str} (h : z.length ≤ sizeLine) : Cb X (.builtin "len") [.str z] (.int z.length) := .of call_len_str fun B F α H σ S Q vs R rx k => by
  cases rx with | cons r rr => cases rr; cases r; exact ⟨z, rfl, h, k F α _ H R Stp.refl (.int _)⟩
theorem c_list {xs : List D} : Cb X (.type "list") [.lst xs] (.lst xs) := .of call_list_of fun B F α H σ S Q vs R rx k => by
  cases rx with
  | cons r rr =>
    cases rr
    obtain ⟨a, us, rfl, hq, rs⟩ := R.asL (c := .fr (.lst xs)) rfl r
    exact ⟨a, us, rfl, .inl hq, fun l hl => k _ α _ _ (R.allocF hl) (stp_allocF (R.fresh hl)) (.lst (SqL.of upd_same) (rs.mono (same_upd (R.fresh hl))))⟩
theorem c_tuple {xs : List D} : Cb X (.type "tuple") [.lst xs] (.tup xs) := .of call_tuple_of fun B F α H σ S Q vs R rx k => by
  cases rx with
  | cons r rr =>
    cases rr
    obtain ⟨a, us, rfl, hq, rs⟩ := R.asL (c := .fr (.lst xs)) rfl r
    exact ⟨a, us, rfl, .inl ⟨hq, fun l hl => k _ α _ _ (R.allocF hl) (stp_allocF (R.fresh hl)) (.tup (SqT.of upd_same) (rs.mono (same_upd (R.fresh hl))))⟩⟩
/-- bools -/
theorem Reps.bls_eq {K : Frag} {mg : Mg} {F : Hp} : ∀ {ns : List Bool} {vs : List V}, Reps K mg F (ns.map D.bl) vs → vs = ns.map V.bl
  | [], _, .nil => rfl
  | _ :: ns, _, .cons h r => by
    cases h
    rw [Reps.bls_eq (ns := ns) r]; rfl
theorem c_any {bs : List Bool} (hc : X.calm = true) : Cb X (.builtin "any") [.lst (bs.map D.bl)] (.bl (bs.any fun b => b)) := .of (cr_any hc) fun B F α H σ S Q vs R rx k => by
  cases rx with
  | cons r rr =>
    cases rr
    obtain ⟨a, us, rfl, hq, rs⟩ := R.asL (c := .fr (.lst (bs.map D.bl))) rfl r
    exact ⟨a, bs, rfl, by rw [← Reps.bls_eq rs]; exact hq, k F α _ H R Stp.refl (.bl _)⟩
theorem c_all {bs : List Bool} (hc : X.calm = true) : Cb X (.builtin "all") [.lst (bs.map D.bl)] (.bl (bs.all fun b => b)) := .of (cr_all hc) fun B F α H σ S Q vs R rx k => by
  cases rx with
  | cons r rr =>
    cases rr
    obtain ⟨a, us, rfl, hq, rs⟩ := R.asL (c := .fr (.lst (bs.map D.bl))) rfl r
    exact ⟨a, bs, rfl, by rw [← Reps.bls_eq rs]; exact hq, k F α _ H R Stp.refl (.bl _)⟩
/-- len of what lives -/
theorem ev_lenL {ca : Ce} (ha : Ev X B e S ca S1) (hl : AsL S1.L ca ds) (hg : Gl X "len") (hm : X.mg "len" = none) (hs : starEach [e] X.env = (false, eval e X.env) :: starEach [] X.env := by rfl) (hpl : (backTo pos (starEach [] X.env)).any (·.1) = false := by rfl) : Ev X B (.Call (.Name "len" p) [e] [] pos) S (.fr (.int ds.length)) S1 :=
  fun F α H σ Q R k => wE.of (pe_callB call_len_seq hg hm PySem.boot_len (pa_cons pe_w pa_nil hs) (by decide) (by decide) hs hpl) (ha F α H σ _ R fun F1 α1 v1 H1 R1 st1 r1 => by
    obtain ⟨a, us, rfl, hq, rs⟩ := R1.asL hl r1
    exact ⟨a, us, rfl, .inl hq, by rw [← rs.length]; exact k F1 α1 _ H1 R1 st1 (.int _)⟩)
def tyOf : D → Option String
  | .non => some "NoneType" | .bl _ => some "bool" | .int _ => some "int" | .str _ => some "str" | .tup _ => some "tuple" | .lst _ => some "list" | .obj _ _ => none
end
end Nz
namespace Nz
open PySem PySem.Spec PyProof.Rows L2
section
variable {X : Cx} {B : Bd} {S S1 : Nz.S} {a e : Expr} {es : List Expr} {pos p q : Pos} {x : Str} {ds : List D} {d : D}
theorem tyX_lst {K : Frag} {H : Hp} {a : Addr} {vs : List V} (h : SqL K H a vs) : TyX K H (.ref a) (.type "list") := by
  rcases h with (h | ⟨o, h⟩) | ⟨o, its, n, h1, h2, _⟩
  · exact .base (.lst h)
  · exact .base (.frz h)
  · exact .kList h1 h2
theorem tyX_tup {K : Frag} {H : Hp} {a : Addr} {vs : List V} (h : SqT K H a vs) : TyX K H (.ref a) (.type "tuple") := by
  rcases h with (h | ⟨o, h⟩) | ⟨o, its, n, h1, h2, _⟩
  · exact .base (.tup h)
  · exact .fTuple h
  · exact .kTuple h1 h2
theorem Rel.tyX {F : Hp} {α : Nat → Addr} {H : Hp} {σ : L2.St} (R : RelX X B F α H σ S) {v : V} {t : String} (r : Rep X.K X.mg F d v) (h : tyOf d = some t) : TyX X.K H v (.type t) := by
  cases r with
  | non => cases h; exact .base .non
  | bl b => cases h; exact .base (.bl b)
  | int i => cases h; exact .base (.int i)
  | str z => cases h; exact .base (.str z)
  | tup h1 h2 => cases h; exact tyX_tup (R.sub.seqT h1)
  | lst h1 h2 => cases h; exact tyX_lst (R.sub.seq h1)
  | obj m h1 h2 h3 => cases h
/-- isinstance(a, T), T a built-in class -/
theorem ev_isi {T t : String} {b : Bool} {xT : Str} {p2 : Pos} (ha : Ev X B a S (.fr d) S1) (ht : tyOf d = some t) (hk : kitB t T = some b) (hg : Gl X "isinstance") (hm : X.mg "isinstance" = none) (hgT : Gl X xT) (hmT : X.mg xT = none) (hv : bootBuiltins xT = some (.type T))
    (hv2 : bootBuiltins "isinstance" = some (.builtin "isinstance") := by decide +kernel)
    (hn : xT ≠ "__name__" := by decide) (hd : (xT == ("__debug__" : Str)) = false := by decide)
    (he : starEach (a :: [.Name xT p2]) X.env = (false, eval a X.env) :: starEach [.Name xT p2] X.env := by rfl) (he2 : starEach (.Name xT p2 :: []) X.env = (false, eval (.Name xT p2) X.env) :: starEach [] X.env := by rfl) (hpl : (backTo pos (starEach [.Name xT p2] X.env)).any (·.1) = false := by rfl) :
    Ev X B (.Call (.Name "isinstance" p) [a, .Name xT p2] [] pos) S (.fr (.bl b)) S1 :=
  fun F α H σ Q R k => wE.of (pe_callB call_isi hg hm hv2 (pa_cons pe_w (pa_cons (pe_bltn (v := .ty T) hgT hmT hv rfl hn hd) pa_nil he2) he) (by decide) (by decide) he hpl) (ha F α H σ _ R fun F1 α1 v1 H1 R1 st1 r1 => by
    exact ⟨v1, .ty T, .type t, .type T, b, rfl, .ty T, R1.tyX r1 ht, kit_ty hk, k F1 α1 _ H1 R1 st1 (.bl _)⟩)
theorem ev_append {n : Nat} {o : Expr} {apos : Pos} (ho : Ev X B o S (.ad n) S) {ds0 : List D} (ha : Ev X B e S (.fr d) S1) (hn : getL n S1.L = some (.fl ds)) (hn0 : getL n S.L = some (.fl ds0)) (hz : ds.length < sizeLine) (h1 : Sub S.L S1.L := by exact Sub.refl)
    (hbase : attributeBase o "append" X.env (eval o X.env) = eval o X.env := by rfl)
    (hfew : ((backTo pos (starEach (e :: []) X.env)).all (fun x => !x.1) && (backToKw pos (keywordEach [] X.env)).all (fun x => x.1.isSome)
      && decide ((e :: ([] : List Expr)).length + ([] : List Keyword).length + (if ([] : List Keyword).isEmpty then 0 else 1) < 30)) = true := by rfl)
    (hline : (apos.endLine == pos.line) = true := by rfl) (hs : starEach (e :: []) X.env = (false, eval e X.env) :: starEach [] X.env := by rfl) (hplain : (backTo pos (starEach [] X.env)).any (·.1) = false := by rfl) :
    Ev X B (.Call (.Attribute o "append" apos) [e] [] pos) S (.fr .non) ⟨S1.ρ, setL n (.fl (ds ++ [d])) S1.L⟩ :=
  fun F α H σ Q R k => wE.of (pe_bm PySem.F.plainAttrs_list PySem.F.slot_list_append PySem.F.type_list_append mt_append pe_w (pa_cons pe_w pa_nil hs) hbase hfew hline hs hplain) (ho F α H σ _ R fun F1 α1 v1 H1 R1 st1 r1 => by
    obtain ⟨hm, rfl⟩ := r1
    refine ⟨?_, ha F1 α1 H1 σ _ R1 fun F2 α2 v2 H2 R2 st2 r2 => ?_⟩
    · -- it is a list already
      obtain ⟨_, _, vs, e1, rs⟩ := R1.live n _ (getL_mem hn0)
      exact .inl ⟨rfl, _, SqL.of e1⟩
    · have hmm := getL_mem hn
      obtain ⟨f0, f1, vs, e1, rs⟩ := R2.live n _ hmm
      have en : α2 n = α1 n := st2.nm n hm
      refine ⟨α1 n, vs, v2, rfl, rfl, by rw [← en]; exact e1, by rw [← rs.length]; exact hz, ?_⟩
      have Rp := R2.put (n := n) (u := .fl (ds ++ [d])) (o' := .lst (vs ++ [v2])) hmm ⟨vs ++ [v2], upd_same, rs.append (.cons r2 .nil)⟩
      rw [en] at Rp
      exact k F2 α2 .non _ Rp ((st1.trans st2 Sub.refl).trans Stp.refl h1) .non)
/-- what a def promises: of the arguments' cells, the live objects handed in, and what is wanted of the value and of what lives behind -/
abbrev SpN := List Ce → List (Nat × LO) → (Ce → List (Nat × LO) → Prop) → Prop
def bdOf (F H : Hp) (fp : Addr → Prop) (α : Nat → Addr) (L : List (Nat × LO)) : Bd := ⟨F, H, fp, fun n => if n < 100 then some (α n) else none, fun n h => by rw [if_neg (by omega)]⟩
def SpOf (K : Frag) (mg : Mg) (sp : SpN) : Sp := fun vs H Q _ => ∃ F α L cs fp, Rel K mg (bdOf F H fp α L) F α H (vs.map some) ⟨cs.map some, L⟩ ∧
  sp cs L fun c L' => ∀ F' α' v H' ρ' σ', Rel K mg (bdOf F H fp α L) F' α' H' σ' ⟨ρ', L'⟩ → CRel K mg F' α' L' c v → Q v H'
def retK (Kc : Ce → List (Nat × LO) → Prop) : Out → Prop
  | .ret c S => Kc c S.L
  | .nx S => Kc (.fr .non) S.L
  | _ => False
def startC (N : List Str) (cs : List Ce) : List (Option Ce) := cs.map some ++ List.replicate (N.length - cs.length) none
theorem slr_rep {K : Frag} {mg : Mg} {F : Hp} {α : Nat → Addr} {L : List (Nat × LO)} : ∀ n, SlR K mg F α L (List.replicate n none) (List.replicate n none)
  | 0 => .nil
  | n + 1 => .no (slr_rep n)
theorem SlR.append {K : Frag} {mg : Mg} {F : Hp} {α : Nat → Addr} {L : List (Nat × LO)} : ∀ {c c' : List (Option Ce)} {σ σ' : L2.St}, SlR K mg F α L c σ → SlR K mg F α L c' σ' → SlR K mg F α L (c ++ c') (σ ++ σ')
  | _, _, _, _, .nil, h => h
  | _, _, _, _, .no r, h => .no (r.append h)
  | _, _, _, _, .so q r, h => .so q (r.append h)
theorem SlR.length {K : Frag} {mg : Mg} {F : Hp} {α : Nat → Addr} {L : List (Nat × LO)} : ∀ {c : List (Option Ce)} {σ : L2.St}, SlR K mg F α L c σ → c.length = σ.length
  | _, _, .nil => rfl
  | _, _, .no r => congrArg (· + 1) r.length
  | _, _, .so _ r => congrArg (· + 1) r.length
theorem _root_.L2.Fun.okN {P : Program} {w : World} {K : Frag} {mg : Mg} {base : Heap} {x qual : Str} {st : Stmt} {f : Addr} {fd : FuncData} {N ps : List Str} {k : Nat} {sp : SpN} (F : Fun K x qual st f fd) (S : FnScope N ps (defScope st)) (len : ∀ cs L Kc, sp cs L Kc → cs.length = ps.length)
    (hbody : ∀ (cdv : Value) (A : Around) (outer : List Env) (s : Shared) (H : Hp) (E : XK) (B : Bd) (cs : List Ce) (L : List (Nat × LO)) (Kc : Ce → List (Nat × LO) → Prop), Room k (A.deeper (envOfC qual (defScope st) s.heap.objs.size f cdv)) → sp cs L Kc →
      Exs (cxOf CX0 P w K mg base N qual (defScope st) f cdv A outer s H E).nox B (defBody st) ⟨startC N cs, L⟩ (retK Kc)) : FnOk P w K mg base CX0 (k + 1) f fd ps (SpOf K mg sp) := by
  refine F.ok S (fun vs H Q E h => ?_) (fun cdv A outer s H vs Q E hr h => ?_)
  · obtain ⟨F', α, L, cs, fp, R, h⟩ := h
    have e1 := R.slots.length
    have e2 := len _ _ _ h
    simp only [List.length_map] at e1
    omega
  · obtain ⟨F', α, L, cs, fp, R, h⟩ := h
    have e1 : cs.length = vs.length := by have := R.slots.length; simpa using this
    refine ⟨_, pss_w, hbody cdv A outer s H E (bdOf F' H fp α L) cs L _ hr h F' α H _ _ (?_ : Rel _ _ _ _ _ _ _ _) ?_⟩
    · refine ⟨R.sub, R.bF, R.nF, R.frame, R.nd, R.inj, R.live, ?_, R.fix⟩
      show SlR _ _ _ _ _ (cs.map some ++ List.replicate (N.length - cs.length) none) (vs.map some ++ List.replicate (N.length - vs.length) none)
      rw [e1]
      exact R.slots.append (slr_rep _)
    · refine ⟨fun S' F1 α1 H1 σ1 k1 R1 s1 => k1 F1 α1 .non H1 S'.ρ σ1 R1 .non, fun S' F1 α1 H1 σ1 k1 R1 s1 => k1.elim, fun S' F1 α1 H1 σ1 k1 R1 s1 => k1.elim, fun c S' F1 α1 H1 σ1 v k1 R1 s1 r1 => k1 F1 α1 v H1 S'.ρ σ1 R1 r1⟩
theorem paired_slots {K : Frag} {mg : Mg} {F : Hp} {α : Nat → Addr} : ∀ {ds : List D} {vs : List V}, Reps K mg F ds vs → SlR K mg F α [] ((ds.map Ce.fr).map some) (vs.map some)
  | _, _, .nil => .nil
  | _, _, .cons h r => .so h (paired_slots r)
theorem Rel.call0 {K : Frag} {mg : Mg} {B : Bd} {F : Hp} {α : Nat → Addr} {H : Hp} {σ : L2.St} {S : Nz.S} {vs : List V} (R : Rel K mg B F α H σ S) (r : Reps K mg F ds vs) : Rel K mg (bdOf F H (fun _ => False) α []) F α H (vs.map some) ⟨(ds.map Ce.fr).map some, []⟩ :=
  ⟨R.sub, Same.refl _, fun b o e => .inl e, fun b o e _ => e, List.nodup_nil, fun n m h => absurd h (by simp [names]), fun n o h => absurd h (by simp), paired_slots r, fun n a h hn => absurd hn (by simp [names])⟩
/-- behind a call that was handed nothing that lives -/
theorem Rel.back0 {K : Frag} {mg : Mg} {B : Bd} {F F' : Hp} {α α' : Nat → Addr} {H H' : Hp} {σ σ' : L2.St} {S S' : Nz.S} (R : Rel K mg B F α H σ S) (R' : Rel K mg (bdOf F H (fun _ => False) α []) F' α' H' σ' S') : Rel K mg B F' α H' σ S :=
  R.grow R'.bF (fun b o e => R'.frame b o e fun z => z) R'.sub fun b u e => by
    rcases R'.nF b u e with z | z | z
    · exact .inl z
    · exact .inr z
    · exact z.elim
variable {CX : CXT} {f C : Addr} {fd : FuncData} {ps : List Str} {k : Nat} {sp : SpN} {dvs : List D}
/-- a value as the text has it, for a default -/
theorem ev_call {ds' : List D} {dvs : List V} {dfs : List Value} (F : FnOk X.prog X.w X.K X.mg X.base CX0 k f fd ps (SpOf X.K X.mg sp)) (hr : Room k X.A) (hm : X.mg x = some (.ref f)) (hk : PySem.W.keepIn X.K (.ref f) = true) (hb : Binds X.K fd ps dfs) (hd : Vals dvs dfs)
    (hdv : ∀ F', Reps X.K X.mg F' ds' dvs) (ha : Ea X B (e :: es) S (ds.map Ce.fr) S1) (hs : ∀ Kc : Ce → List (Nat × LO) → Prop, (∀ L', Kc (.fr d) L') → sp ((ds ++ ds').map Ce.fr) [] Kc) (hg : Gl X x) (h1 : Sub S.L S1.L := by exact Sub.refl) (hdb : (x == ("__debug__" : Str)) = false := by decide)
    (he : starEach (e :: es) X.env = (false, eval e X.env) :: starEach es X.env := by rfl) (hpl : (backTo pos (starEach es X.env)).any (·.1) = false := by rfl) : Ev X B (.Call (.Name x p) (e :: es) [] pos) S (.fr d) S1 :=
  fun F0 α H σ Q R k => wE.of (pe_call F hr hg hm hk hb hd pass0 pa_w hdb he hpl) (ha F0 α H σ _ R fun F1 α1 vs H1 R1 st1 r1 => by
    have r := Reps.append r1.fr (hdv F1)
    exact ⟨F1, α1, [], _, fun _ => False, R1.call0 r, hs _ fun L' F' α' v H' ρ' σ' R' r' => k F' α1 v H' (R1.back0 R') (st1.trans ⟨R'.bF, fun _ _ => rfl⟩ h1) r'⟩)
/-- c' forgets some of c -/
def Fg : List (Option Ce) → List (Option Ce) → Prop
  | [], [] => True
  | a :: as, b :: bs => (b = none ∨ b = a) ∧ Fg as bs
  | _, _ => False
theorem SlR.fg {K : Frag} {mg : Mg} {F : Hp} {α : Nat → Addr} {L : List (Nat × LO)} : ∀ {c c' : List (Option Ce)} {σ : L2.St}, Fg c c' → SlR K mg F α L c σ → SlR K mg F α L c' σ
  | _, [], _, h, .nil => .nil
  | _, b :: bs, _, h, .no r => by
    obtain ⟨h1 | h1, h2⟩ := h
    · subst h1; exact .no (SlR.fg h2 r)
    · subst h1; exact .no (SlR.fg h2 r)
  | _, b :: bs, _, h, .so q r => by
    obtain ⟨h1 | h1, h2⟩ := h
    · subst h1; exact .no (SlR.fg h2 r)
    · subst h1; exact .so q (SlR.fg h2 r)
  | _, [], _, h, .no r => False.elim h
  | _, [], _, h, .so q r => False.elim h
  | _, _ :: _, _, h, .nil => False.elim h
theorem exs_freeze {sts : List Stmt} {K : Out → Prop} (n : Nat) (hn : getL n S.L = some (.fl ds)) (h : Exs X B sts (frS n (.lst ds) S) K) : Exs X B sts S K := fun F α H σ D R o => by
  obtain ⟨F', R', st, _⟩ := R.freeze hn
  exact h F' α H σ D R' (o.mono st.fro)
end
end Nz
namespace Nz
open PySem PySem.Spec PyProof.Rows L2
section
variable {X : Cx} {B : Bd} {S S1 S2 S3 : Nz.S} {a b c e : Expr} {es : List Expr} {pos p q p2 : Pos} {x : Str} {ds : List D} {d d1 d2 : D}
def Eo (X : Cx) (B : Bd) (e : Option Expr) (S : Nz.S) (o : Option Int) : Prop :=
  ∀ F α H σ (Q : Option Int → Hp → Prop), RelX X B F α H σ S → (∀ F' α' H', RelX X B F' α' H' σ S → Stp F α S.L F' α' → Q o H') →
    ∀ pins s, Inv X pins σ H s → wpAny (model X.prog X.w) X.A (evalPart e X.env) (fun u s' => ∃ o H', Inv X pins σ H' s' ∧ IsPart u o ∧ Q o H') X.xe s
theorem eo_none : Eo X B none S none := fun F α H σ Q R k pins s I => po_none.run pins s σ H Q I (k F α H R Stp.refl)
theorem eo_some {i : Int} (h : Ev X B e S (.fr (.int i)) S) : Eo X B (some e) S (some i) := fun F α H σ Q R k pins s I => (po_some pe_w).run pins s σ H Q I (h F α H σ _ R fun F' α' v H' R' st r => by cases r; exact ⟨i, rfl, k F' α' H' R' st⟩)
def tO (X : Cx) (e : Option Expr) : TO := fun σ H Q => ∀ pins s, Inv X pins σ H s → wpAny (model X.prog X.w) X.A (evalPart e X.env) (fun u s' => ∃ o H', Inv X pins σ H' s' ∧ IsPart u o ∧ Q o H') X.xe s
theorem po_w {e : Option Expr} : PO X e (tO X e) := ⟨fun pins s σ H Q I h => h pins s I⟩
def slcD {τ : Type} (xs : List τ) (lo hi : Option Int) : List τ := (xs.drop (HT.sIx xs.length 0 lo)).take (HT.sIx xs.length xs.length hi - HT.sIx xs.length 0 lo)
theorem slcD_map {τ μ : Type} (f : τ → μ) (xs : List τ) (lo hi : Option Int) : slcD (xs.map f) lo hi = (slcD xs lo hi).map f := by
  unfold slcD
  rw [List.length_map, List.map_take, List.map_drop]
theorem ev_sliceL {ca : Ce} {lo hi : Option Expr} {ol oh : Option Int} (ha : Ev X B a S ca S1) (h1 : Eo X B lo S1 ol) (h2 : Eo X B hi S1 oh) (hl : AsL S1.L ca ds) (hS : Sub S.L S1.L := by exact Sub.refl) : Ev X B (.Subscript a (.Slice lo hi none p2) pos) S (.fr (.lst (slcD ds ol oh))) S1 :=
  fun F α H σ Q R k => wE.of (pe_slice sl_list pe_w po_w po_w) (ha F α H σ _ R fun F1 α1 v1 H1 R1 st1 r1 => h1 F1 α1 H1 σ _ R1 fun F2 α2 H2 R2 st2 => h2 F2 α2 H2 σ _ R2 fun F3 α3 H3 R3 st3 => by
    obtain ⟨pa, vs, rfl, hq, rs⟩ := R3.asL hl (r1.step (st2.trans st3 Sub.refl) Sub.refl)
    refine ⟨pa, vs, rfl, hq, fun l hl' => k _ α3 _ _ (R3.allocF hl') ⟨((st1.trans st2 hS).trans st3 hS).fro.trans (same_upd (R3.fresh hl')), ((st1.trans st2 hS).trans st3 hS).nm⟩ (.lst (SqL.of upd_same) (Reps.mono (same_upd (R3.fresh hl')) ?_))⟩
    unfold slcD cutV
    rw [rs.length]
    exact (rs.drop _).take _)
theorem ev_sliceS {z : Str} {lo hi : Option Expr} {ol oh : Option Int} (ha : Ev X B a S (.fr (.str z)) S1) (h1 : Eo X B lo S1 ol) (h2 : Eo X B hi S1 oh) (hz : z.length ≤ sizeLine) (hS : Sub S.L S1.L := by exact Sub.refl) : Ev X B (.Subscript a (.Slice lo hi none p2) pos) S (.fr (.str (cutS z ol oh))) S1 :=
  fun F α H σ Q R k => wE.of (pe_slice sl_str pe_w po_w po_w) (ha F α H σ _ R fun F1 α1 v1 H1 R1 st1 r1 => h1 F1 α1 H1 σ _ R1 fun F2 α2 H2 R2 st2 => h2 F2 α2 H2 σ _ R2 fun F3 α3 H3 R3 st3 => by
    cases r1
    exact ⟨z, rfl, hz, k F3 α3 _ H3 R3 ((st1.trans st2 hS).trans st3 hS) (.str _)⟩)
end
theorem at_map {τ : Type} [Inhabited τ] {enc : τ → D} {xs : List τ} {i : Int} (h0 : 0 ≤ i) (h1 : i < xs.length) : atI (xs.map enc) i = some (enc (xs.getD i.toNat default)) := by
  unfold atI ixN
  rw [if_pos h0, if_pos (by rw [List.length_map]; exact h1)]
  show (xs.map enc)[i.toNat]? = _
  rw [List.getElem?_map]
  have h2 : i.toNat < xs.length := by omega
  rw [List.getElem?_eq_getElem h2, List.getD_eq_getElem?_getD, List.getElem?_eq_getElem h2]
  rfl
end Nz
namespace Nz
open PySem PySem.Spec PyProof.Rows L2
end Nz
namespace Nz
open PySem PySem.Spec PyProof.Rows L2
def Le (S S' : Nz.S) : Prop := Fg S.ρ S'.ρ ∧ S'.L = S.L
theorem fg_refl : ∀ ρ : List (Option Ce), Fg ρ ρ
  | [] => trivial
  | _ :: r => ⟨.inr rfl, fg_refl r⟩
theorem Le.refl {S : Nz.S} : Le S S := ⟨fg_refl _, rfl⟩
theorem Le.of {S S' : Nz.S} (h : S = S') : Le S S' := h ▸ Le.refl
theorem Rel.le {K : Frag} {mg : Mg} {B : Bd} {F : Hp} {α : Nat → Addr} {H : Hp} {σ : L2.St} {S S' : Nz.S} (R : Rel K mg B F α H σ S) (h : Le S S') : Rel K mg B F α H σ S' := by
  obtain ⟨ρ', L'⟩ := S'
  obtain ⟨h1, h2⟩ := h
  have h2 : L' = S.L := h2
  subst h2
  exact ⟨R.sub, R.bF, R.nF, R.frame, R.nd, R.inj, R.live, R.slots.fg h1, R.fix⟩
def loopS (st : Nat → Nz.S) (P : Nat → Prop) (K : Out → Prop) (i : Nat) : Out → Prop
  | .nx S => Le S (st (i + 1)) ∧ P (i + 1)
  | .ct S => Le S (st (i + 1)) ∧ P (i + 1)
  | .bk S => K (.nx S)
  | .ret c S => K (.ret c S)
section
variable {X : Cx} {B : Bd} {S S1 S2 S3 : Nz.S} {tg a b c e : Expr} {es : List Expr} {pos p q p2 : Pos} {K : Out → Prop} {body : List Stmt}
theorem ex_forT {τ : Type} {ys : List τ} {enc : τ → D} (hp : PassesOwn (model X.prog X.w) X.A X.env X.xe) (hc : X.calm = true) (st : Nat → Nz.S) (P : Nat → Prop) (hsrc : Src X B tg e S (ys.map enc) S1) (h0 : Le S1 (st 0)) (p0 : P 0)
    (hs : ∀ i y, ys[i]? = some y → P i → ∃ S2, Eg X B tg (.fr (enc y)) (st i) S2 ∧ Exs X B body S2 (loopS st P K i)) (hd : P ys.length → K (.nx (st ys.length))) (hf : ∀ x, foldedSetIterable e X.env x = pure x := by intro _; rfl) : Ex X B (.For tg e body [] pos) S K :=
  fun F α H σ D R o => wS.of (ps_for hp hc pi_w pg_w pss_w hf) (hsrc F α H σ _ R fun F1 α1 H1 J R1 st1 j => by
    have o1 := o.mono st1.fro
    refine ⟨fun i m σ' H' => m = ys.length - i ∧ i ≤ ys.length ∧ ∃ F' α', RelX X B F' α' H' σ' (st i) ∧ Same F1 F' ∧ P i, ⟨ys.length, by simp, Nat.zero_le _, F1, α1, R1.le h0, Same.refl _, p0⟩, ?_⟩
    rintro i m σ' H' ⟨rfl, hi, F', α', R', sm, q⟩
    by_cases hlt : i < ys.length
    · have e1 : ys[i]? = some ys[i] := by simp [hlt]
      obtain ⟨g, y⟩ := j.go B F' α' H' σ' (st i) i (enc ys[i]) R' sm (by rw [List.getElem?_map, e1]; rfl)
      obtain ⟨S2, hg, hb⟩ := hs i _ e1 q
      refine .inr ⟨g, fun σ2 H2 => ∃ F2 α2, RelX X B F2 α2 H2 σ2 (st (i + 1)) ∧ Same F1 F2 ∧ P (i + 1), fun σ2 H2 ⟨F2, α2, R2, s2, q2⟩ => ⟨ys.length - (i + 1), by omega, rfl, hlt, F2, α2, R2, s2, q2⟩, fun x H2 yy => ?_⟩
      obtain ⟨F2, R2, s2, r2⟩ := y x H2 yy
      refine hg F2 α' H2 σ' x _ R2 r2 fun σ3 F3 H3 R3 s3 => hb F3 α' H3 σ3 _ R3 ?_
      have sall : Same F1 F3 := sm.trans (s2.trans s3)
      refine ⟨fun S4 F4 α4 H4 σ4 k4 R4 s4 => ⟨F4, α4, R4.le k4.1, sall.trans s4, k4.2⟩, fun S4 F4 α4 H4 σ4 k4 R4 s4 => o1.nx S4 F4 α4 H4 σ4 k4 R4 (sall.trans s4), fun S4 F4 α4 H4 σ4 k4 R4 s4 => ⟨F4, α4, R4.le k4.1, sall.trans s4, k4.2⟩,
        fun c S4 F4 α4 H4 σ4 v k4 R4 s4 r4 => o1.ret c S4 F4 α4 H4 σ4 v k4 R4 (sall.trans s4) r4⟩
    · have e1 : i = ys.length := by omega
      subst e1
      exact .inl ⟨j.stop B F' α' H' σ' _ _ R' sm (by rw [List.length_map]; exact Nat.le_refl _), o1.nx _ F' α' H' σ' (hd q) R' sm⟩)
inductive Ix (L : List (Nat × LO)) : Ce → Int → D → Prop
  | l {c : Ce} {ds : List D} {i : Int} {d : D} (h : AsL L c ds) (h2 : atI ds i = some d) : Ix L c i d
  | t {ds : List D} {i : Int} {d : D} (h2 : atI ds i = some d) : Ix L (.fr (.tup ds)) i d
theorem ev_ix {ca : Ce} {i : Int} {d : D} (hx : Ix S2.L ca i d) (ha : Ev X B a S ca S1) (hb : Ev X B b S1 (.fr (.int i)) S2) (hs : PlainIx b := by exact fun _ _ => rfl) (h1 : Sub S.L S1.L := by exact Sub.refl) (h2 : Sub S1.L S2.L := by exact Sub.refl) :
    Ev X B (.Subscript a b pos) S (.fr d) S2 := by
  cases hx with
  | l h h2' => exact ev_ixL ha hb h h2' hs h1 h2
  | t h2' => exact ev_ixT ha hb h2' hs h1 h2
inductive Ln (L : List (Nat × LO)) : Ce → Nat → Prop
  | l {c : Ce} {ds : List D} (h : AsL L c ds) : Ln L c ds.length
  | t {ds : List D} : Ln L (.fr (.tup ds)) ds.length
  | s {z : Str} (h : z.length ≤ sizeLine) : Ln L (.fr (.str z)) z.length
theorem ev_len {ca : Ce} {n : Nat} (hx : Ln S1.L ca n) (ha : Ev X B e S ca S1) (hg : Gl X "len") (hm : X.mg "len" = none) (h1 : Sub S.L S1.L := by exact Sub.refl) (hs : starEach [e] X.env = (false, eval e X.env) :: starEach [] X.env := by rfl) (hpl : (backTo pos (starEach [] X.env)).any (·.1) = false := by rfl) :
    Ev X B (.Call (.Name "len" p) [e] [] pos) S (.fr (.int n)) S1 := by
  cases hx with
  | l h => exact ev_lenL ha h hg hm hs hpl
  | t => exact ev_callB c_lenT (ea_cons ha ea_nil h1 Sub.refl hs) hg hm PySem.boot_len h1 (by decide) (by decide) hs hpl
  | s h => exact ev_callB (c_lenS h) (ea_cons ha ea_nil h1 Sub.refl hs) hg hm PySem.boot_len h1 (by decide) (by decide) hs hpl
end
theorem seq_range {n i y : Nat} (h : (List.range n)[i]? = some y) : i < n ∧ y = i := by
  by_cases hi : i < n
  · rw [List.getElem?_range hi] at h; exact ⟨hi, (Option.some.inj h).symm⟩
  · rw [List.getElem?_eq_none (by simpa using hi)] at h; cases h
theorem take_snoc {τ : Type} {ys : List τ} {i : Nat} {y : τ} (h : ys[i]? = some y) : ys.take (i + 1) = ys.take i ++ [y] := by rw [List.take_succ, h]; rfl
theorem foldl_snoc {τ β : Type} {ys : List τ} {i : Nat} {y : τ} (f : β → τ → β) (b : β) (h : ys[i]? = some y) : (ys.take (i + 1)).foldl f b = f ((ys.take i).foldl f b) y := by rw [take_snoc h, List.foldl_append]; rfl
end Nz
namespace Nz
open PySem PySem.Spec PyProof.Rows L2
abbrev eL {τ : Type} (e : τ → D) (xs : List τ) : D := .lst (xs.map e)
abbrev eU {τ : Type} (e : τ → D) (xs : List τ) : D := .tup (xs.map e)
abbrev eT2 {τ μ : Type} (e : τ → D) (f : μ → D) (p : τ × μ) : D := .tup [e p.1, f p.2]
abbrev eT3 {τ μ ν : Type} (e : τ → D) (f : μ → D) (g : ν → D) (p : τ × μ × ν) : D := .tup [e p.1, f p.2.1, g p.2.2]
abbrev eO {τ : Type} (e : τ → D) : Option τ → D
  | none => .non
  | some x => e x
section
variable {X : Cx} {B : Bd} {S S1 S2 S3 : Nz.S} {tg a b c e : Expr} {es : List Expr} {pos p q p2 : Pos} {K : Out → Prop} {τ : Type} {enc : τ → D}
theorem ix_L [Inhabited τ] {L : List (Nat × LO)} {xs : List τ} {c : Ce} {i : Int} (h : AsL L c (xs.map enc)) (h0 : 0 ≤ i) (h1 : i < xs.length) : Ix L c i (enc (xs.getD i.toNat default)) := .l h (at_map h0 h1)
theorem ix_U [Inhabited τ] {L : List (Nat × LO)} {xs : List τ} {i : Int} (h0 : 0 ≤ i) (h1 : i < xs.length) : Ix L (.fr (eU enc xs)) i (enc (xs.getD i.toNat default)) := .t (at_map h0 h1)
theorem ln_L {L : List (Nat × LO)} {xs : List τ} {c : Ce} (h : AsL L c (xs.map enc)) : Ln L c xs.length := by
  have := Ln.l h
  rwa [List.length_map] at this
theorem ev_sliceT {ca : Ce} {xs : List τ} {lo hi : Option Expr} {ol oh : Option Int} (hl : AsL S1.L ca (xs.map enc)) (ha : Ev X B a S ca S1) (h1 : Eo X B lo S1 ol) (h2 : Eo X B hi S1 oh) (hS : Sub S.L S1.L := by exact Sub.refl) : Ev X B (.Subscript a (.Slice lo hi none p2) pos) S (.fr (eL enc (slcD xs ol oh))) S1 := by
  have := ev_sliceL (pos := pos) (p2 := p2) ha h1 h2 hl hS
  rwa [slcD_map] at this
/-- [..] that lives, by its data -/
theorem ev_lstN (n : Nat) (xs : List τ) {ds : List D} (h : Ea X B es S (ds.map Ce.fr) S1) (hd : ds = xs.map enc) (hz : xs.length ≤ sizeLine) (hn : n ∉ names S1.L) (h100 : 100 ≤ n) (h1 : Sub S.L S1.L := by exact Sub.refl) : Ev X B (.List es pos) S (.ad n) ⟨S1.ρ, S1.L ++ [(n, .fl (xs.map enc))]⟩ := by
  subst hd
  exact ev_lstL n h (by rw [List.length_map]; exact hz) hn h100 h1
theorem ev_appendT {n : Nat} {o : Expr} {apos : Pos} {xs xs0 : List τ} (x : τ) {d : D} (hd : d = enc x) (hn : getL n S1.L = some (.fl (xs.map enc))) (hn0 : getL n S.L = some (.fl (xs0.map enc))) (hz : xs.length < sizeLine) (ho : Ev X B o S (.ad n) S) (ha : Ev X B e S (.fr d) S1) (h1 : Sub S.L S1.L := by exact Sub.refl)
    (hbase : attributeBase o "append" X.env (eval o X.env) = eval o X.env := by rfl)
    (hfew : ((backTo pos (starEach (e :: []) X.env)).all (fun x => !x.1) && (backToKw pos (keywordEach [] X.env)).all (fun x => x.1.isSome)
      && decide ((e :: ([] : List Expr)).length + ([] : List Keyword).length + (if ([] : List Keyword).isEmpty then 0 else 1) < 30)) = true := by rfl)
    (hline : (apos.endLine == pos.line) = true := by rfl) (hs : starEach (e :: []) X.env = (false, eval e X.env) :: starEach [] X.env := by rfl) (hplain : (backTo pos (starEach [] X.env)).any (·.1) = false := by rfl) :
    Ev X B (.Call (.Attribute o "append" apos) [e] [] pos) S (.fr .non) ⟨S1.ρ, setL n (.fl ((xs ++ [x]).map enc)) S1.L⟩ := by
  subst hd
  have := ev_append (pos := pos) (apos := apos) ho ha hn hn0 (by rw [List.length_map]; exact hz) h1 hbase hfew hline hs hplain
  rwa [show xs.map enc ++ [enc x] = (xs ++ [x]).map enc by simp] at this
theorem c_listL {xs : List τ} : Cb X (.type "list") [eL enc xs] (eL enc xs) := c_list
theorem src_listT {xs : List τ} (h : Ev X B e S (.fr (eL enc xs)) S1) : Src X B tg e S (xs.map enc) S1 := src_list h
theorem src_tupT {xs : List τ} (h : Ev X B e S (.fr (eU enc xs)) S1) : Src X B tg e S (xs.map enc) S1 := src_tup h
theorem exs_freezeT {sts : List Stmt} (n : Nat) {xs : List τ} (hn : getL n S.L = some (.fl (xs.map enc))) (h : Exs X B sts (frS n (eL enc xs) S) K) : Exs X B sts S K := exs_freeze n hn h
/-- an if that only stores: its two ends are one state -/
theorem ex_join {st : Stmt} (Sj : Nz.S) (h : Ex X B st S fun o => ∃ S', o = .nx S' ∧ Le S' Sj) (k : K (.nx Sj)) : Ex X B st S K := fun F α H σ D R o => h F α H σ D R
  ⟨fun S' F' α' H' σ' k' R' s' => (by
      obtain ⟨S2, e1, e2⟩ := k'
      cases e1
      exact o.nx Sj F' α' H' σ' k (R'.le e2) s'),
    fun S' F' α' H' σ' k' R' s' => (by obtain ⟨_, e1, _⟩ := k'; cases e1), fun S' F' α' H' σ' k' R' s' => (by obtain ⟨_, e1, _⟩ := k'; cases e1), fun c S' F' α' H' σ' v k' R' s' r => (by obtain ⟨_, e1, _⟩ := k'; cases e1)⟩
end
theorem PassesOwn.nox {P : Program} {w : World} {A : Around} {env : Env} : PassesOwn (model P w) A env (fun _ _ => False) := PassesOwn.never
end Nz
namespace Nz
open PySem PySem.Spec PyProof.Rows L2
theorem lm_map {τ μ : Type} (ys : List τ) (g : τ → μ) (enc2 : μ → D) : ((ys.filter fun _ => true).map fun y => enc2 (g y)) = (ys.map g).map enc2 := by
  rw [List.filter_eq_self.mpr (fun _ _ => rfl), List.map_map]; rfl
theorem lm_filt {τ μ : Type} (ys : List τ) (p : τ → Bool) (g : τ → μ) (enc2 : μ → D) : ((ys.filter p).map fun y => enc2 (g y)) = ((ys.filter p).map g).map enc2 := by
  rw [List.map_map]; rfl
theorem bd_d {p : Prop} [Decidable p] : decide p = true ↔ p := decide_eq_true_iff
theorem bd_and {a b : Bool} {p q : Prop} (h1 : a = true ↔ p) (h2 : b = true ↔ q) : (a && b) = true ↔ (p ∧ q) := by rw [Bool.and_eq_true, h1, h2]
theorem bd_or {a b : Bool} {p q : Prop} (h1 : a = true ↔ p) (h2 : b = true ↔ q) : (a || b) = true ↔ (p ∨ q) := by rw [Bool.or_eq_true, h1, h2]
theorem bd_not {a : Bool} {p : Prop} (h1 : a = true ↔ p) : (!a) = true ↔ ¬ p := by rw [← h1]; cases a <;> simp
theorem bd_n {p : Prop} [Decidable p] : (!decide p) = true ↔ ¬ p := bd_not bd_d
section
variable {X : Cx} {B : Bd} {S S1 S2 S3 : Nz.S} {tg a b c e : Expr} {es : List Expr} {pos p q p2 : Pos} {K : Out → Prop} {body els : List Stmt}
theorem ex_ifP {i : Bool} {P : Prop} (h : i = true ↔ P) (ht : Et X B e S i S1) (ha : P → Exs X B body S1 K) (hb : ¬ P → Exs X B els S1 K) : Ex X B (.If e body els pos) S K :=
  ex_if ht (fun z => ha (h.mp z)) fun z => hb fun w => by rw [h.mpr w] at z; cases z
theorem ev_andP {i j : Bool} {P : Prop} (h : i = true ↔ P) (ha : Ev X B a S (.fr (.bl i)) S) (hb : P → Ev X B (.BoolOp .And (b :: es) pos) S (.fr (.bl j)) S) : Ev X B (.BoolOp .And (a :: b :: es) pos) S (.fr (.bl (i && j))) S := ev_and ha fun z => hb (h.mp z)
theorem ev_orP {i j : Bool} {P : Prop} (h : i = true ↔ P) (ha : Ev X B a S (.fr (.bl i)) S) (hb : ¬ P → Ev X B (.BoolOp .Or (b :: es) pos) S (.fr (.bl j)) S) : Ev X B (.BoolOp .Or (a :: b :: es) pos) S (.fr (.bl (i || j))) S := ev_or ha fun z => hb fun w => by rw [h.mpr w] at z; cases z
theorem ew_andP {i j : Bool} {P : Prop} (h : i = true ↔ P) (ha : Et X B a S i S) (hb : P → Ew X B (.BoolOp .And (b :: es) pos) S j) : Ew X B (.BoolOp .And (a :: b :: es) pos) S (i && j) := ew_and ha fun z => hb (h.mp z)
theorem ew_orP {i j : Bool} {P : Prop} (h : i = true ↔ P) (ha : Et X B a S i S) (hb : ¬ P → Ew X B (.BoolOp .Or (b :: es) pos) S j) : Ew X B (.BoolOp .Or (a :: b :: es) pos) S (i || j) := ew_or ha fun z => hb fun w => by rw [h.mpr w] at z; cases z
/-- a op b op' c -/
theorem ev_chain {op op' : CmpOp} {d1 d2 d3 : D} {i j : Bool} {P : Prop} (h : i = true ↔ P) (ho : Op2 X (compareOp op) d1 d2 (.bl i)) (ho' : Op2 X (compareOp op') d2 d3 (.bl j)) (ha : Ev X B a S (.fr d1) S) (hb : Ev X B b S (.fr d2) S) (hc : P → Ev X B c S (.fr d3) S)
    (hm : lastMarks [op, op'] [b, c] = false := by with_unfolding_all rfl) : Ev X B (.Compare a [op, op'] [b, c] pos) S (.fr (.bl (i && j))) S := fun F α H σ Q R k => by
  intro pins s I
  refine Compare_chain (thn (ha F α H σ _ R (fun F1 α1 v1 H1 R1 st1 r1 => hb F1 α1 H1 σ (fun v2 H2 => ∃ F2 α2, RelX X B F2 α2 H2 σ S ∧ Stp F α S.L F2 α2 ∧ Rep X.K X.mg F2 d1 v1 ∧ Rep X.K X.mg F2 d2 v2) R1 fun F2 α2 v2 H2 R2 st2 r2 => ⟨F2, α2, R2, st1.trans st2 Sub.refl, Rep.mono st2.fro r1, r2⟩) pins s I)
    fun v s1 ⟨x, H1, I1, rv, q1⟩ => chain_link (thn (q1 pins s1 I1) fun u s2 ⟨y, H2, I2, ru, F2, α2, R2, st, r1, r2⟩ =>
    thn (ho B F2 α2 H2 σ S (fun v' H' => ∃ F3 α3, v' = .bl i ∧ RelX X B F3 α3 H' σ S ∧ Stp F2 α2 S.L F3 α3) x y R2 r1 r2 (fun F3 α3 v' H3 R3 st3 r3 => by cases r3; exact ⟨F3, α3, rfl, R3, st3⟩) pins s2 v u I2 rv ru) fun d s3 ⟨z, H3, I3, r3, F3, α3, e, R3, st3⟩ => ?_)) hm
  subst e
  cases r3
  refine wpAny_truthy_bool ?_
  have stA : Stp F α S.L F3 α3 := st.trans st3 Sub.refl
  cases i with
  | false => exact ite_ff ⟨.bl false, H3, I3, rfl, k F3 α3 (.bl false) H3 R3 stA (show Rep X.K X.mg F3 (.bl (false && j)) (.bl false) from .bl false)⟩
  | true =>
    refine ite_tt (chain_last (thn (hc (h.mp rfl) F3 α3 H3 σ (fun v3 H4 => ∃ F4 α4, RelX X B F4 α4 H4 σ S ∧ Stp F α S.L F4 α4 ∧ Rep X.K X.mg F4 d2 y ∧ Rep X.K X.mg F4 d3 v3) R3 (fun F4 α4 v4 H4 R4 st4 r4 => ⟨F4, α4, R4, stA.trans st4 Sub.refl, Rep.mono (st3.fro.trans st4.fro) r2, r4⟩) pins s3 I3)
      fun w' s4 ⟨z', H4, I4, r4, F4, α4, R4, st4, q2, q3⟩ => ?_))
    exact ho' B F4 α4 H4 σ S Q y z' R4 q2 q3 (fun F5 α5 v5 H5 R5 st5 r5 => k F5 α5 v5 H5 R5 (st4.trans st5 Sub.refl) (show Rep X.K X.mg F5 (.bl (true && j)) v5 from r5)) pins s4 u w' I4 ru r4
/-- .. as a test -/
theorem et_chain {op op' : CmpOp} {d1 d2 d3 : D} {i j : Bool} {P : Prop} (h : i = true ↔ P) (ho : Op2 X (compareOp op) d1 d2 (.bl i)) (ho' : Op2 X (compareOp op') d2 d3 (.bl j)) (ha : Ev X B a S (.fr d1) S) (hb : Ev X B b S (.fr d2) S) (hc : P → Ev X B c S (.fr d3) S)
    (hm : lastMarks [op, op'] [b, c] = false := by with_unfolding_all rfl) : Et X B (.Compare a [op, op'] [b, c] pos) S (i && j) S := fun F α H σ Q R k => by
  intro pins s I
  refine isTrue_chain (thn (ha F α H σ _ R (fun F1 α1 v1 H1 R1 st1 r1 => hb F1 α1 H1 σ (fun v2 H2 => ∃ F2 α2, RelX X B F2 α2 H2 σ S ∧ Stp F α S.L F2 α2 ∧ Rep X.K X.mg F2 d1 v1 ∧ Rep X.K X.mg F2 d2 v2) R1 fun F2 α2 v2 H2 R2 st2 r2 => ⟨F2, α2, R2, st1.trans st2 Sub.refl, Rep.mono st2.fro r1, r2⟩) pins s I)
    fun v s1 ⟨x, H1, I1, rv, q1⟩ => test_link (thn (q1 pins s1 I1) fun u s2 ⟨y, H2, I2, ru, F2, α2, R2, st, r1, r2⟩ =>
    thn (ho B F2 α2 H2 σ S (fun v' H' => ∃ F3 α3, v' = .bl i ∧ RelX X B F3 α3 H' σ S ∧ Stp F2 α2 S.L F3 α3) x y R2 r1 r2 (fun F3 α3 v' H3 R3 st3 r3 => by cases r3; exact ⟨F3, α3, rfl, R3, st3⟩) pins s2 v u I2 rv ru) fun d s3 ⟨z, H3, I3, r3, F3, α3, e, R3, st3⟩ => ?_)) hm
  subst e
  cases r3
  refine wpAny_truthy_bool ?_
  have stA : Stp F α S.L F3 α3 := st.trans st3 Sub.refl
  cases i with
  | false => exact ite_ff ⟨H3, I3, by simpa using k F3 α3 H3 R3 stA⟩
  | true =>
    refine ite_tt (test_last (thn (hc (h.mp rfl) F3 α3 H3 σ (fun v3 H4 => ∃ F4 α4, RelX X B F4 α4 H4 σ S ∧ Stp F α S.L F4 α4 ∧ Rep X.K X.mg F4 d2 y ∧ Rep X.K X.mg F4 d3 v3) R3 (fun F4 α4 v4 H4 R4 st4 r4 => ⟨F4, α4, R4, stA.trans st4 Sub.refl, Rep.mono (st3.fro.trans st4.fro) r2, r4⟩) pins s3 I3)
      fun w' s4 ⟨z', H4, I4, r4, F4, α4, R4, st4, q2, q3⟩ => thn (ho' B F4 α4 H4 σ S (fun v' H' => v' = .bl j ∧ ∃ F5 α5, RelX X B F5 α5 H' σ S ∧ Stp F4 α4 S.L F5 α5) y z' R4 q2 q3 (fun F5 α5 v5 H5 R5 st5 r5 => by cases r5; exact ⟨rfl, F5, α5, R5, st5⟩) pins s4 u w' I4 ru r4) fun d' s5 ⟨z2, H5, I5, r5, e2, F5, α5, R5, st5⟩ => ?_))
    subst e2
    cases r5
    exact wpAny_truthy_bool ⟨H5, I5, by simpa using k F5 α5 H5 R5 (st4.trans st5 Sub.refl)⟩
variable {elt iter : Expr} {ifs : List Expr} {scope : Scope} {own : List (Str × Nat)} {τ μ : Type} {ys : List τ} {enc : τ → D} {enc2 : μ → D}
/-- [g y for y in ys], typed -/
theorem ev_lcM (nD : Nat) (g : τ → μ) (Sx : Nat → τ → List D → Nz.S) (hc : X.calm = true) (hN : X.N.Nodup) (ok : BlkOk X.N X.env.scope scope own)
    (hsrc : Src X B tg iter S (ys.map enc) S1) (hn : nD ∉ names S1.L) (h100 : 100 ≤ nD) (hz : ys.length ≤ sizeLine)
    (hg : ∀ i y acc, ys[i]? = some y → ∀ s H0 C cl fp, EgC (Blk X scope s H0 C cl fp) B tg (.fr (enc y)) ⟨wipeC S1.ρ (own.map (·.2)), S1.L ++ [(nD, .fl acc)]⟩ (Sx i y acc) (own.map (·.2)))
    (he : ∀ i y acc, ys[i]? = some y → ∀ s H0 C cl fp, Ev (Blk X scope s H0 C cl fp) B elt (Sx i y acc) (.fr (enc2 (g y))) (Sx i y acc)) (hL : ∀ i y acc, (Sx i y acc).L = S1.L ++ [(nD, .fl acc)] := by exact fun _ _ _ => rfl) (hS : Sub S.L S1.L := by exact Sub.refl) (hs : ∀ x, foldedSetIterable iter X.env x = pure x := by intro _; rfl) :
    Ev X B (.ListComp elt [⟨tg, iter, [], 0⟩] scope pos) S (.fr (eL enc2 (ys.map g))) S1 := by
  have := ev_lc (pos := pos) nD ys enc (fun y => enc2 (g y)) (fun _ => true) Sx hc hN ok hsrc hn h100 hz hL hg (fun _ _ _ _ _ _ _ _ _ => ets_nil) (fun i y acc h1 _ => he i y acc h1) hS hs
  rwa [lm_map] at this
theorem ex_setLcM (i : Nat) {y : Str} {py spos : Pos} (nD : Nat) (g : τ → μ) (Sx : Nat → τ → List D → Nz.S) (hc : X.calm = true) (hN : X.N.Nodup) (hy : X.N[i]? = some y) (hyl : X.env.scope.names.lookup y = some .local)
    (hsw : swapsWith (.ListComp elt [⟨tg, iter, [], 0⟩] scope pos) (some (.Name y py)) spos.line X.env = pure true) (ok : BlkOk X.N X.env.scope scope own)
    (hsrc : Src X B tg iter S (ys.map enc) S1) (hn : nD ∉ names S1.L) (h100 : 100 ≤ nD) (hz : ys.length ≤ sizeLine)
    (hg : ∀ i y acc, ys[i]? = some y → ∀ s H0 C cl fp, EgC (Blk X scope s H0 C cl fp) B tg (.fr (enc y)) ⟨wipeC S1.ρ (own.map (·.2)), S1.L ++ [(nD, .fl acc)]⟩ (Sx i y acc) (own.map (·.2)))
    (he : ∀ i y acc, ys[i]? = some y → ∀ s H0 C cl fp, Ev (Blk X scope s H0 C cl fp) B elt (Sx i y acc) (.fr (enc2 (g y))) (Sx i y acc))
    (k : K (.nx (setS S1 i (.fr (eL enc2 (ys.map g)))))) (hL : ∀ i y acc, (Sx i y acc).L = S1.L ++ [(nD, .fl acc)] := by exact fun _ _ _ => rfl) (hS : Sub S.L S1.L := by exact Sub.refl) (hs : ∀ x, foldedSetIterable iter X.env x = pure x := by intro _; rfl) :
    Ex X B (.Assign [.Name y py] (.ListComp elt [⟨tg, iter, [], 0⟩] scope pos) spos) S K :=
  ex_setLc i nD ys enc (fun y => enc2 (g y)) (fun _ => true) Sx hc hN hy hyl hsw ok hsrc hn h100 hz hL hg (fun _ _ _ _ _ _ _ _ _ => ets_nil) (fun i y acc h1 _ => he i y acc h1) (by
    rw [lm_map]; exact k) hS hs
/-- [g y for y in ys if p y], typed -/
theorem ev_lcF (nD : Nat) (g : τ → μ) (p : τ → Bool) (Sx : Nat → τ → List D → Nz.S) (hc : X.calm = true) (hN : X.N.Nodup) (ok : BlkOk X.N X.env.scope scope own)
    (hsrc : Src X B tg iter S (ys.map enc) S1) (hn : nD ∉ names S1.L) (h100 : 100 ≤ nD) (hz : ys.length ≤ sizeLine)
    (hg : ∀ i y acc, ys[i]? = some y → ∀ s H0 C cl fp, EgC (Blk X scope s H0 C cl fp) B tg (.fr (enc y)) ⟨wipeC S1.ρ (own.map (·.2)), S1.L ++ [(nD, .fl acc)]⟩ (Sx i y acc) (own.map (·.2)))
    (ht : ∀ i y acc, ys[i]? = some y → ∀ s H0 C cl fp, Et (Blk X scope s H0 C cl fp) B a (Sx i y acc) (p y) (Sx i y acc))
    (he : ∀ i y acc, ys[i]? = some y → p y = true → ∀ s H0 C cl fp, Ev (Blk X scope s H0 C cl fp) B elt (Sx i y acc) (.fr (enc2 (g y))) (Sx i y acc)) (hL : ∀ i y acc, (Sx i y acc).L = S1.L ++ [(nD, .fl acc)] := by exact fun _ _ _ => rfl) (hS : Sub S.L S1.L := by exact Sub.refl) (hs : ∀ x, foldedSetIterable iter X.env x = pure x := by intro _; rfl) :
    Ev X B (.ListComp elt [⟨tg, iter, [a], 0⟩] scope pos) S (.fr (eL enc2 ((ys.filter p).map g))) S1 := by
  have := ev_lc (pos := pos) nD ys enc (fun y => enc2 (g y)) p Sx hc hN ok hsrc hn h100 hz hL hg (fun i y acc h s H0 C cl fp => ets_one (ht i y acc h s H0 C cl fp)) he hS hs
  rwa [lm_filt] at this
theorem ex_setLcF (i : Nat) {y : Str} {py spos : Pos} (nD : Nat) (g : τ → μ) (p : τ → Bool) (Sx : Nat → τ → List D → Nz.S) (hc : X.calm = true) (hN : X.N.Nodup) (hy : X.N[i]? = some y) (hyl : X.env.scope.names.lookup y = some .local)
    (hsw : swapsWith (.ListComp elt [⟨tg, iter, [a], 0⟩] scope pos) (some (.Name y py)) spos.line X.env = pure true) (ok : BlkOk X.N X.env.scope scope own)
    (hsrc : Src X B tg iter S (ys.map enc) S1) (hn : nD ∉ names S1.L) (h100 : 100 ≤ nD) (hz : ys.length ≤ sizeLine)
    (hg : ∀ i y acc, ys[i]? = some y → ∀ s H0 C cl fp, EgC (Blk X scope s H0 C cl fp) B tg (.fr (enc y)) ⟨wipeC S1.ρ (own.map (·.2)), S1.L ++ [(nD, .fl acc)]⟩ (Sx i y acc) (own.map (·.2)))
    (ht : ∀ i y acc, ys[i]? = some y → ∀ s H0 C cl fp, Et (Blk X scope s H0 C cl fp) B a (Sx i y acc) (p y) (Sx i y acc))
    (he : ∀ i y acc, ys[i]? = some y → p y = true → ∀ s H0 C cl fp, Ev (Blk X scope s H0 C cl fp) B elt (Sx i y acc) (.fr (enc2 (g y))) (Sx i y acc))
    (k : K (.nx (setS S1 i (.fr (eL enc2 ((ys.filter p).map g)))))) (hL : ∀ i y acc, (Sx i y acc).L = S1.L ++ [(nD, .fl acc)] := by exact fun _ _ _ => rfl) (hS : Sub S.L S1.L := by exact Sub.refl) (hs : ∀ x, foldedSetIterable iter X.env x = pure x := by intro _; rfl) :
    Ex X B (.Assign [.Name y py] (.ListComp elt [⟨tg, iter, [a], 0⟩] scope pos) spos) S K :=
  ex_setLc i nD ys enc (fun y => enc2 (g y)) p Sx hc hN hy hyl hsw ok hsrc hn h100 hz hL hg (fun i y acc h s H0 C cl fp => ets_one (ht i y acc h s H0 C cl fp)) he (by
    rw [lm_filt]; exact k) hS hs
end
end Nz
namespace Nz
open PySem PySem.Spec PyProof.Rows L2
def loopF (Sn : Nz.S) (q : Prop) : Out → Prop
  | .nx S => Le S Sn ∧ q
  | .ct S => Le S Sn ∧ q
  | _ => False
def runE {τ σ ρ : Type} (step : σ → τ → Except ρ σ) : List τ → σ → Except ρ σ
  | [], s => .ok s
  | y :: ys, s => match step s y with
    | .error r => .error r
    | .ok s' => runE step ys s'
def loopE {σ ρ : Type} (stF : σ → Nz.S) (o : Except ρ σ) (Q : σ → Prop) (R : ρ → Ce → Nz.S → Prop) : Out → Prop
  | .nx S => ∃ s', o = .ok s' ∧ Le S (stF s') ∧ Q s'
  | .ct S => ∃ s', o = .ok s' ∧ Le S (stF s') ∧ Q s'
  | .ret c S => ∃ r, o = .error r ∧ R r c S
  | _ => False
section
variable {X : Cx} {B : Bd} {S S1 S2 S3 : Nz.S} {tg a b c e : Expr} {es : List Expr} {pos p q p2 : Pos} {K : Out → Prop} {body : List Stmt} {τ σ ρ : Type} {ys : List τ} {enc : τ → D}
theorem take_foldl {step : σ → τ → σ} {s0 : σ} {i : Nat} {y : τ} (h : ys[i]? = some y) : (ys.take (i + 1)).foldl step s0 = step ((ys.take i).foldl step s0) y := foldl_snoc step s0 h
theorem ex_forF (stF : σ → Nz.S) (step : σ → τ → σ) (s0 : σ) (Q : Nat → σ → Prop) (hsrc : Src X B tg e S (ys.map enc) S1) (h0 : Le S1 (stF s0)) (q0 : Q 0 s0)
    (hs : ∀ i y s, ys[i]? = some y → Q i s → ∃ S2, Eg X B tg (.fr (enc y)) (stF s) S2 ∧ Exs X B body S2 (loopF (stF (step s y)) (Q (i + 1) (step s y)))) (hd : Q ys.length (ys.foldl step s0) → K (.nx (stF (ys.foldl step s0))))
    (hp : PassesOwn (model X.prog X.w) X.A X.env X.xe) (hc : X.calm = true) (hf : ∀ x, foldedSetIterable e X.env x = pure x := by intro _; rfl) : Ex X B (.For tg e body [] pos) S K := by
  refine ex_forT hp hc (fun i => stF ((ys.take i).foldl step s0)) (fun i => Q i ((ys.take i).foldl step s0)) hsrc h0 q0 (fun i y hy hP => ?_) (fun hP => ?_) hf
  · obtain ⟨S2, h1, h2⟩ := hs i y _ hy hP
    refine ⟨S2, h1, h2.mono fun o ho => ?_⟩
    cases o with
    | nx S => show Le S (stF ((ys.take (i + 1)).foldl step s0)) ∧ Q (i + 1) ((ys.take (i + 1)).foldl step s0); rw [take_foldl hy]; exact ho
    | ct S => show Le S (stF ((ys.take (i + 1)).foldl step s0)) ∧ Q (i + 1) ((ys.take (i + 1)).foldl step s0); rw [take_foldl hy]; exact ho
    | bk S => exact False.elim ho
    | ret c S => exact False.elim ho
  · rw [List.take_length] at hP ⊢
    exact hd hP
theorem runE_cons {step : σ → τ → Except ρ σ} {x : τ} {xs : List τ} {s : σ} : runE step (x :: xs) s = (match step s x with | .error r => Except.error r | .ok s' => runE step xs s') := rfl
theorem runE_append {step : σ → τ → Except ρ σ} : ∀ {xs ys : List τ} {s : σ}, runE step (xs ++ ys) s = (match runE step xs s with | .error r => .error r | .ok s' => runE step ys s')
  | [], _, _ => rfl
  | x :: xs, ys, s => by
    rw [List.cons_append, runE_cons, runE_cons]
    cases step s x with
    | error r => rfl
    | ok s' => exact runE_append
theorem runE_split {step : σ → τ → Except ρ σ} {i : Nat} {y : τ} {s0 s : σ} (h : ys[i]? = some y) (hs : runE step (ys.take i) s0 = .ok s) : runE step (ys.take (i + 1)) s0 = step s y := by
  rw [take_snoc h, runE_append, hs]
  show runE step [y] s = step s y
  unfold runE
  cases step s y <;> rfl
theorem runE_err {step : σ → τ → Except ρ σ} {i : Nat} {y : τ} {s0 s : σ} {r : ρ} (h : ys[i]? = some y) (hs : runE step (ys.take i) s0 = .ok s) (hr : step s y = .error r) : runE step ys s0 = .error r := by
  have e : ys = ys.take (i + 1) ++ ys.drop (i + 1) := (List.take_append_drop _ _).symm
  rw [e, runE_append, runE_split h hs, hr]
/-- a loop that may return -/
theorem ex_forE (stF : σ → Nz.S) (step : σ → τ → Except ρ σ) (s0 : σ) (Q : Nat → σ → Prop) (R : ρ → Ce → Nz.S → Prop) (hsrc : Src X B tg e S (ys.map enc) S1) (h0 : Le S1 (stF s0)) (q0 : Q 0 s0)
    (hs : ∀ i y s, ys[i]? = some y → runE step (ys.take i) s0 = .ok s → Q i s → ∃ S2, Eg X B tg (.fr (enc y)) (stF s) S2 ∧ Exs X B body S2 (loopE stF (step s y) (Q (i + 1)) R))
    (hr : ∀ r c S', runE step ys s0 = .error r → R r c S' → K (.ret c S')) (hd : ∀ s, runE step ys s0 = .ok s → Q ys.length s → K (.nx (stF s)))
    (hp : PassesOwn (model X.prog X.w) X.A X.env X.xe) (hc : X.calm = true) (hf : ∀ x, foldedSetIterable e X.env x = pure x := by intro _; rfl) : Ex X B (.For tg e body [] pos) S K := by
  let sI : Nat → σ := fun i => match runE step (ys.take i) s0 with | .ok s => s | .error _ => s0
  refine ex_forT hp hc (fun i => stF (sI i)) (fun i => runE step (ys.take i) s0 = .ok (sI i) ∧ Q i (sI i)) hsrc h0 ⟨rfl, q0⟩ (fun i y hy hP => ?_) (fun hP => ?_) hf
  · obtain ⟨S2, h1, h2⟩ := hs i y _ hy hP.1 hP.2
    refine ⟨S2, h1, h2.mono fun o ho => ?_⟩
    have nx : ∀ s', step (sI i) y = .ok s' → sI (i + 1) = s' ∧ runE step (ys.take (i + 1)) s0 = .ok s' := fun s' e => by
      have := runE_split hy hP.1
      rw [e] at this
      refine ⟨?_, this⟩
      show (match runE step (ys.take (i + 1)) s0 with | .ok s => s | .error _ => s0) = s'
      rw [this]
    cases o with
    | nx S =>
      obtain ⟨s', e, l, q⟩ := ho
      obtain ⟨e1, e2⟩ := nx s' e
      show Le S (stF (sI (i + 1))) ∧ runE step (ys.take (i + 1)) s0 = .ok (sI (i + 1)) ∧ Q (i + 1) (sI (i + 1))
      rw [e1]; exact ⟨l, e2, q⟩
    | ct S =>
      obtain ⟨s', e, l, q⟩ := ho
      obtain ⟨e1, e2⟩ := nx s' e
      show Le S (stF (sI (i + 1))) ∧ runE step (ys.take (i + 1)) s0 = .ok (sI (i + 1)) ∧ Q (i + 1) (sI (i + 1))
      rw [e1]; exact ⟨l, e2, q⟩
    | bk S => exact False.elim ho
    | ret c S =>
      obtain ⟨r, e, l⟩ := ho
      exact hr r c S (runE_err hy hP.1 e) l
  · obtain ⟨h1, h2⟩ := hP
    rw [List.take_length] at h1
    exact hd _ h1 h2
end
end Nz
namespace Nz
open PySem PySem.Spec PyProof.Rows L2
abbrev eN : Unit → D := fun _ => .non
section
variable {X : Cx} {B : Bd} {S S1 : Nz.S} {es : List Expr} {pos : Pos} {τ : Type} {enc : τ → D}
theorem ev_lstF (xs : List τ) {ds : List D} (h : Ea X B es S (ds.map Ce.fr) S1) (hd : ds = xs.map enc) (hz : xs.length ≤ sizeLine) : Ev X B (.List es pos) S (.fr (eL enc xs)) S1 := by
  subst hd
  exact ev_lst h (by rw [List.length_map]; exact hz)
end
end Nz
namespace Nz
open PySem PySem.Spec PyProof.Rows L2
mutual
def toP : D → PyData
  | .non => .none
  | .bl b => .bool b
  | .int i => .int i
  | .str s => .str s
  | .tup xs => .tuple (toPs xs)
  | .lst xs => .list (toPs xs)
  | .obj _ _ => .none
def toPs : List D → List PyData
  | [] => []
  | x :: xs => toP x :: toPs xs
end
mutual
def dataOk : D → Bool
  | .obj _ _ => false
  | .tup xs => datasOk xs
  | .lst xs => datasOk xs
  | _ => true
def datasOk : List D → Bool
  | [] => true
  | x :: xs => dataOk x && datasOk xs
end
mutual
theorem plain_toP : ∀ d : D, (toP d).plain = true
  | .non => rfl
  | .bl b => rfl
  | .int i => rfl
  | .str s => rfl
  | .tup xs => by simp only [toP, PyData.plain]; exact plain_toPs xs
  | .lst xs => by simp only [toP, PyData.plain]; exact plain_toPs xs
  | .obj _ _ => rfl
theorem plain_toPs : ∀ ds : List D, PyData.plainAll (toPs ds) = true
  | [] => rfl
  | x :: xs => by simp only [toPs, PyData.plainAll, plain_toP x, plain_toPs xs, Bool.and_self]
end
section
variable {K : Frag} {mg : Mg} {F H : Hp}
mutual
theorem dp_of (s : Same F H) : ∀ (d : D) (v : V), Rep K mg F d v → dataOk d = true → Dp K H v (toP d)
  | .non, _, r, h => by cases r; exact .non
  | .bl b, _, r, h => by cases r; exact .bl b
  | .int i, _, r, h => by cases r; exact .int i
  | .str z, _, r, h => by cases r; exact .str z
  | .tup xs, _, r, h => by
    cases r with
    | tup h1 h2 => exact .tup (s.seqT h1) (dps_of s xs _ h2 (by simpa [dataOk] using h))
  | .lst xs, _, r, h => by
    cases r with
    | lst h1 h2 => exact .lst (s.seq h1) (dps_of s xs _ h2 (by simpa [dataOk] using h))
  | .obj _ _, _, r, h => by simp [dataOk] at h
theorem dps_of (s : Same F H) : ∀ (ds : List D) (vs : List V), Reps K mg F ds vs → datasOk ds = true → DpAll K H vs (toPs ds)
  | [], _, r, h => by cases r; exact .nil
  | x :: xs, _, r, h => by
    cases r with
    | cons h1 h2 =>
      simp only [datasOk, Bool.and_eq_true] at h
      exact .cons (dp_of s x _ h1 h.1) (dps_of s xs _ h2 h.2)
end
end
/-- an encoding that == reads as = -/
structure EqEnc {τ : Type} [DecidableEq τ] (n : Nat) (e : τ → D) : Prop where
  ok : ∀ x, dataOk (e x) = true
  eqv : ∀ x y, PyData.eqv (toP (e x)) (toP (e y)) = decide (x = y)
  dep : ∀ x, (toP (e x)).depth ≤ n
theorem ee_int : EqEnc 0 D.int := ⟨fun _ => rfl, fun x y => by simp only [toP, PyData.eqv]; rw [Bool.eq_iff_iff]; simp, fun _ => Nat.zero_le _⟩
theorem ee_str : EqEnc 0 D.str := ⟨fun _ => rfl, fun x y => by simp only [toP, PyData.eqv]; rw [Bool.eq_iff_iff]; simp, fun _ => Nat.zero_le _⟩
section
variable {τ μ ν κ ι : Type} [DecidableEq τ] [DecidableEq μ] [DecidableEq ν] [DecidableEq κ] [DecidableEq ι] {a b c d f n : Nat} {e : τ → D} {e2 : μ → D} {e3 : ν → D} {e4 : κ → D} {e5 : ι → D}
theorem ees_ok (h : EqEnc n e) : ∀ xs : List τ, datasOk (xs.map e) = true
  | [] => rfl
  | x :: xs => by simp only [List.map_cons, datasOk, h.ok, ees_ok h xs, Bool.and_self]
theorem ees_eqv (h : EqEnc n e) : ∀ xs ys : List τ, PyData.eqvAll (toPs (xs.map e)) (toPs (ys.map e)) = decide (xs = ys)
  | [], [] => by simp [toPs, PyData.eqvAll]
  | [], _ :: _ => by simp [toPs, PyData.eqvAll]
  | _ :: _, [] => by simp [toPs, PyData.eqvAll]
  | x :: xs, y :: ys => by
    simp only [List.map_cons, toPs, PyData.eqvAll, h.eqv, ees_eqv h xs ys]
    rw [Bool.eq_iff_iff]; simp
theorem ees_dep (h : EqEnc n e) : ∀ xs : List τ, PyData.depthAll (toPs (xs.map e)) ≤ n
  | [] => by simp [toPs, PyData.depthAll]
  | x :: xs => by
    simp only [List.map_cons, toPs, PyData.depthAll]
    have h1 := h.dep x
    have h2 := ees_dep h xs
    omega
theorem ee_L (h : EqEnc n e) : EqEnc (n + 1) (eL e) := ⟨fun xs => by simp only [dataOk]; exact ees_ok h xs, fun xs ys => by simp only [toP, PyData.eqv]; exact ees_eqv h xs ys, fun xs => by simp only [toP, PyData.depth]; have := ees_dep h xs; omega⟩
theorem ee_T2 (h1 : EqEnc a e) (h2 : EqEnc b e2) : EqEnc (a + b + 1) (eT2 e e2) := ⟨fun x => by simp [dataOk, datasOk, h1.ok, h2.ok], fun x y => by
    simp only [toP, toPs, PyData.eqv, PyData.eqvAll, h1.eqv, h2.eqv]
    rw [Bool.eq_iff_iff]; simp [Prod.ext_iff], fun x => by simp only [toP, toPs, PyData.depth, PyData.depthAll]; have := h1.dep x.1; have := h2.dep x.2; omega⟩
/-- None or a value that is not None -/
structure NoNone (e : τ → D) : Prop where
  l : ∀ x, PyData.eqv .none (toP (e x)) = false
  r : ∀ x, PyData.eqv (toP (e x)) .none = false
theorem nn_T2 : NoNone (eT2 e e2) := ⟨fun _ => by simp [toP, PyData.eqv], fun _ => by simp [toP, PyData.eqv]⟩
theorem ee_O (h : EqEnc n e) (k : NoNone e) : EqEnc n (eO e) := ⟨fun x => by cases x with | none => rfl | some x => exact h.ok x, fun x y => by
    cases x with
    | none => cases y with
      | none => simp [eO, toP, PyData.eqv]
      | some y => simp only [eO]; rw [show toP D.non = PyData.none from rfl, k.l]; simp
    | some x => cases y with
      | none => simp only [eO]; rw [show toP D.non = PyData.none from rfl, k.r]; simp
      | some y => simp only [eO]; rw [h.eqv, Bool.eq_iff_iff]; simp,
  fun x => by cases x with | none => simp [eO, toP, PyData.depth] | some x => exact h.dep x⟩
variable {X : Cx}
theorem o_eqD (hu : X.A.units + 64 < cLine) (h : EqEnc n e) {x y : τ} (hn : n ≤ 60 := by decide) : Op2 X (compareOp .Eq) (e x) (e y) (.bl (decide (x = y))) :=
  fun B F α H σ S Q v1 v2 R r1 r2 k pins s u1 u2 I q1 q2 => by
    obtain ⟨as, ra⟩ := Dp.reads I _ _ _ (dp_of R.sub _ _ r1 (h.ok x)) q1
    obtain ⟨bs, rb⟩ := Dp.reads I _ _ _ (dp_of R.sub _ _ r2 (h.ok y)) q2
    refine PySem.SeqAt.eq_plain ra rb (plain_toP _) (plain_toP _) ?_ ?_
    · have := h.dep x; have := Nat.min_le_left (toP (e x)).depth (toP (e y)).depth; omega
    · rw [h.eqv]; exact ⟨.bl _, H, I, rfl, k F α _ H R Stp.refl (.bl _)⟩
theorem toPs_any (h : EqEnc n e) (x : τ) : ∀ ys : List τ, ((toPs (ys.map e)).any fun y => PyData.eqv y (toP (e x))) = decide (x ∈ ys)
  | [] => by simp [toPs]
  | y :: ys => by
    rw [List.map_cons]
    show (PyData.eqv (toP (e y)) (toP (e x)) || (toPs (ys.map e)).any fun y => PyData.eqv y (toP (e x))) = _
    rw [h.eqv, toPs_any h x ys, Bool.eq_iff_iff, Bool.or_eq_true, decide_eq_true_iff, decide_eq_true_iff, decide_eq_true_iff, List.mem_cons]
    exact or_congr eq_comm Iff.rfl
theorem o_inL (hu : X.A.units + 64 < cLine) (h : EqEnc n e) {x : τ} {ys : List τ} (hn : n ≤ 60 := by decide) : Op2 X (compareOp .In) (e x) (eL e ys) (.bl (decide (x ∈ ys))) :=
  fun B F α H σ S Q v1 v2 R r1 r2 k pins s u1 u2 I q1 q2 => by
    obtain ⟨as, ra⟩ := Dp.reads I _ _ _ (dp_of R.sub _ _ r1 (h.ok x)) q1
    obtain ⟨bs, rb⟩ := Dp.reads I _ _ _ (dp_of R.sub _ _ r2 ((ee_L h).ok ys)) q2
    refine PySem.SeqAt.in_list_data (xs := toPs (ys.map e)) rb ra (plain_toPs _) (plain_toP _) ?_ ?_
    · have := h.dep x; have := Nat.min_le_right (PyData.depthAll (toPs (ys.map e))) (toP (e x)).depth; omega
    · rw [toPs_any h]; exact ⟨.bl _, H, I, rfl, k F α _ H R Stp.refl (.bl _)⟩
theorem o_ninL (hu : X.A.units + 64 < cLine) (h : EqEnc n e) {x : τ} {ys : List τ} (hn : n ≤ 60 := by decide) : Op2 X (compareOp .NotIn) (e x) (eL e ys) (.bl (!decide (x ∈ ys))) :=
  fun B F α H σ S Q v1 v2 R r1 r2 k pins s u1 u2 I q1 q2 => by
    obtain ⟨as, ra⟩ := Dp.reads I _ _ _ (dp_of R.sub _ _ r1 (h.ok x)) q1
    obtain ⟨bs, rb⟩ := Dp.reads I _ _ _ (dp_of R.sub _ _ r2 ((ee_L h).ok ys)) q2
    refine PySem.SeqAt.notIn_list_data (xs := toPs (ys.map e)) rb ra (plain_toPs _) (plain_toP _) ?_ ?_
    · have := h.dep x; have := Nat.min_le_right (PyData.depthAll (toPs (ys.map e))) (toP (e x)).depth; omega
    · rw [toPs_any h]; exact ⟨.bl _, H, I, rfl, k F α _ H R Stp.refl (.bl _)⟩
end
def iterW {σ : Type} (c : σ → Bool) (f : σ → σ) : Nat → σ → σ
  | 0, s => s
  | n + 1, s => if c s = true then iterW c f n (f s) else s
theorem iterW_stop {σ : Type} {c : σ → Bool} {f : σ → σ} {s : σ} (h : c s = false) : ∀ n, iterW c f n s = s
  | 0 => rfl
  | n + 1 => by unfold iterW; rw [h, if_neg Bool.false_ne_true]
section
variable {X : Cx} {B : Bd} {S : Nz.S} {e : Expr} {pos : Pos} {K : Out → Prop} {body : List Stmt} {σ : Type}
theorem ex_whileF (stF : σ → Nz.S) (c : σ → Bool) (f : σ → σ) (s0 : σ) (n : Nat) (Q : σ → Prop) (μ : σ → Nat) (h0 : Le S (stF s0)) (q0 : Q s0) (hn : μ s0 ≤ n) (hm : ∀ s, Q s → c s = true → Q (f s) ∧ μ (f s) < μ s)
    (ht : ∀ s, Q s → Et X B e (stF s) (c s) (stF s)) (hs : ∀ s, Q s → c s = true → Exs X B body (stF s) (loopF (stF (f s)) True))
    (hd : Q (iterW c f n s0) → c (iterW c f n s0) = false → K (.nx (stF (iterW c f n s0)))) (hp : PassesOwn (model X.prog X.w) X.A X.env X.xe) : Ex X B (.While e body [] pos) S K :=
  fun F α H τ D R o => wS.of (ps_while hp pt_w pss_w) (by
    refine ⟨fun m σ' H' => ∃ s k F' α', m = μ s ∧ Q s ∧ μ s ≤ k ∧ iterW c f k s = iterW c f n s0 ∧ RelX X B F' α' H' σ' (stF s) ∧ Same F F', ⟨μ s0, s0, n, F, α, rfl, q0, hn, rfl, R.le h0, Same.refl _⟩, ?_⟩
    rintro m σ' H' ⟨s, k, F', α', rfl, q, hk, he, R', sm⟩
    refine ht s q F' α' H' σ' _ R' fun F1 α1 H1 R1 st1 => ?_
    have sall : Same F F1 := sm.trans st1.fro
    cases hc : c s with
    | true =>
      obtain ⟨q', l⟩ := hm s q hc
      rw [if_pos rfl]
      refine ⟨fun σ2 H2 => ∃ F2 α2, RelX X B F2 α2 H2 σ2 (stF (f s)) ∧ Same F F2, fun σ2 H2 ⟨F2, α2, R2, s2⟩ => ⟨μ (f s), l, f s, k - 1, F2, α2, rfl, q', by omega, ?_, R2, s2⟩, hs s q hc F1 α1 H1 σ' _ R1 ?_⟩
      · rw [← he]
        obtain ⟨k', rfl⟩ : ∃ k', k = k' + 1 := ⟨k - 1, by omega⟩
        show iterW c f k' (f s) = if c s = true then iterW c f k' (f s) else s
        rw [if_pos hc]
      · exact ⟨fun S4 F4 α4 H4 σ4 k4 R4 s4 => ⟨F4, α4, R4.le k4.1, sall.trans s4⟩, fun S4 F4 α4 H4 σ4 k4 R4 s4 => k4.elim, fun S4 F4 α4 H4 σ4 k4 R4 s4 => ⟨F4, α4, R4.le k4.1, sall.trans s4⟩, fun c S4 F4 α4 H4 σ4 v k4 R4 s4 r4 => k4.elim⟩
    | false =>
      rw [if_neg Bool.false_ne_true]
      rw [iterW_stop hc] at he
      exact o.nx _ F1 α1 H1 σ' (by rw [he]; exact hd (by rw [← he]; exact q) (by rw [← he]; exact hc)) R1 sall)
end
end Nz
namespace Nz
open PySem PySem.Spec PyProof.Rows L2
/-- the law's promise in the layer's own words -/
def spTrue (K : Frag) : Sp := fun vs H Q _ => ∃ (a : Addr) (ns : List Int), vs = [.ref a] ∧ SqL K H a (ns.map V.int) ∧ ns.length ≤ 63 ∧ ∀ H', Q (.bl true) H'
theorem spTrue_of {K : Frag} {mg : Mg} {mir : List Int → Bool} (hm : ∀ ns : List Int, ns.length ≤ 63 → mir ns = true) {vs : List V} {H : Hp} {Q : VK} {E : XK} (h : spTrue K vs H Q E) :
    SpOf K mg (fun cs L Kc => ∃ script : List Int, cs = [.fr (eL D.int script)] ∧ L = [] ∧ script.length ≤ 63 ∧ ∀ L', Kc (.fr (D.bl (mir script))) L') vs H Q E := by
  obtain ⟨a, ns, rfl, hs, hl, q⟩ := h
  refine ⟨H, fun _ => 0, [], [.fr (eL D.int ns)], fun _ => False, ⟨Same.refl _, Same.refl _, fun b o e => .inl e, fun b o e _ => e, List.nodup_nil, fun n m h => absurd h (by simp [names]), fun n o h => absurd h (by simp), .so (Rep.lst hs Reps.ints) .nil, fun n a h hn => absurd hn (by simp [names])⟩, ns, rfl, rfl, hl, fun L' F' α' v H' ρ' σ' R' r' => ?_⟩
  rw [hm ns hl] at r'
  cases (show Rep K mg F' (.bl true) v from r')
  exact q H'
end Nz
namespace Nz
open PySem PySem.Spec PyProof.Rows L2
def minL : List Int → Int
  | [] => 0
  | x :: xs => xs.foldl (fun a b => if b < a then b else a) x
def maxL : List Int → Int
  | [] => 0
  | x :: xs => xs.foldl (fun a b => if b > a then b else a) x
theorem foldmin : ∀ (xs : List Int) (a : Int), (xs.foldl (fun a b => if b < a then b else a) a = a ∨ xs.foldl (fun a b => if b < a then b else a) a ∈ xs) ∧ xs.foldl (fun a b => if b < a then b else a) a ≤ a ∧ ∀ y ∈ xs, xs.foldl (fun a b => if b < a then b else a) a ≤ y
  | [], a => ⟨.inl rfl, Int.le_refl _, fun y h => absurd h (by simp)⟩
  | x :: xs, a => by
    rw [List.foldl_cons]
    have ih := foldmin xs (if x < a then x else a)
    refine ⟨?_, ?_, fun y hy => ?_⟩
    · rcases ih.1 with h | h
      · rw [h]; split
        · exact .inr List.mem_cons_self
        · exact .inl rfl
      · exact .inr (List.mem_cons_of_mem _ h)
    · have := ih.2.1; split at this <;> omega
    · rcases List.mem_cons.mp hy with rfl | hy
      · have := ih.2.1; split at this <;> omega
      · exact ih.2.2 y hy
theorem foldmax : ∀ (xs : List Int) (a : Int), (xs.foldl (fun a b => if b > a then b else a) a = a ∨ xs.foldl (fun a b => if b > a then b else a) a ∈ xs) ∧ a ≤ xs.foldl (fun a b => if b > a then b else a) a ∧ ∀ y ∈ xs, y ≤ xs.foldl (fun a b => if b > a then b else a) a
  | [], a => ⟨.inl rfl, Int.le_refl _, fun y h => absurd h (by simp)⟩
  | x :: xs, a => by
    rw [List.foldl_cons]
    have ih := foldmax xs (if x > a then x else a)
    refine ⟨?_, ?_, fun y hy => ?_⟩
    · rcases ih.1 with h | h
      · rw [h]; split
        · exact .inr List.mem_cons_self
        · exact .inl rfl
      · exact .inr (List.mem_cons_of_mem _ h)
    · have := ih.2.1; split at this <;> omega
    · rcases List.mem_cons.mp hy with rfl | hy
      · have := ih.2.1; split at this <;> omega
      · exact ih.2.2 y hy
theorem minL_mem {ns : List Int} (h : ns ≠ []) : minL ns ∈ ns := by
  cases ns with
  | nil => exact absurd rfl h
  | cons x xs =>
    rcases (foldmin xs x).1 with e | e
    · show xs.foldl _ x ∈ _; rw [e]; exact List.mem_cons_self
    · exact List.mem_cons_of_mem _ e
theorem maxL_mem {ns : List Int} (h : ns ≠ []) : maxL ns ∈ ns := by
  cases ns with
  | nil => exact absurd rfl h
  | cons x xs =>
    rcases (foldmax xs x).1 with e | e
    · show xs.foldl _ x ∈ _; rw [e]; exact List.mem_cons_self
    · exact List.mem_cons_of_mem _ e
section
variable {X : Cx} {B : Bd} {S S1 S2 S3 : Nz.S} {tg a b c e : Expr} {es : List Expr} {pos p q p2 : Pos} {d : D} {ds : List D} {x : Str} {id : String} {τ : Type} {enc : τ → D}
theorem mulW_of {i j : Int} (h : -(2 ^ 900) < i ∧ i < 2 ^ 900 ∧ -(2 ^ 900) < j ∧ j < 2 ^ 900) : CMulW i j :=
  wide_mul (a := 900) (b := 900) (by omega) (by omega) (by decide) (by decide) (by decide)
theorem divW_of {i j : Int} (h : 0 < j ∧ j < 2 ^ 900) : CDivW i j := wide_div (b := 900) h.1 (by omega) (by decide) (by decide)
def isNonD : D → Bool
  | .non => true
  | _ => false
theorem o_isD : Op2 X (compareOp .Is) d .non (.bl (isNonD d)) := fun B F α H σ S Q x y R rx ry k pins s v u I rv ru =>
  op_isN pins s σ H x y v u Q I rv ru ⟨by cases ry; rfl, by
    have : decide (x = .non) = isNonD d := by cases rx <;> simp [isNonD]
    rw [this]; exact k F α _ H R Stp.refl (.bl _)⟩
theorem isNon_O {y : Option τ} (h : ∀ z, isNonD (enc z) = false) : isNonD (eO enc y) = y.isNone := by
  cases y with
  | none => rfl
  | some z => exact h z
theorem o_isO {y : Option τ} (h : ∀ z, isNonD (enc z) = false) : Op2 X (compareOp .Is) (eO enc y) .non (.bl y.isNone) := by rw [← isNon_O h]; exact o_isD
end
end Nz
namespace Nz
open PySem PySem.Spec PyProof.Rows L2
section
variable {K : Frag} {mg : Mg} {B : Bd} {F F' : Hp} {α : Nat → Addr} {H H' : Hp} {σ : L2.St} {S : Nz.S} {L : List (Nat × LO)} {Q : VK} {E : XK}
theorem RepF.nolook {f : Str} : ∀ {fs : List (Str × D)} {vs : List (Str × V)}, RepF K mg F fs vs → fs.lookup f = none → vs.lookup f = none
  | _, _, .nil, h => rfl
  | (n, e) :: fs, (_, v) :: vs, .cons r rs, h => by
    rw [List.lookup_cons] at h ⊢
    cases hb : (f == n) with
    | true => rw [hb] at h; cases h
    | false => rw [hb] at h; exact rs.nolook h
theorem paired_slotsL : ∀ {ds : List D} {vs : List V}, Reps K mg F ds vs → SlR K mg F α L ((ds.map Ce.fr).map some) (vs.map some)
  | _, _, .nil => .nil
  | _, _, .cons h r => .so h (paired_slotsL r)
theorem CRelF.fr : ∀ {fs : List (Str × D)} {vs : List (Str × V)}, CRelF K mg F α L (fs.map fun p => (p.1, Ce.fr p.2)) vs → RepF K mg F fs vs
  | [], _, .nil => .nil
  | _ :: _, _, .cons h r => .cons h (CRelF.fr r)
/-- __init__ -/
theorem init_call {sp : SpN} {x dx C : Addr} {c : Str} {ds : List D} {vs : List V} {fs : List (Str × D)} (R : Rel K mg B F α H σ S) (hx : H x = none) (hd : H dx = none) (hne : dx ≠ x) (hm : mg c = some (.ref C)) (r : Reps K mg F ds vs)
    (hs : ∀ Kc : Ce → List (Nat × LO) → Prop, Kc (.fr .non) [(0, .ins c (fs.map fun p => (p.1, Ce.fr p.2)))] → sp (.ad 0 :: ds.map Ce.fr) [(0, .ins c [])] Kc)
    (k : ∀ F' H', Rel K mg B F' α H' σ S → Same F F' → Rep K mg F' (.obj c fs) (.ref x) → Q (.ref x) H') :
    SpOf K mg sp (.ref x :: vs) (upd (upd H dx (.own x)) x (.ins C dx [])) (fun v H2 => v = .non ∧ Q (.ref x) H2) E := by
  have fx : F x = none := by
    cases q : F x with
    | none => rfl
    | some o => rw [R.sub x o q] at hx; cases hx
  have fdx : F dx = none := by
    cases q : F dx with
    | none => rfl
    | some o => rw [R.sub dx o q] at hd; cases hd
  have hH2 : ∀ b o, H b = some o → upd (upd H dx (.own x)) x (.ins C dx []) b = some o := fun b o e => by
    rw [upd_ne (fun q => by rw [q, hx] at e; cases e), upd_ne (fun q => by rw [q, hd] at e; cases e)]; exact e
  refine ⟨F, fun _ => x, [(0, .ins c [])], .ad 0 :: ds.map Ce.fr, fun b => b = x ∨ b = dx, ⟨fun b o e => hH2 b o (R.sub b o e), Same.refl _, fun b o e => .inl e, fun b o e _ => e, by simp [names], fun n m h1 h2 _ => ?_, fun n o h => ?_, .so ⟨by simp [names], rfl⟩ (?_), fun n a h hn => ?_⟩, hs _ ?_⟩
  · simp only [names, List.map_cons, List.map_nil, List.mem_singleton] at h1 h2; rw [h1, h2]
  · simp only [List.mem_singleton, Prod.mk.injEq] at h
    obtain ⟨rfl, rfl⟩ := h
    refine ⟨fx, .inr (.inl rfl), C, dx, [], hm, upd_same, ?_, fdx, .inr (.inr rfl), .nil⟩
    rw [upd_ne hne]; exact upd_same
  · exact paired_slotsL r
  · have h2 : (if n < 100 then some x else none) = some a := h
    split at h2
    · cases h2; rfl
    · cases h2
  · intro F' α' v H' ρ' σ' R' r'
    have hv : v = .non := by cases r'; rfl
    refine ⟨hv, ?_⟩
    have hfix : α' 0 = x := R'.fix 0 x rfl (by simp [names])
    obtain ⟨q1, q2, C', dx', us, m1, e1, e2, e3, e4, rf⟩ := R'.live 0 _ (List.mem_singleton.mpr rfl)
    rw [hfix] at q1 q2 e1 e2
    have hne' : dx' ≠ x := fun q => by rw [q, e1] at e2; cases e2
    have old : ∀ b o, H b = some o → ¬ (b = x ∨ b = dx) := fun b o e q => by
      rcases q with q | q
      · rw [q, hx] at e; cases e
      · rw [q, hd] at e; cases e
    have hfresh : ∀ b, (upd (upd H dx (.own x)) x (.ins C dx []) b = none ∨ (b = x ∨ b = dx)) → H b = none := fun b q => by
      cases e : H b with
      | none => rfl
      | some o =>
        rcases q with q | q
        · rw [hH2 b o e] at q; cases q
        · exact absurd q (old b o e)
    have hF2 : Same F' (upd (upd F' dx' (.own x)) x (.ins C' dx' us)) := fun b o e => by
      rw [upd_ne (fun q => by rw [q, q1] at e; cases e), upd_ne (fun q => by rw [q, e3] at e; cases e)]; exact e
    have gx : upd (upd F' dx' (.own x)) x (.ins C' dx' us) x = some (.ins C' dx' us) := upd_same
    have gd : upd (upd F' dx' (.own x)) x (.ins C' dx' us) dx' = some (.own x) := by rw [upd_ne hne']; exact upd_same
    refine k (upd (upd F' dx' (.own x)) x (.ins C' dx' us)) H' (R.grow ((show Same F F' from R'.bF).trans hF2) (fun b o e => R'.frame b o (hH2 b o e) (old b o e)) (fun b o e => ?_) (fun b u e => ?_)) ((show Same F F' from R'.bF).trans hF2) ?_
    · by_cases h1 : b = x
      · subst h1; rw [gx] at e; cases e; exact e1
      · rw [upd_ne h1] at e
        by_cases h2 : b = dx'
        · subst h2; rw [upd_same] at e; cases e; exact e2
        · rw [upd_ne h2] at e; exact R'.sub b o e
    · by_cases h1 : b = x
      · subst h1; exact .inr hx
      · rw [upd_ne h1] at e
        by_cases h2 : b = dx'
        · subst h2; exact .inr (hfresh _ e4)
        · rw [upd_ne h2] at e
          rcases R'.nF b u e with z | z | z
          · exact .inl z
          · exact .inr (hfresh b (.inl z))
          · exact .inr (hfresh b (.inr z))
    · exact .obj m1 gx gd ((CRelF.fr rf).mono hF2)
end
section
variable {X : Cx} {B : Bd} {S S1 S2 : Nz.S} {a e o : Expr} {es : List Expr} {pos apos p q : Pos} {d d1 : D} {ds : List D} {c f m x : Str} {fs : List (Str × D)} {C g pr : Addr} {fd : FuncData} {ps : List Str} {k : Nat} {sp : SpN}
/-- e.f -/
theorem ev_fld (hm : X.mg c = some (.ref C)) (hc : Cls X.K C) (hn : NoAttr X.K C f) (hl : fs.lookup f = some d) (ha : Ev X B a S (.fr (.obj c fs)) S1) (hb : attributeBase a f X.env (eval a X.env) = eval a X.env := by rfl) : Ev X B (.Attribute a f pos) S (.fr d) S1 :=
  fun F α H σ Q R k => wE.of (pe_fld pe_w hb) (ha F α H σ _ R fun F1 α1 v1 H1 R1 st1 r1 => by
    cases (show Rep X.K X.mg F1 (.obj c fs) v1 from r1) with
    | obj m e1 e2 rf =>
      rw [m] at hm; cases hm
      obtain ⟨v, hv, rv⟩ := rf.look hl
      exact ⟨_, _, _, _, v, rfl, R1.sub _ _ e1, hc, hn, hv, k F1 α1 v H1 R1 st1 rv⟩)
/-- o.m(e, ..) -/
theorem ev_meth {pl : Sem Bool} (hm : X.mg c = some (.ref C)) (hc : Cls X.K C) (hme : Meth X.K C m g) (hnl : fs.lookup m = none) (F : FnOk X.prog X.w X.K X.mg X.base CX0 k g fd ps (SpOf X.K X.mg sp)) (hr : Room k X.A) (hb : Binds X.K fd ps [])
    (ho : Ev X B o S (.fr (.obj c fs)) S1) (ha : Ea X B (e :: es) S1 (ds.map Ce.fr) S2) (hs : ∀ Kc : Ce → List (Nat × LO) → Prop, (∀ L', Kc (.fr d) L') → sp (.fr (.obj c fs) :: ds.map Ce.fr) [] Kc) (h1 : Sub S.L S1.L := by exact Sub.refl) (h2 : Sub S1.L S2.L := by exact Sub.refl)
    (hst : starEach (e :: es) X.env = (false, eval e X.env) :: starEach es X.env := by rfl) (hpl : (backTo pos (starEach es X.env)).any (·.1) = false := by rfl)
    (ht : eval (.Call (.Attribute o m apos) (e :: es) [] pos) X.env = (do
      let ov ← eval o X.env
      standAt apos.atName
      let (f, first) ← holding [ov] (getMethod ov m pl)
      callWith pos f first (backTo pos (starEach (e :: es) X.env)) (backToKw pos (keywordEach [] X.env))) := by rfl) : Ev X B (.Call (.Attribute o m apos) (e :: es) [] pos) S (.fr d) S2 :=
  fun F0 α H σ Q R k => wE.of (pe_meth pe_w hc hme F hr hb .nil pass0 pa_w hst hpl ht) (ho F0 α H σ _ R fun F1 α1 v1 H1 R1 st1 r1 => by
    have r := r1
    cases (show Rep X.K X.mg F1 (.obj c fs) v1 from r1) with
    | obj m e1 e2 rf =>
      rw [m] at hm; cases hm
      refine ⟨_, _, _, rfl, R1.sub _ _ e1, rf.nolook hnl, ha F1 α1 H1 σ _ R1 fun F2 α2 vs H2 R2 st2 r2 => ?_⟩
      have rr := CRels.fr r2
      rw [List.append_nil]
      exact ⟨F2, α2, [], _, fun _ => False, R2.call0 (ds := .obj c fs :: ds) (.cons (Rep.mono st2.fro r) rr), hs _ fun L' F' α' v H' ρ' σ' R' r' => k F' α2 v H' (R2.back0 R') ((st1.trans st2 h1).trans ⟨R'.bF, fun _ _ => rfl⟩ fun n h => h2 n (h1 n h)) r'⟩)
/-- the fields behind self.f = .. -/
def putC (f : Str) (c : Ce) : List (Str × Ce) → List (Str × Ce)
  | [] => [(f, c)]
  | (g, x) :: r => if g = f then (g, c) :: r else (g, x) :: putC f c r
theorem CRelF.put {K : Frag} {mg : Mg} {F : Hp} {α : Nat → Addr} {L : List (Nat × LO)} {f : Str} {c : Ce} {v : V} (h : CRel K mg F α L c v) : ∀ {fs : List (Str × Ce)} {vs : List (Str × V)}, CRelF K mg F α L fs vs → CRelF K mg F α L (putC f c fs) (putF f v vs)
  | [], _, .nil => .cons h .nil
  | (g, _) :: _, _, .cons r rs => by
    unfold putC putF
    by_cases q : g = f
    · rw [if_pos q, if_pos q]; exact .cons h rs
    · rw [if_neg q, if_neg q]; exact .cons r (rs.put h)
theorem CRelF.len {K : Frag} {mg : Mg} {F : Hp} {α : Nat → Addr} {L : List (Nat × LO)} : ∀ {fs : List (Str × Ce)} {vs : List (Str × V)}, CRelF K mg F α L fs vs → fs.length = vs.length
  | [], _, .nil => rfl
  | _ :: _, _, .cons r rs => congrArg (· + 1) rs.len
/-- self.f = e -/
theorem ex_fld {K : Out → Prop} {n : Nat} {fsC : List (Str × Ce)} {d : D} (hm : X.mg c = some (.ref C)) (hc : Cls X.K C) (hn : NoAttr X.K C f) (he : Ev X B e S (.fr d) S1) (ho : Ev X B o S1 (.ad n) S1) (hl : getL n S1.L = some (.ins c fsC)) (h100 : fsC.length < 1000)
    (k : K (.nx ⟨S1.ρ, setL n (.ins c (putC f (.fr d) fsC)) S1.L⟩)) (hs : swapsWith e (some (.Attribute o f p)) pos.line X.env = pure false := by rfl) : Ex X B (.Assign [.Attribute o f p] e pos) S K :=
  fun F α H σ D R oo => wS.of (ps_fld pe_w pe_w hs) (he F α H σ _ R fun F1 α1 v1 H1 R1 st1 r1 => ho F1 α1 H1 σ _ R1 fun F2 α2 v2 H2 R2 st2 r2 => by
    obtain ⟨hn1, rfl⟩ := r2
    have hmm := getL_mem hl
    obtain ⟨f0, f1, C', dx, vs, m1, e1, e2, e3, e4, rf⟩ := R2.live n _ hmm
    rw [m1] at hm; cases hm
    refine ⟨_, _, dx, vs, rfl, e1, hc, hn, by rw [← rf.len]; exact h100, ?_⟩
    have hne : dx ≠ α2 n := fun q => by rw [q, e1] at e2; cases e2
    have Rp := R2.put (n := n) (u := .ins c (putC f (.fr d) fsC)) (o' := .ins _ dx (putF f v1 vs)) hmm ⟨_, dx, _, m1, upd_same, by rw [upd_ne hne]; exact e2, e3, e4, (rf.put (c := .fr d) (Rep.mono st2.fro r1)).step Stp.refl fun m h => by rw [names_setL]; exact h⟩
    exact oo.nx _ F2 α2 _ σ k Rp (st1.fro.trans st2.fro))
end
end Nz
namespace Nz
open PySem PySem.Spec PyProof.Rows L2
open AutoSeq1 (wpAny_loadPart')
open Sem (wp)
def tuI (t : Addr) : Obj := { cls := .type "tuple_iterator", data := .fields #[.ref t, .int 0 0] }
def enO (it : Addr) : Obj := { cls := .type "enumerate", data := .fields #[.none, .bool false, .ref it, rawInt 0, .none, .none] }
theorem enumT_new (t : Addr) (its : Array Value) (k : Nat) (dd : Option Addr) (ss : Array (Option Value)) :
    Meets (Builtin.«enumerate.__new__» ⟨[.type "enumerate", .ref t], []⟩) (fun _ R z => z.heap.get? t = some { cls := .type "tuple", dict := dd, data := .seq its k, slots := ss } ∧
      R (.ok (.ret (.ref (z.heap.push (tuI t)).objs.size))) { z with heap := (z.heap.push (tuI t)).push (enO z.heap.objs.size) }) := .of_wp fun P w A R z hz => by
  obtain ⟨q1, q2, q3, q4, q5⟩ := z
  obtain ⟨e, hR⟩ := hz
  have sub := sub_enumerate
  have T : Heap.IsTuple (Shared.heap ⟨q1, q2, q3, q4, q5⟩) t its := ⟨_, e, rfl, k, rfl⟩
  wp_walk using wpAny_loadPart' e
  refine wpAny_stack_any fun _ => wpAny_pure ?_
  split
  · rename_i y _ _ _ _ _
    cases (y == Value.type "enumerate") <;> (wp_walk using wpAny_loadPart' e, wpAny_pyIter_tuple T; exact ⟨_, rfl, hR⟩)
  · wp_walk using wpAny_loadPart' e, wpAny_pyIter_tuple T; exact ⟨_, rfl, hR⟩
theorem enumT_call {P : Program} {w : World} {A : Around} {E : Value → Shared → Prop} {z : Shared} {t : Addr} {its : Array Value} {Q : Value → Shared → Prop} (T : z.heap.IsTuple t its)
    (k : ∀ h', IsEnum h' (z.heap.objs.size + 1) z.heap.objs.size 0 .none → h'.IsTupleIter z.heap.objs.size t 0 → (∀ b o, z.heap.get? b = some o → h'.get? b = some o) → Q (.ref (z.heap.objs.size + 1)) { z with heap := h' }) :
    wpAny (model P w) A (call (.type "enumerate") [.ref t]) Q E z := by
  obtain ⟨⟨oc, od, dt, ss⟩, e, e1, kk, e2⟩ := T
  simp only at e1 e2
  subst e1 e2
  refine callType_new F.called_enumerate (by decide) (F.typeCall_enumerate_1 _) (F.newCall_enumerate_1 _) (fun o => F.args_object_init_2 o _) F.entry_enumerate_new (enumT_new t its kk od ss) ⟨e, ?_⟩
  have sz : (z.heap.push (tuI t)).objs.size = z.heap.objs.size + 1 := Heap.size_push ..
  show _ ∧ _
  rw [sz]
  have en : IsEnum ((z.heap.push (tuI t)).push (enO z.heap.objs.size)) (z.heap.objs.size + 1) z.heap.objs.size 0 .none := by
    have hh := Heap.get?_push_size (z.heap.push (tuI t)) (o := enO z.heap.objs.size) rfl
    rw [sz] at hh; exact hh
  exact ⟨⟨_, en, rfl⟩, k _ en ⟨_, Heap.get?_push_of_some _ (Heap.get?_push_size _ rfl), rfl, rfl⟩ fun b o x => Heap.get?_push_of_some _ (Heap.get?_push_of_some _ x)⟩
theorem enumT_end {P : Program} {w : World} {A : Around} {E : Value → Shared → Prop} {z : Shared} {e it t : Addr} {i : Nat} {its : Array Value} {old : Value} {Q : Option Value → Shared → Prop} (hh : A.handled = none)
    (en : IsEnum z.heap e it i old) (ti : z.heap.IsTupleIter it t i) (T : z.heap.IsTuple t its) (hx : its[i]? = none) (k : ∀ h', Heap.ExtBut it z.heap h' → Q none { z with heap := h' }) : wpAny (model P w) A (pyNext (.ref e)) Q E z := by
  have ty : z.TypeIs (.ref e) "enumerate" := ⟨_, en, rfl⟩
  unfold pyNext
  refine wpAny_bind (wpAny_attempt (wpAny_callSpecial?_slot (name := Str.ofString "__next__") ty F.slot_enumerate_next (wpAny_call_entry F.slot_enumerate_next ty F.entry_enumerate_next ?_ (F.args_enumerate_next_1 _))))
  show wpAny _ _ (field (.ref e) 2 >>= _) _ _ _
  refine wpAny_bind (wpAny_field en rfl (x := .ref it) rfl (wpAny_bind (wpAny_nextOf_tuple_end hh ti T hx fun h' x q1 q2 => ?_)))
  obtain ⟨o, q3, q4⟩ := q2
  exact wpAny_bind (wpAny_isInstance (T := "StopIteration") (b := true) ⟨o, q3, q4⟩ isSubtype_stop (wpAny_pure (k _ q1)))
/-- the tuple at a, each item in a new pair -/
def Iet (K : Frag) (a : Addr) : It :=
  ⟨fun i H => ∃ (xs : List V) (x : V), SqT K H a xs ∧ xs[i]? = some x, fun i H v H' => ∃ T x, v = .ref T ∧ H T = none ∧ H' = upd H T (.tup [.int (i : Nat), x]) ∧ ∀ xs, SqT K H a xs → xs[i]? = some x, fun i H => ∃ xs : List V, SqT K H a xs ∧ xs.length ≤ i⟩
theorem turn_enumT {P : Program} {w : World} {K : Frag} {elts : List Expr} {kk : Nat} {tpos : Pos} (a e it : Addr) :
    Turn P w K (.Tuple elts kk tpos) (Iet K a) [e, it] e (fun i h => (∃ old, IsEnum h e it ((i : Nat) : Int) old) ∧ h.IsTupleIter it a i ∧ e ≠ it ∧ a ≠ it ∧ a ≠ e) where
  mem := List.mem_cons_self
  obj := fun i h st b hb => by
    obtain ⟨⟨old, he⟩, ⟨o, ho, _, hd⟩, _⟩ := st
    rcases (show b = e ∨ b = it by simpa using hb) with rfl | rfl
    · exact ⟨_, he, fun v q => nomatch q⟩
    · exact ⟨o, ho, fun v q => by rw [hd] at q; cases q⟩
  keep := fun i h h' st k => let ⟨⟨old, he⟩, hi, n1, n2⟩ := st; ⟨⟨old, k e List.mem_cons_self _ he⟩, hi.at fun o q => k it (by simp) o q, n1, n2⟩
  item := by
    intro X p1 p2 p3 hc i pins s σ H E I hf st hg
    subst p1 p2 p3
    obtain ⟨⟨old, he⟩, hit, hne, hat, hae⟩ := st
    obtain ⟨xs, x, hq, hx⟩ := hg
    obtain ⟨its, rv, p, hz⟩ := I.tuple hq
    obtain ⟨u, hu, ru⟩ := rv.get hx
    have hel : e < s.heap.objs.size := Heap.lt_size he
    have hil : it < s.heap.objs.size := by obtain ⟨_, q, _⟩ := hit; exact Heap.lt_size q
    have hlt : i < its.toArray.size := by have := (List.getElem?_eq_some_iff.mp hu).1; simpa using this
    have hfr := hf
    refine wpAny_pyNext_enum_itemD (Draws.tuple (A := X.A.in1) (show X.A.in1.handled = none from I.ok.hd hc) it a hat its.toArray) he ⟨hit, p⟩ hlt hne (by simp [hne, Ne.symm hae]) fun y h' tk hP ho hit' hT hsz hk => ?_
    have hy : y = u := by
      have : its.toArray[i]? = some y := hP
      rw [List.getElem?_toArray, hu] at this; exact (Option.some.inj this).symm
    subst hy
    refine ⟨_, rfl, wpAny_letOwnedTupleGo_enum (s := { s with heap := h', toks := tk + 1 }) ho fun h2 he2 sb => ?_⟩
    have hT2 : h2.get? s.heap.objs.size = some { cls := .type "tuple", data := .seq #[.int i tk, y] } := (sb.2 _ (Nat.ne_of_gt hel)).trans hT
    have new : ObjOk X.prog X.w (upd H s.heap.objs.size (.tup [.int (i : Nat), x])) h2 s.heap.objs.size (.tup [.int (i : Nat), x]) :=
      ⟨show 2 ≤ sizeLine by decide, [.int i tk, y], .cons ⟨_, rfl⟩ (.cons ru .nil), ⟨_, hT2, rfl, _, rfl⟩⟩
    have I1 : Inv X pins σ (upd H s.heap.objs.size (.tup [.int (i : Nat), x])) { s with heap := h2, toks := tk + 1 } :=
      I.turnedNew (ch := [e, it]) (fun b ob hb q => (sb.2 b fun z => hb (by rw [z]; exact List.mem_cons_self)).trans (hk b ob (fun z => hb (by rw [z]; exact List.mem_cons_self)) (fun z => hb (by simp [z])) q)) hf (Nat.le_refl _) new
    refine ⟨.ref s.heap.objs.size, _, I1, rfl, ⟨_, x, rfl, I.hok.fresh (Nat.le_refl _), rfl, fun ys hy => by rw [I.tuple_inj hy hq]; exact hx⟩, ⟨⟨y, ?_⟩, hit'.1.at fun o q => (sb.2 it (Ne.symm hne)).trans q, hne, hat, hae⟩, fun b hb => ?_⟩
    · rw [show ((i + 1 : Nat) : Int) = (i : Int) + 1 from rfl]; exact he2
    · have hb2 : b < s.heap.objs.size := by
        rcases (show b = e ∨ b = it by simpa using hb) with rfl | rfl
        · exact hel
        · exact hil
      rw [upd_ne (Nat.ne_of_lt hb2)]; exact (hf b hb).1
  done := by
    intro X p1 p2 p3 hc i pins s σ H E I hf st hg
    subst p1 p2 p3
    obtain ⟨⟨old, he⟩, hit, hne, hat, hae⟩ := st
    obtain ⟨xs, hq, hx⟩ := hg
    obtain ⟨its, rv, p, hz⟩ := I.tuple hq
    obtain ⟨f0, f1, f2, f3, f4, f5⟩ := hf it (by simp)
    have hl := rv.length
    exact enumT_end (I.ok.hd hc) he hit p (by rw [List.getElem?_toArray]; exact List.getElem?_eq_none (by omega)) fun h' eb => ⟨rfl, I.turned (t' := s.toks) (fun b o hb q => eb b o hb q) f0 f1 f3 f4 f5⟩
  self := fun A i s Q E st h => wpAny_pyIter_enum st.1.choose_spec h
def iEnumT (K : Frag) (ta : TA) : TI := fun σ H R => ta σ H fun vs H1 => ∃ a xs, vs = [.ref a] ∧ SqT K H1 a xs ∧ R (Iet K a) H1
theorem pi_enumT {X : Cx} {e : Expr} {ta : TA} {p pos tpos : Pos} {elts : List Expr} {kk : Nat} (hg : Gl X "enumerate") (hm : X.mg "enumerate" = none) (ha : PA X [e] ta) (hs : starEach [e] X.env = [(false, eval e X.env)] := by rfl) :
    PI X (.Tuple elts kk tpos) (.Call (.Name "enumerate" p) [e] [] pos) (iEnumT X.K ta) := by
  refine ⟨fun pins s σ H R I h => Call_ (ld_blt I hg hm boot_enumerate (PyProof.Rows.callWith_type1 (thn (ha.run pos pins s σ H _ I h) fun us s1 ⟨vs, H1, I1, r1, q1⟩ => ?_) hs rfl))⟩
  obtain ⟨a, xs, rfl, hq, q⟩ := q1
  cases r1 with
  | cons r rr =>
    cases rr
    cases r
    obtain ⟨its, rv, p', hz⟩ := I1.tuple hq
    have hal : a < s1.heap.objs.size := by obtain ⟨_, q, _⟩ := p'; exact Heap.lt_size q
    refine enumT_call p' fun h' he hit hk => wpAny_pyIter_enum he ?_
    have I2 : Inv X pins σ H1 { s1 with heap := h' } := I1.kept (t' := s1.toks) hk
    refine ⟨s1.heap.objs.size + 1, [s1.heap.objs.size + 1, s1.heap.objs.size], _, _, H1, rfl, I2, turn_enumT a (s1.heap.objs.size + 1) s1.heap.objs.size, ⟨⟨.none, he⟩, hit, Nat.succ_ne_self _, Nat.ne_of_lt hal, Nat.ne_of_lt (Nat.lt_succ_of_lt hal)⟩, fun b hb => ?_, q⟩
    have hle : s1.heap.objs.size ≤ b := by
      rcases (show b = s1.heap.objs.size + 1 ∨ b = s1.heap.objs.size by simpa using hb) with rfl | rfl <;> omega
    exact I1.fpOk hle (I1.hok.fresh hle)
def enD : Nat → List D → List D
  | _, [] => []
  | k, d :: ds => .tup [.int (k : Nat), d] :: enD (k + 1) ds
theorem enD_at : ∀ {ds : List D} {k i : Nat} {d : D}, (enD k ds)[i]? = some d → ∃ e, ds[i]? = some e ∧ d = .tup [.int ((k + i : Nat) : Int), e]
  | [], _, _, _, h => by simp [enD] at h
  | e :: ds, k, 0, d, h => by simp [enD] at h; exact ⟨e, rfl, h.symm⟩
  | e :: ds, k, i + 1, d, h => by
    obtain ⟨e', h1, h2⟩ := enD_at (ds := ds) (k := k + 1) (i := i) (d := d) (by simpa [enD] using h)
    exact ⟨e', h1, by rw [h2, show k + 1 + i = k + (i + 1) by omega]⟩
theorem enD_length : ∀ {ds : List D} {k : Nat}, (enD k ds).length = ds.length
  | [], _ => rfl
  | _ :: ds, k => congrArg (· + 1) (enD_length (ds := ds) (k := k + 1))
section
variable {X : Cx} {B : Bd} {S S1 S2 S3 : Nz.S} {e : Expr} {elts : List Expr} {kk : Nat} {tpos pos p : Pos} {xs : List D} {tg : Expr}
theorem src_enumT (h : Ea X B [e] S [.fr (.tup xs)] S1) (hg : Gl X "enumerate") (hm : X.mg "enumerate" = none) (hs : starEach [e] X.env = [(false, eval e X.env)] := by rfl) : Src X B (.Tuple elts kk tpos) (.Call (.Name "enumerate" p) [e] [] pos) S (enD 0 xs) S1 :=
  fun F α H σ R RR k => wI.of (pi_enumT hg hm pa_w hs) (h F α H σ _ RR fun F1 α1 v1 H1 R1 st1 r1 => by
    have r := CRels.fr (ds := [.tup xs]) r1
    cases r with
    | cons q rr =>
      cases rr
      cases q with
      | tup h1 h2 =>
        rename_i a vs
        refine ⟨a, vs, rfl, R1.sub.seqT h1, k F1 α1 H1 _ R1 st1 ⟨fun B F' α H σ S i d R' hs hi => ?_, fun B F' α H σ S i R' hs hi => ⟨vs, R'.sub.seqT (hs.seqT h1), by rw [← h2.length, ← enD_length (ds := xs) (k := 0)]; exact hi⟩⟩⟩
        obtain ⟨e', hi', rfl⟩ := enD_at hi
        obtain ⟨v, hv, rv⟩ := h2.get hi'
        refine ⟨⟨vs, v, R'.sub.seqT (hs.seqT h1), hv⟩, fun x H' y => ?_⟩
        obtain ⟨T, z, rfl, hT, rfl, y⟩ := y
        have := y vs (R'.sub.seqT (hs.seqT h1))
        rw [hv] at this; cases this
        refine ⟨upd F' T (.tup [.int (i : Nat), v]), R'.allocF hT, same_upd (R'.fresh hT), .tup (SqT.of upd_same) (.cons ?_ (.cons ((rv.mono hs).mono (same_upd (R'.fresh hT))) .nil))⟩
        rw [Nat.zero_add]; exact .int _)
end
end Nz
namespace Nz
open PySem PySem.Spec PyProof.Rows L2
def cntS (xs : List Str) : Nat → Nat
  | 0 => 0
  | i + 1 => if xs.getD i Str.empty ∈ xs.take i then cntS xs i else cntS xs i + 1
theorem cntS_le (xs : List Str) : ∀ i, cntS xs i ≤ i
  | 0 => Nat.le_refl _
  | i + 1 => by
    have := cntS_le xs i
    unfold cntS
    split <;> omega
theorem take_getD {xs : List Str} {i : Nat} (h : i < xs.length) : xs.take (i + 1) = xs.take i ++ [xs.getD i Str.empty] := by
  rw [List.take_succ, List.getElem?_eq_getElem h, List.getD_eq_getElem?_getD, List.getElem?_eq_getElem h]; rfl
theorem cntS_iff (xs : List Str) : ∀ i, i ≤ xs.length → (cntS xs i = i ↔ (xs.take i).Nodup)
  | 0, _ => by simp [cntS]
  | i + 1, h => by
    have ih := cntS_iff xs i (by omega)
    have hle := cntS_le xs i
    rw [take_getD h, List.nodup_append]
    unfold cntS
    by_cases hm : xs.getD i Str.empty ∈ xs.take i
    · rw [if_pos hm]
      refine ⟨fun e => by omega, fun e => ?_⟩
      exact absurd rfl (e.2.2 _ hm _ (List.mem_singleton.mpr rfl))
    · rw [if_neg hm]
      refine ⟨fun e => ⟨ih.mp (by omega), by simp, fun a ha b hb q => hm (by rw [List.mem_singleton.mp hb] at q; rw [← q]; exact ha)⟩, fun e => ?_⟩
      have := ih.mpr e.1
      omega
theorem cntS_nodup (xs : List Str) : cntS xs xs.length = xs.length ↔ xs.Nodup := by
  have := cntS_iff xs xs.length (Nat.le_refl _)
  rwa [List.take_length] at this
section
variable {P0 : Program} {w : World} {A : Around} {R : Result → Shared → Prop} {it : Addr} {fp wr : List Addr} {G : Array GenState → Array GenState → Prop} {n : Nat} {P : Nat → Value → Prop} {St : Nat → Shared → Prop}
theorem setS_loop (W : WalksS P0 w A.in1 it fp wr G n P St) (a : Addr) (ha : a ∉ fp) (xs : List Str) (hl : xs.length = n) (hn : n + 1 < scanBound) (hv : ∀ i v, P i v → ∃ t, v = .str (xs.getD i Str.empty) t) :
    ∀ (m i : Nat) (z : Shared), n - i = m → i ≤ n → St i z → z.heap.SetOf (PySem.strKind P0 w) a (fun y => decide (y ∈ xs.take i)) (cntS xs i) →
      (∀ z', Moved (a :: wr) G z z' → z'.heap.SetOf (PySem.strKind P0 w) a (fun y => decide (y ∈ xs.take n)) (cntS xs n) → R (.ok (.ret .none)) z') → codeAny (model P0 w) A (.builtin "set.update.loop" ⟨[.ref a, .ref it], []⟩) R z := by
  have hw : a ∉ wr := fun q => ha (W.sub _ q)
  have hs : ∀ b ∈ wr, b ∈ a :: wr := fun b q => List.mem_cons_of_mem _ q
  have same : ∀ {z z' : Shared} {S : Str → Bool} {c : Nat}, Moved wr G z z' → z.heap.SetOf (PySem.strKind P0 w) a S c → z'.heap.SetOf (PySem.strKind P0 w) a S c := fun mv q => by
    obtain ⟨o, es, ep, tb, ho, rest⟩ := q
    exact ⟨o, es, ep, tb, mv.heap a _ hw ho, rest⟩
  intro m
  induction m with
  | zero =>
    intro i z e1 e2 st S0 fin
    obtain rfl : i = n := by omega
    refine codeAny_builtin PyProof.Rows.F.entry_set_update_loop ?_
    rw [Around.under_plainId PyProof.Rows.F.plain_set_update_loop _]
    show wpAny _ A.in1 (pyNext (.ref it) >>= _) _ _ z
    exact wpAny_bind (W.done z _ _ st fun z' mv => wpAny_pure (fin z' (mv.mono hs) (same mv S0)))
  | succ m ih =>
    intro i z e1 e2 st S0 fin
    have e3 : i < n := by omega
    refine codeAny_builtin PyProof.Rows.F.entry_set_update_loop ?_
    rw [Around.under_plainId PyProof.Rows.F.plain_set_update_loop _]
    show wpAny _ A.in1 (pyNext (.ref it) >>= _) _ _ z
    refine wpAny_bind (W.item i z _ _ e3 st fun v z' hP st' mv => ?_)
    obtain ⟨t, rfl⟩ := hv i v hP
    have S1 := same mv S0
    show wpAny _ A.in1 (holding [Value.str (xs.getD i Str.empty) t] (setAdd a (.str (xs.getD i Str.empty) t)) >>= _) _ _ z'
    unfold setAdd
    refine wpAny_bind (wpAny_holding (wpAny_holding (wpAny_bind ((PySem.strKind P0 w).pyHash (k := xs.getD i Str.empty) (strKind_is _ _ _ _) ?_))))
    refine wpAny_setAddHashed_of (knd := PySem.strKind P0 w) (s := { z' with toks := z'.toks + 1 }) (strKind_is _ _ _ _) rfl S1 (by have := cntS_le xs i; omega) fun h2 sb S2 => ?_
    have S3 : h2.SetOf (PySem.strKind P0 w) a (fun y => decide (y ∈ xs.take (i + 1))) (cntS xs (i + 1)) := by
      refine SetOf_congr S2 (fun y => ?_) ?_
      · rw [take_getD (by omega)]
        by_cases q1 : y ∈ xs.take i
        · simp [q1]
        · by_cases q2 : y = xs.getD i Str.empty <;> simp [q1, q2]
      · show _ = if xs.getD i Str.empty ∈ xs.take i then cntS xs i else cntS xs i + 1
        by_cases q : xs.getD i Str.empty ∈ xs.take i <;> simp [q]
    have oth : ∀ b, b ≠ a → h2.get? b = z'.heap.get? b := fun b q => sb.2 b q
    refine wpAny_pure ⟨plainId_quiet PyProof.Rows.F.plain_set_update_loop _, ih (i + 1) _ (by omega) e3 (W.frame _ z' _ _ st' (Nat.le_succ _) fun b hb o e => by rw [oth b fun q => ha (q ▸ hb)]; exact e) S3 fun z2 mv2 S4 => ?_⟩
    exact fin z2 (Moved.trans W.gtrans ((mv.mono hs).then_heap (Nat.le_succ _) fun b o hb e => by rw [oth b fun q => hb (q ▸ List.mem_cons_self)]; exact e) mv2) S4
end
section
variable {P0 : Program} {w : World} {A : Around} {E : Value → Shared → Prop} {z : Shared}
def set0 (led : Bool) : Obj := { cls := .type "set", dict := none, data := .set #[] 0 (.fresh 0 0 led) }
set_option maxHeartbeats 3200000 in
theorem setS_call {a : Addr} {us : Array Value} {xs : List Str} {Q : Value → Shared → Prop} (hh : A.handled = none) (L : z.heap.IsList a us) (hi : PyProof.Rows.StrsAre us.toList xs) (hn : xs.length + 1 < scanBound)
    (k : ∀ (h' : Heap) (tk : Nat), h'.SetOf (PySem.strKind P0 w) z.heap.objs.size (fun y => decide (y ∈ xs)) (cntS xs xs.length) → (∀ b o, b < z.heap.objs.size → z.heap.get? b = some o → h'.get? b = some o) → Q (.ref z.heap.objs.size) { z with heap := h', toks := tk }) :
    wpAny (model P0 w) A (call (.type "set") [.ref a]) Q E z := by
  have m0 := PySem.F.called_set.mro
  obtain ⟨mc, mt, hmro⟩ := m0
  have hmade := PySem.F.called_set.made
  have hsub := PySem.F.called_set.sub
  refine wpAny_call (codeAny_of_tree ?_)
  show wpAny _ _ (callAny (.type "set") _) _ _ _
  refine wpAny_pure ⟨Code.quiet_builtin _ (by decide +kernel), codeAny_builtin PySem.F.entry_type_call ?_⟩
  rw [Around.under_plain (weight_type_call_type "set" [.ref a] []) rfl]
  have c1 := PySem.F.called_set.notType
  have c2 := PySem.F.called_set.canCreate
  have c3 := PySem.F.typeCall_set_1 (.ref a)
  repeat (any_goals (first | assumption | wp_step))
  refine codeAny_mono (code_set_new_1 (.ref a) (E := E) (Q₁ := fun o y => ∃ led : Bool, o = .ref z.heap.objs.size ∧ y = { z with heap := z.heap.push (set0 led) }) fun led => ⟨led, rfl, rfl⟩) fun r y hr => ?_
  cases r with
  | error e => exact hr
  | ok fl =>
    cases fl with
    | ret o =>
      obtain ⟨led, rfl, rfl⟩ := hr
      have g0 : (z.heap.push (set0 led)).get? z.heap.objs.size = some (set0 led) := Heap.get?_push_size _ rfl
      have t0 : Shared.TypeIs { z with heap := z.heap.push (set0 led) } (.ref z.heap.objs.size) "set" := ⟨_, g0, rfl⟩
      have l0 := PySem.F.called_set.init.lookup
      have b0 := PySem.F.called_set.init.bind (.ref z.heap.objs.size)
      repeat (any_goals (first | assumption | wp_step))
      refine codeAny_mono (codeAny_call_builtin (R := wants (fun r y => r = .none ∧ ∃ h' tk, y = { z with heap := h', toks := tk } ∧ h'.SetOf (PySem.strKind P0 w) z.heap.objs.size (fun y => decide (y ∈ xs)) (cntS xs xs.length) ∧
          (∀ b o, b < z.heap.objs.size → z.heap.get? b = some o → h'.get? b = some o)) E) PySem.F.called_set.init.plain PySem.F.entry_set_init (check_set_init_1 t0 ?_)) fun r2 y2 hr2 => ?_
      · obtain ⟨⟨oc, od, dt, ss⟩, e0, e1, kk, e2⟩ := L
        simp only at e1 e2
        subst e1 e2
        have e3 : (z.heap.push (set0 led)).get? a = some { cls := .type "list", dict := od, data := .seq us kk, slots := ss } := Heap.get?_push_of_some _ e0
        have s1 := PySem.F.sub_list_set
        have s2 := PySem.F.sub_list_frozenset
        have s3 : (Value.type "list" == Value.type "dict") = false := by decide
        have L1 : (z.heap.push (set0 led)).IsList a us := ⟨_, e3, rfl, kk, rfl⟩
        have hal : a < z.heap.objs.size := Heap.lt_size e0
        have h3 : A.in1.in1.in1.handled = none := by simp [hh]
        have sz : (z.heap.push (set0 led)).objs.size = z.heap.objs.size + 1 := Heap.size_push ..
        unfold Builtin.«set.__init__» noKeywords Builtin.Frozenset.updateFrom
        generalize hPI : pyIter = PI
        wp_walk
        subst hPI
        refine wpAny_pyIter_list L1 (wpAny_bind (wpAny_runValue ?_))
        have n1 : a ≠ (z.heap.push (set0 led)).objs.size := by rw [sz]; exact Nat.ne_of_lt (Nat.lt_succ_of_lt hal)
        have n2 : z.heap.objs.size ∉ [(z.heap.push (set0 led)).objs.size, a] := by
          rw [sz]
          intro q
          rcases List.mem_cons.mp q with q | q
          · exact absurd q (Nat.ne_of_lt (Nat.lt_succ_self _))
          · exact absurd (List.mem_singleton.mp q) (Nat.ne_of_gt hal)
        have hsz : xs.length = us.size := by rw [← StrsAre.len_eq hi, Array.length_toList]
        refine setS_loop ((Walks.list h3 _ a n1 us).toS) z.heap.objs.size n2 xs hsz (by rw [← hsz]; exact hn) (fun i v hv => SS.strs_at hi i v (by rw [Array.getElem?_toList]; exact hv)) (us.size - 0) 0 _ rfl (Nat.zero_le _) ⟨⟨_, Heap.get?_push_size _ rfl, rfl, rfl⟩, (L1.push _)⟩ ?_ ?_
        · have g1 : ((z.heap.push (set0 led)).push { cls := .type "list_iterator", data := .fields #[.ref a, .int 0 0] }).get? z.heap.objs.size = some (set0 led) := Heap.get?_push_of_some _ g0
          exact PyProof.Rows.SetOf_congr ((PyProof.Rows.setObjOf_fresh (knd := PySem.strKind P0 w) led).setOf g1 (by unfold scanBound; omega)) (fun _ => by simp) rfl
        · intro y' mv S'
          obtain ⟨h', g', d', tk', os'⟩ := y'
          obtain rfl : g' = z.gens := mv.gens
          obtain rfl : d' = z.drawn := mv.drawn
          obtain rfl : os' = z.os := mv.os
          show wpAny _ _ _ _ _ _
          refine wpAny_pure ?_
          show wpAny _ _ (ret Value.none) _ _ _
          rw [← hsz, List.take_length] at S'
          refine wpAny_pure ⟨rfl, h', tk', rfl, S', fun b o hb e => mv.heap b o (fun q => ?_) (Heap.get?_push_of_some _ (Heap.get?_push_of_some _ e))⟩
          rcases List.mem_cons.mp q with q | q
          · exact absurd q (Nat.ne_of_lt hb)
          · rw [List.mem_singleton.mp q, sz] at hb; exact absurd hb (by omega)
      · cases r2 with
        | error e => exact hr2
        | ok fl2 =>
          cases fl2 with
          | ret r =>
            obtain ⟨rfl, h', tk, rfl, S', k'⟩ := hr2
            repeat (any_goals (first | assumption | wp_step))
            exact k _ _ S' k'
          | _ => exact hr2.elim
    | _ => exact hr.elim
end
end Nz
namespace Nz
open PySem PySem.Spec PyProof.Rows L2
theorem Reps.strs_eq {K : Frag} {mg : Mg} {F : Hp} : ∀ {ns : List Str} {vs : List V}, Reps K mg F (ns.map D.str) vs → vs = ns.map V.str
  | [], _, .nil => rfl
  | _ :: _, _, .cons h r => by cases h; rw [Reps.strs_eq r]; rfl
section
variable {X : Cx} {B : Bd} {S S1 S2 S3 : Nz.S} {tg a b c e : Expr} {es elts : List Expr} {kk : Nat} {tpos pos p q p2 : Pos} {d : D} {ds : List D} {x : Str} {τ : Type} {enc : τ → D}
/-- len(set(e)) -/
theorem ev_lenSet {xs : List Str} (hc : X.calm = true) (hg : Gl X "len") (hm : X.mg "len" = none) (hg2 : Gl X "set") (hm2 : X.mg "set" = none) (hn : xs.length + 1 < scanBound) (ha : Ev X B a S (.fr (eL D.str xs)) S1)
    (na : starEach [a] X.env = (false, eval a X.env) :: starEach [] X.env := by rfl) : Ev X B (.Call (.Name "len" p) [.Call (.Name "set" p2) [a] [] q] [] pos) S (.fr (.int (cntS xs xs.length : Nat))) S1 := fun F α H σ Q R k pins s I => by
  refine Call_ (ld_blt I hg hm boot_len (PyProof.Rows.callWith_builtin1 (PyProof.Rows.args_cons (Call_ (ld_blt I hg2 hm2 boot_set (PyProof.Rows.callWith_type1 (PyProof.Rows.args_cons (thn (ha F α H σ (fun v H1 => ∃ F1 α1, RelX X B F1 α1 H1 σ S1 ∧ Stp F α S.L F1 α1 ∧ Rep X.K X.mg F1 (eL D.str xs) v) R
    (fun F1 α1 v1 H1 R1 st1 r1 => ⟨F1, α1, R1, st1, r1⟩) pins s I) fun v s1 ⟨y, H1, I1, rv, F1, α1, R1, st1, r1⟩ => PyProof.Rows.args_nil ?_) na) na rfl))) rfl) rfl rfl))
  cases r1 with
  | lst h1 h2 =>
    cases rv
    have hq := R1.sub.seq h1
    rw [Reps.strs_eq h2] at hq
    obtain ⟨its, r, pl, hz⟩ := I1.list hq
    refine setS_call (I1.ok.hd hc) pl.isList (by simpa using strsAre_of r) hn fun h' tk S' hk => PyProof.Rows.args_nil ?_
    obtain ⟨o, es', ep, t, ho, hex, hd, _, _, _, hf, hn'⟩ := S'
    have I2 : Inv X pins σ H1 { s1 with heap := h', toks := tk } := I1.kept fun b o e => hk b o (Heap.lt_size e) e
    have hle := cntS_le xs xs.length
    have hb : scanBound ≤ 2 ^ 62 := by unfold scanBound; decide
    exact call_len_set ho hex hd hf (by rw [hn'] <;> omega) ⟨.int (cntS xs xs.length : Nat), H1, I2.tok _, ⟨_, by rw [hn']⟩, k F1 α1 _ H1 R1 st1 (.int _)⟩
def chs (z : Str) : List Str := z.cps.toList.map fun c => ⟨#[c]⟩
theorem src_str {z : Str} (h : Ev X B e S (.fr (.str z)) S1) : Src X B tg e S ((chs z).map D.str) S1 := fun F α H σ R RR k => wI.of (pi_str pe_w) (h F α H σ _ RR fun F1 α1 v1 H1 R1 st1 r1 => by
  cases (show Rep X.K X.mg F1 (.str z) v1 from r1) with
  | str =>
    have hlen : ((chs z).map D.str).length = z.cps.size := by simp [chs]
    refine ⟨z, rfl, k F1 α1 H1 _ R1 st1 ⟨fun B F' α H σ S i d R' hs hi => ?_, fun B F' α H σ S i R' hs hi => by rw [hlen] at hi; exact hi⟩⟩
    have hi2 := (List.getElem?_eq_some_iff.mp hi).1
    rw [hlen] at hi2
    refine ⟨hi2, fun x H' y => ?_⟩
    obtain ⟨rfl, c, hc, rfl⟩ := y
    refine ⟨F', R', Same.refl _, ?_⟩
    have e1 : ((chs z).map D.str)[i]? = some (.str ⟨#[c]⟩) := by
      rw [List.getElem?_map]
      unfold chs
      rw [List.getElem?_map, Array.getElem?_toList, hc]; rfl
    rw [e1] at hi
    cases hi
    exact .str _)
def inS (i j : Str) : Bool := !(Builtin.Str.occurrences j i 0 j.length 1).isEmpty
theorem o_inS {i j : Str} : Op2 X (compareOp .In) (.str i) (.str j) (.bl (inS i j)) :=
  .pure (v := .bl (inS i j)) op_in_str (fun _ => .bl _) fun F H Q x y _ rx ry q => by cases rx; cases ry; exact ⟨i, j, rfl, rfl, q⟩
def enL : Nat → List τ → List (Int × τ)
  | _, [] => []
  | k, x :: xs => ((k : Int), x) :: enL (k + 1) xs
theorem enD_map {xs : List τ} : ∀ {k : Nat}, enD k (xs.map enc) = (enL k xs).map (eT2 D.int enc) := by
  induction xs with
  | nil => intro k; rfl
  | cons x r ih => intro k; show _ :: _ = _ :: _; rw [ih]
theorem src_enumU {xs : List τ} (h : Ea X B [e] S [.fr (eU enc xs)] S1) (hg : Gl X "enumerate") (hm : X.mg "enumerate" = none) (hs : starEach [e] X.env = [(false, eval e X.env)] := by rfl) :
    Src X B (.Tuple elts kk tpos) (.Call (.Name "enumerate" p) [e] [] pos) S ((enL 0 xs).map (eT2 D.int enc)) S1 := by
  rw [← enD_map]; exact src_enumT h hg hm hs
end
end Nz
namespace Nz
open PySem PySem.Spec PyProof.Rows L2
def wK (X : Cx) (kws : List Keyword) (σ : L2.St) (H : Hp) (Q : List V → Hp → Prop) : Prop :=
  ∀ pos pins s, Inv X pins σ H s → wpAny (model X.prog X.w) X.A (evalAll ((backToKw pos (keywordEach kws X.env)).map (·.2))) (AP X pins σ Q) X.xe s
theorem pk_w {X : Cx} {kws : List Keyword} : PK X kws (wK X kws) := ⟨fun pos pins s σ H Q I h => h pos pins s I⟩
theorem wK.of {X : Cx} {kws : List Keyword} {t : TA} (h : PK X kws t) {σ : L2.St} {H : Hp} {Q : List V → Hp → Prop} (q : t σ H Q) : wK X kws σ H Q := fun pos pins s I => h.run pos pins s σ H Q I q
def Ek (X : Cx) (B : Bd) (kws : List Keyword) (S : S) (ds : List D) (S' : Nz.S) : Prop :=
  ∀ F α H σ Q, RelX X B F α H σ S → (∀ F' α' vs H', RelX X B F' α' H' σ S' → Stp F α S.L F' α' → Reps X.K X.mg F' ds vs → Q vs H') → wK X kws σ H Q
section
variable {X : Cx} {B : Bd} {S S1 S2 S3 : Nz.S} {a e : Expr} {es : List Expr} {kws : List Keyword} {pos p kpos : Pos} {d : D} {ds es' : List D} {c nm : Str} {fs : List (Str × D)} {C g : Addr} {fd : FuncData} {ps ks : List Str} {k n : Nat} {sp : SpN}
theorem ek_nil : Ek X B [] S [] S := fun F α H σ Q R k => wK.of pk_nil (k F α [] H R Stp.refl .nil)
theorem ek_cons (ha : Ev X B e S (.fr d) S1) (hr : Ek X B kws S1 ds S2) (h1 : Sub S.L S1.L := by exact Sub.refl) : Ek X B (⟨nm, e, kpos⟩ :: kws) S (d :: ds) S2 := fun F α H σ Q R k => wK.of (pk_cons pe_w pk_w) (ha F α H σ _ R fun F1 α1 v1 H1 R1 st1 r1 =>
  hr F1 α1 H1 σ _ R1 fun F2 α2 vs H2 R2 st2 r2 => k F2 α2 _ H2 R2 (st1.trans st2 h1) (.cons (Rep.mono st2.fro r1) r2))
/-- every parameter given: n values, then keywords by name in the def's order -/
theorem kbn_all {K : Frag} (h : ∀ us ws : List Value, us.length = n → ws.length = ks.length → bindArgs fd ⟨us, ks.zip ws⟩ = pure (ps.zip (us ++ ws))) : KBn K fd ps n ks (fun us ws => us ++ ws) (fun vs zs => vs ++ zs) :=
  ⟨fun s us ws _ l1 l2 => .of_eq (h us ws l1 l2), fun r1 r2 => r1.append r2⟩
/-- C(e, .., k = v, ..) -/
theorem ev_makeK (hm : X.mg c = some (.ref C)) (M : Mk X.K C g) (F : FnOk X.prog X.w X.K X.mg X.base CX0 k g fd ps (SpOf X.K X.mg sp)) (hr : Room (k + 1) X.A) (hb : KBn X.K fd ps (n + 1) ks (fun us ws => us ++ ws) (fun vs zs => vs ++ zs)) (ha : Ea X B (e :: es) S (ds.map Ce.fr) S1) (hk : Ek X B kws S1 es' S2)
    (l1 : ds.length = n) (l2 : es'.length = ks.length)
    (hs : ∀ Kc : Ce → List (Nat × LO) → Prop, Kc (.fr .non) [(0, .ins c (fs.map fun p => (p.1, Ce.fr p.2)))] → sp (.ad 0 :: (ds ++ es').map Ce.fr) [(0, .ins c [])] Kc) (hg : Gl X c) (h1 : Sub S.L S1.L := by exact Sub.refl) (h2 : Sub S1.L S2.L := by exact Sub.refl) (hdb : (c == ("__debug__" : Str)) = false := by decide)
    (hall : (backToKw pos (keywordEach kws X.env)).all (·.1.isSome) = true := by rfl) (hks : (backToKw pos (keywordEach kws X.env)).filterMap (·.1) = ks := by rfl)
    (he : starEach (e :: es) X.env = (false, eval e X.env) :: starEach es X.env := by rfl) (hpl : ((backTo pos (starEach (e :: es) X.env)).any (·.1) || (backToKw pos (keywordEach kws X.env)).any (·.1.isNone)) = false := by rfl) : Ev X B (.Call (.Name c p) (e :: es) kws pos) S (.fr (.obj c fs)) S2 :=
  fun F0 α H σ Q R k => wE.of (pe_makeK M F hr hg hm hb pass0 pa_w pk_w hall hks hdb he hpl) (ha F0 α H σ _ R fun F1 α1 vs H1 R1 st1 r1 => hk F1 α1 H1 σ _ R1 fun F2 α2 zs H2 R2 st2 r2 => by
    have rr := Reps.append ((CRels.fr r1).mono st2.fro) r2
    have lv : vs.length = n := by rw [← (CRels.fr r1).length]; exact l1
    have lz : zs.length = ks.length := by rw [← r2.length]; exact l2
    exact ⟨lv, lz, fun y dy hy hdy hne => init_call R2 hy hdy hne hm rr hs fun F' H' R' st' r' => k F' α2 _ H' R' ((st1.trans st2 h1).trans ⟨st', fun _ _ => rfl⟩ fun n h => h2 n (h1 n h)) r'⟩)
end
end Nz
namespace Nz
open PySem PySem.Spec PyProof.Rows L2
section
variable {X : Cx} {B : Bd} {S S1 S2 S3 : Nz.S} {tg a b c e o : Expr} {pos apos p q p2 : Pos} {d : D} {ds : List D} {x : Str}
/-- the sign at a place -/
def chA (z : Str) (i : Int) : Str := ⟨#[z.cps.toList.getD i.toNat 0]⟩
theorem ev_ixS {z : Str} {i : Int} (ha : Ev X B a S (.fr (.str z)) S1) (hb : Ev X B b S1 (.fr (.int i)) S2) (hz : z.length ≤ sizeLine) (h0 : 0 ≤ i) (h1 : i < z.length) (hs : PlainIx b := by exact fun _ _ => rfl) (g1 : Sub S.L S1.L := by exact Sub.refl) (g2 : Sub S1.L S2.L := by exact Sub.refl) :
    Ev X B (.Subscript a b pos) S (.fr (.str (chA z i))) S2 :=
  fun F α H σ Q R k => wE.of (pe_ix ix_str pe_w pe_w hs) (ha F α H σ _ R fun F1 α1 v1 H1 R1 st1 r1 => hb F1 α1 H1 σ _ R1 fun F2 α2 v2 H2 R2 st2 r2 => by
    cases r1
    cases r2
    obtain ⟨n, rfl⟩ := Int.eq_ofNat_of_zero_le h0
    have hn : n < z.cps.toList.length := by rw [Array.length_toList]; have : z.length = z.cps.size := rfl; omega
    refine ⟨z, (n : Int), z.cps.toList.getD n 0, rfl, rfl, hz, atI_nat (by rw [List.getD_eq_getElem?_getD, List.getElem?_eq_getElem hn]; rfl), k F2 α2 _ H2 R2 (st1.trans st2 g1) (.str _)⟩)
/-- sep.join(list of texts) -/
theorem ev_join {z : Str} {ys : List Str} (ho : Ev X B o S (.fr (.str z)) S1) (ha : Ev X B e S1 (.fr (eL D.str ys)) S2) (hz : (ys.map (·.length)).sum + ys.length * z.length ≤ 16777216) (g1 : Sub S.L S1.L := by exact Sub.refl)
    (hs : starEach [e] X.env = [(false, eval e X.env)] := by rfl) (hbase : attributeBase o "join" X.env (eval o X.env) = eval o X.env := by rfl) (hline : (apos.endLine == pos.line) = true := by rfl) :
    Ev X B (.Call (.Attribute o "join" apos) [e] [] pos) S (.fr (.str (Txt.join z ys))) S2 :=
  fun F α H σ Q R k => wE.of (pe_join pe_w pe_w hs hbase hline) (ho F α H σ _ R fun F1 α1 v1 H1 R1 st1 r1 => by
    cases r1
    refine ⟨⟨z, rfl⟩, ha F1 α1 H1 σ _ R1 fun F2 α2 v2 H2 R2 st2 r2 => ?_⟩
    obtain ⟨l, us, rfl, hq, rs⟩ := R2.asL (c := .fr (.lst (ys.map D.str))) rfl r2
    rw [Reps.strs_eq rs] at hq
    exact ⟨z, l, ys, rfl, rfl, .inl hq, hz, k F2 α2 _ H2 R2 (st1.trans st2 g1) (.str _)⟩)
end
end Nz
namespace Nz
open PySem PySem.Spec PyProof.Rows L2
section
variable {K : Frag} {mg : Mg} {B : Bd} {F F' : Hp} {α α' : Nat → Addr} {H H' : Hp} {σ σ' : L2.St} {S S' : Nz.S} {L L' : List (Nat × LO)} {a p : Addr}
/-- the cells as the callee has them -/
def renC (m : Nat) : Ce → Ce
  | .fr d => .fr d
  | .ad n => .ad 0
  | .xv u => .xv u
def adsOk (m : Nat) : List Ce → Bool
  | [] => true
  | .fr _ :: r => adsOk m r
  | .ad n :: r => n == m && adsOk m r
  | .xv _ :: _ => false
end
end Nz
namespace Nz
open PySem PySem.Spec PyProof.Rows L2
end Nz
namespace Nz
theorem some_of {τ : Type} {y : Option τ} (h : ¬ (y.isNone = true)) : y.isSome = true := by
  cases y with
  | none => exact absurd rfl h
  | some z => rfl
theorem some_of2 {τ : Type} {y : Option τ} (h : ¬ ¬ ¬ (y.isNone = true)) : y.isSome = true := some_of fun z => h fun w => w z
end Nz
namespace Nz
theorem runE_inv {τ σ ρ : Type} {step : σ → τ → Except ρ σ} (P : σ → Prop) (R : ρ → Prop) : ∀ {ys : List τ} {s : σ}, (∀ s y, y ∈ ys → P s → (∀ s', step s y = .ok s' → P s') ∧ ∀ r, step s y = .error r → R r) → P s →
    (∀ s', runE step ys s = .ok s' → P s') ∧ ∀ r, runE step ys s = .error r → R r
  | [], s, _, h => ⟨fun s' e => by cases e; exact h, fun r e => by cases e⟩
  | y :: ys, s, hs, h => by
    obtain ⟨h1, h2⟩ := hs s y List.mem_cons_self h
    rw [runE_cons]
    cases e : step s y with
    | error r => exact ⟨fun s' q => (by cases q), fun r' q => (by cases q; exact h2 r e)⟩
    | ok s1 => exact runE_inv P R (fun s y hy => hs s y (List.mem_cons_of_mem _ hy)) (h1 s1 e)
end Nz
namespace Nz
open PySem PySem.Spec PyProof.Rows L2
end Nz
namespace Nz
open PySem PySem.Spec PyProof.Rows L2
section
variable {K : Frag} {mg : Mg} {B : Bd} {F : Hp} {α : Nat → Addr} {H : Hp} {σ : L2.St} {S : Nz.S}
theorem Rel.adopt (R : Rel K mg B F α H σ S) {p : Addr} {m : Nat} {xs : List D} {vs : List V} (hm : m ∉ names S.L) (h100 : 100 ≤ m) (f0 : F p = none) (f1 : B.H0 p = none ∨ B.fp p) (e : H p = some (.lst vs)) (r : Reps K mg F xs vs) (ne : ∀ k, k ∈ names S.L → α k ≠ p) :
    Rel K mg B F (setα α m p) H σ ⟨S.ρ, S.L ++ [(m, .fl xs)]⟩ := by
  have st : Stp F α S.L F (setα α m p) := stp_setα hm
  have hsub : ∀ k, k ∈ names S.L → k ∈ names (S.L ++ [(m, LO.fl xs)]) := fun k hk => by rw [names_append]; exact List.mem_append_left _ hk
  have hself : setα α m p m = p := by unfold setα; rw [if_pos rfl]
  refine ⟨R.sub, R.bF, R.nF, R.frame, ?_, ?_, ?_, R.slots.step st hsub, fun k a e' hk => ?_⟩
  · rw [names_append]
    exact List.nodup_append.mpr ⟨R.nd, by simp, fun a ha b hb => by
      have : b = m := by simpa using hb
      subst this
      exact fun q => hm (q ▸ ha)⟩
  · intro a b ha hb e'
    rw [names_append] at ha hb
    rcases List.mem_append.mp ha with ha' | ha' <;> rcases List.mem_append.mp hb with hb' | hb'
    · rw [st.nm a ha', st.nm b hb'] at e'; exact R.inj a b ha' hb' e'
    · have h2 : b = m := by simpa using hb'
      rw [h2, hself, st.nm a ha'] at e'
      exact absurd e' (ne a ha')
    · have h2 : a = m := by simpa using ha'
      rw [h2, hself, st.nm b hb'] at e'
      exact absurd e'.symm (ne b hb')
    · have h1 : a = m := by simpa using ha'
      have h2 : b = m := by simpa using hb'
      rw [h1, h2]
  · intro k o' hk
    rcases List.mem_append.mp hk with hk | hk
    · obtain ⟨h1, h2, h3⟩ := R.live k o' hk
      have e' : setα α m p k = α k := st.nm k (mem_names hk)
      rw [e']
      exact ⟨h1, h2, h3.step st hsub (fun _ _ z => z) fun b w' z => .inl z⟩
    · have e' : (k, o') = (m, LO.fl xs) := by simpa using hk
      cases e'
      rw [hself]
      exact ⟨f0, f1, vs, e, r⟩
  · have hk : k ∈ names (S.L ++ [(m, LO.fl xs)]) := hk
    rw [names_append] at hk
    rcases List.mem_append.mp hk with hk | hk
    · rw [st.nm k hk]; exact R.fix k a e' hk
    · have : k = m := by simpa using hk
      rw [this, B.hpa m h100] at e'; cases e'
end
section
variable {X : Cx} {B : Bd} {S S1 S2 : Nz.S} {a b e o : Expr} {es : List Expr} {pos apos p q : Pos} {d d1 : D} {ds xs : List D} {x : Str} {fd : FuncData} {ps : List Str} {k : Nat} {sp : SpN} {f : Addr}
/-- f(e, ..) that hands back a new list that lives -/
theorem ev_callNew (m : Nat) (F : FnOk X.prog X.w X.K X.mg X.base CX0 k f fd ps (SpOf X.K X.mg sp)) (hr : Room k X.A) (hm : X.mg x = some (.ref f)) (hk : PySem.W.keepIn X.K (.ref f) = true) (hb : Binds X.K fd ps [])
    (ha : Ea X B (e :: es) S (ds.map Ce.fr) S1) (hn : m ∉ names S1.L) (h100 : 100 ≤ m) (hs : ∀ Kc : Ce → List (Nat × LO) → Prop, (∀ n L', getL n L' = some (.fl xs) → Kc (.ad n) L') → sp (ds.map Ce.fr) [] Kc) (hg : Gl X x) (h1 : Sub S.L S1.L := by exact Sub.refl) (hdb : (x == ("__debug__" : Str)) = false := by decide)
    (he : starEach (e :: es) X.env = (false, eval e X.env) :: starEach es X.env := by rfl) (hpl : (backTo pos (starEach es X.env)).any (·.1) = false := by rfl) : Ev X B (.Call (.Name x p) (e :: es) [] pos) S (.ad m) ⟨S1.ρ, S1.L ++ [(m, .fl xs)]⟩ :=
  fun F0 α H σ Q R k => wE.of (pe_call F hr hg hm hk hb .nil pass0 pa_w hdb he hpl) (ha F0 α H σ _ R fun F1 α1 vs H1 R1 st1 r1 => by
    rw [List.append_nil]
    refine ⟨F1, α1, [], _, fun _ => False, R1.call0 (CRels.fr r1), hs _ fun n L' h0 F' α' v H' ρ' σ' R' r' => ?_⟩
    obtain ⟨hnm, rfl⟩ := r'
    obtain ⟨g0, g1, us, hu, ru⟩ := R'.live n _ (getL_mem h0)
    have g1 : H1 (α' n) = none := g1.elim id fun z => z.elim
    have Rb := R1.back0 R'
    have ne : ∀ k, k ∈ names S1.L → α1 k ≠ α' n := fun k hk q => by
      obtain ⟨⟨k', o'⟩, h1, h2⟩ := List.mem_map.mp hk
      cases h2
      obtain ⟨w', hw⟩ := (R1.live _ _ h1).2.2.is
      rw [q, g1] at hw; cases hw
    have hB : B.H0 (α' n) = none ∨ B.fp (α' n) := by
      by_cases z : B.fp (α' n)
      · exact .inr z
      · refine .inl ?_
        cases q : B.H0 (α' n) with
        | none => rfl
        | some w' => rw [R1.frame _ w' q z] at g1; cases g1
    have Ra := Rb.adopt (m := m) hn h100 g0 hB hu ru ne
    have self : setα α1 m (α' n) m = α' n := by unfold setα; rw [if_pos rfl]
    refine k F' (setα α1 m (α' n)) _ H' Ra ((st1.trans ⟨R'.bF, fun _ _ => rfl⟩ h1).trans (stp_setα hn) h1) ⟨?_, by rw [self]⟩
    rw [names_append]; exact List.mem_append_right _ (List.mem_singleton.mpr rfl))
/-- xs[i] = v, the list lives -/
theorem ex_setI {K : Out → Prop} (n : Nat) {i : Int} (he : Ev X B e S (.fr d) S1) (ho : Ev X B o S1 (.ad n) S1) (hi : Ev X B a S1 (.fr (.int i)) S1) (hl : getL n S1.L = some (.fl xs)) (h0 : 0 ≤ i) (h1 : i < xs.length)
    (k : K (.nx ⟨S1.ρ, setL n (.fl (xs.set i.toNat d)) S1.L⟩)) (hs : swapsWithSole [.Subscript o a p] e pos.line X.env = pure false := by rfl) (hw : swappedStores [.Subscript o a p] e X.env = pure none := by rfl)
    (h2 : (assignEach [.Subscript o a p] X.env).map (·.2) = [assign (.Subscript o a p) X.env] := by rfl)
    (hsub : ∀ v, assign (.Subscript o a p) X.env v = (do
      let ov ← holding [v] (eval o X.env)
      let iv ← holding [v, ov] (eval a X.env)
      standAt p
      holding [v, ov, iv] (setItem ov iv v)
      release [v, ov, iv] []) := by intro _; rfl) : Ex X B (.Assign [.Subscript o a p] e pos) S K :=
  fun F α H σ D R oo => wS.of (ps_asg pe_w (pg_sub pe_w pe_w set_list hsub) hs hw h2) (he F α H σ _ R fun F1 α1 v1 H1 R1 st1 r1 => ho F1 α1 H1 σ _ R1 fun F2 α2 v2 H2 R2 st2 r2 => hi F2 α2 H2 σ _ R2 fun F3 α3 v3 H3 R3 st3 r3 => by
    obtain ⟨hn1, rfl⟩ := r2
    cases r3
    have hmm := getL_mem hl
    obtain ⟨f0, f1, vs, e1, rs⟩ := R3.live n _ hmm
    have en : α3 n = α2 n := st3.nm n hn1
    refine ⟨α2 n, vs, i, i.toNat, rfl, rfl, by rw [← en]; exact e1, by unfold ixN; rw [if_pos h0, ← rs.length, if_pos h1], ?_⟩
    have Rp := R3.put (n := n) (u := .fl (xs.set i.toNat d)) (o' := .lst (vs.set i.toNat v1)) hmm ⟨vs.set i.toNat v1, upd_same, rs.set i.toNat (Rep.mono (st2.fro.trans st3.fro) r1)⟩
    rw [en] at Rp
    exact oo.nx _ F3 α3 _ σ k Rp (st1.fro.trans (st2.fro.trans st3.fro)))
end
end Nz
namespace Nz
open PySem PySem.Spec PyProof.Rows L2
end Nz
namespace Nz
open PySem PySem.Spec PyProof.Rows L2
def boOf (L : List (Nat × LO)) : List Ce → Option (List D)
  | [] => some []
  | .fr d :: cs => (boOf L cs).map (d :: ·)
  | .ad n :: cs => match getL n L with
    | some (.fl xs) => (boOf L cs).map (.lst xs :: ·)
    | _ => none
  | .xv _ :: _ => none
end Nz
namespace Nz
theorem rng_lt {n i y : Nat} (h : (List.range n)[i]? = some y) : y < n := List.mem_range.mp (List.mem_of_getElem? h)
end Nz
namespace Nz
open PySem PySem.Spec PyProof.Rows L2
end Nz
namespace Nz
theorem small_log {i : Int} (h : -1000000 ≤ i ∧ i ≤ 1000000) : i.natAbs.log2 < 1920 := by
  by_cases h0 : i.natAbs = 0
  · rw [h0]; decide
  · have h1 : i.natAbs < 2 ^ 20 := by
      have : (2 : Nat) ^ 20 = 1048576 := by decide
      omega
    have := (Nat.log2_lt h0).mpr h1
    omega
end Nz
namespace Nz
theorem some_of3 {τ : Type} {y : Option τ} {b : Bool} (h : ¬ ¬ ((y.isSome && b) = true)) : y.isSome = true := by
  have := Classical.not_not.mp h
  rw [Bool.and_eq_true] at this
  exact this.1
theorem some_of4 {τ : Type} {y : Option τ} {b : Bool} {q : Prop} (h : ¬ ((¬ ((y.isSome && b) = true)) ∨ q)) : y.isSome = true := some_of3 fun z => h (.inl z)
theorem some_of5 {τ : Type} {y : Option τ} {b : Bool} {q : Prop} (h : ((y.isSome && b) = true)) : y.isSome = true := some_of3 fun z => z h
end Nz
namespace Nz
/-- from the test of a while -/
theorem some_ofW {τ : Type} {y : Option τ} (h : (!y.isNone) = true) : y.isSome = true := by
  cases y with
  | none => exact absurd h (by simp)
  | some z => rfl
end Nz
namespace Nz
open PySem PySem.Spec PyProof.Rows L2
end Nz
namespace Nz
open PySem PySem.Spec PyProof.Rows L2
end Nz
namespace Nz
open PySem PySem.Spec PyProof.Rows L2
end Nz
namespace Nz
open PySem PySem.Spec PyProof.Rows L2
def lt2 {τ μ : Type} [DecidableEq τ] (f : τ → τ → Bool) (g : μ → μ → Bool) (x y : τ × μ) : Bool := if x.1 = y.1 then g x.2 y.2 else f x.1 y.1
end Nz
namespace Nz
open PySem PySem.Spec PyProof.Rows L2
/-- an error: its class, its fields -/
structure Exn where
  c : Str
  fs : List (Str × D)
deriving Inhabited
def ExR (K : Frag) (mg : Mg) (F : Hp) (x : Exn) (cls : Value) (d : Option Addr) : Prop :=
  ∃ C, mg x.c = some (.ref C) ∧ cls = .ref C ∧ ((x.fs = [] ∧ d = none) ∨ (x.fs ≠ [] ∧ ∃ dx vs, d = some dx ∧ F dx = some (.xd vs) ∧ RepF K mg F x.fs vs))
/-- what a def that raises promises -/
abbrev SpX := List Ce → List (Nat × LO) → (Exn → Prop) → Prop
def SpOfX (K : Frag) (mg : Mg) (sp : SpX) : Sp := fun vs H _ E => ∃ F α L cs fp, Rel K mg (bdOf F H fp α L) F α H (vs.map some) ⟨cs.map some, L⟩ ∧
  sp cs L fun x => ∀ F' α' H' S' σ' cls d, Rel K mg (bdOf F H fp α L) F' α' H' σ' S' → ExR K mg F' x cls d → E cls d H'
/-- what may leave X -/
def TakesN (X : Cx) (B : Bd) (Ke : Exn → Nz.S → Prop) : Prop := ∃ W : WX, Takes X W ∧ ∀ x F' α' H' σ' S' cls d, Ke x S' → RelX X B F' α' H' σ' S' → ExR X.K X.mg F' x cls d → W cls d σ' H'
section
variable {K : Frag} {mg : Mg} {B : Bd} {F F' : Hp} {α : Nat → Addr} {H : Hp} {σ : L2.St} {S : Nz.S}
/-- the ground is moved up -/
def Bd.at (B : Bd) (F : Hp) : Bd := { B with F0 := F }
theorem Rel.rebase (R : Rel K mg B F α H σ S) : Rel K mg (B.at F) F α H σ S := ⟨R.sub, Same.refl _, fun _ _ e => .inl e, R.frame, R.nd, R.inj, fun n o h => by
  obtain ⟨h1, h2, h3⟩ := R.live n o h
  refine ⟨h1, h2, ?_⟩
  cases o with
  | fl ds => exact h3
  | cl cs => exact h3
  | ins c fs => exact h3
  | dT kvs => exact h3
  | dK kvs => exact h3, R.slots, R.fix⟩
theorem Rel.unbase {α' : Nat → Addr} {H' : Hp} {σ' : L2.St} {S' : Nz.S} (R : Rel K mg B F α H σ S) (R' : Rel K mg (B.at F) F' α' H' σ' S') : Rel K mg B F' α' H' σ' S' := ⟨R'.sub, R.bF.trans R'.bF, fun b o e => by
  rcases R'.nF b o e with z | z
  · exact R.nF b o z
  · exact .inr z, R'.frame, R'.nd, R'.inj, fun n o h => by
  obtain ⟨h1, h2, h3⟩ := R'.live n o h
  refine ⟨h1, h2, ?_⟩
  cases o with
  | fl ds => exact h3
  | cl cs => exact h3
  | ins c fs => exact h3
  | dT kvs => exact h3
  | dK kvs => exact h3, R'.slots, R'.fix⟩
end
section
variable {X : Cx} {B : Bd} {S S1 S2 : Nz.S} {a e o : Expr} {es : List Expr} {kws : List Keyword} {pos p q p2 pos' np : Pos} {x : Exn} {c m : Str} {K K' : Out → Prop} {Ke : Exn → Nz.S → Prop} {C : Addr} {ds es' dd : List D} {body suite : List Stmt} {b₀ : Stmt}
/-- an expression that raises -/
def Er (X : Cx) (B : Bd) (e : Expr) (S : Nz.S) : Prop := ∀ F α H σ Q, RelX X B F α H σ S → wE X e σ H Q
variable {f : Addr} {fd : FuncData} {ps ks : List Str} {k n : Nat} {sp : SpX} {nm : Str} {mv : List Value} {dv : List V}
/-- f(e, ..) raises -/
theorem er_call (hT : TakesN X B Ke) (F : FnOk X.prog X.w X.K X.mg X.base (L2.CX X.prog X.w) k f fd ps (SpOfX X.K X.mg sp)) (hr : Room k X.A) (hm : X.mg nm = some (.ref f)) (hkp : PySem.W.keepIn X.K (.ref f) = true) (hb : Binds X.K fd ps [])
    (ha : Ea X B (e :: es) S (ds.map Ce.fr) S1) (hs : ∀ Ke' : Exn → Prop, Ke' x → sp (ds.map Ce.fr) [] Ke') (hk : Ke x S1) (hg : Gl X nm) (hdb : (nm == ("__debug__" : Str)) = false := by decide)
    (he : starEach (e :: es) X.env = (false, eval e X.env) :: starEach es X.env := by rfl) (hpl : (backTo pos (starEach es X.env)).any (·.1) = false := by rfl) : Er X B (.Call (.Name nm p) (e :: es) [] pos) S := by
  obtain ⟨W, tk, hW⟩ := hT
  exact fun F0 α H σ Q R => wE.of (pe_callS (E := WE W) F hr hg hm hkp hb (passAt tk) pa_w hdb he hpl) (ha F0 α H σ _ R fun F1 α1 vs H1 R1 st1 r1 => by
    exact ⟨F1, α1, [], _, fun _ => False, R1.call0 (CRels.fr r1), hs _ fun F' α' H' S' σ' cls d R' er => hW x F' α1 H' σ S1 cls d hk (R1.back0 R') er⟩)
/-- a block whose first statement leaves it -/
theorem exs_head {st : Stmt} {sts : List Stmt} (h : Ex X B st S fun _ => False) : Exs X B (st :: sts) S K := fun F α H σ D R oo =>
  wSs.of (pss_cons ps_w pss_w) (h F α H σ _ R ⟨fun _ _ _ _ _ z => z.elim, fun _ _ _ _ _ z => z.elim, fun _ _ _ _ _ z => z.elim, fun _ _ _ _ _ _ _ z => z.elim⟩)
/-- what an except clause's suite leaves -/
def sufK (i : Nat) (K : Out → Prop) : Out → Prop
  | .nx S => K (.nx ⟨S.ρ.set i none, S.L⟩)
  | .bk S => K (.bk ⟨S.ρ.set i none, S.L⟩)
  | .ct S => K (.ct ⟨S.ρ.set i none, S.L⟩)
  | .ret c S => K (.ret c S)
theorem Rel.unset {B : Bd} {F : Hp} {α : Nat → Addr} {H : Hp} {σ : L2.St} {S : Nz.S} (R : RelX X B F α H σ S) (i : Nat) : RelX X B F α H (σ.set i none) ⟨S.ρ.set i none, S.L⟩ := ⟨R.sub, R.bF, R.nF, R.frame, R.nd, R.inj, R.live, R.slots.setN i, R.fix⟩
theorem OutOk.back {X' : Cx} {B : Bd} {F : Hp} {D : Ends} {i : Nat} (o : OutOk X B F K D) (hK : X'.K = X.K) (hm : X'.mg = X.mg) : OutOk X' B F (sufK i K) { nx := fun σ' H' => D.nx (σ'.set i none) H', rt := D.rt, bk := fun σ' H' => D.bk (σ'.set i none) H', ct := fun σ' H' => D.ct (σ'.set i none) H' } := by
  refine ⟨fun S' F' α' H' σ' k R s => ?_, fun S' F' α' H' σ' k R s => ?_, fun S' F' α' H' σ' k R s => ?_, fun c S' F' α' H' σ' v k R s r => ?_⟩
  · exact o.nx _ F' α' H' _ k (by have := Rel.unset (X := X') R i; unfold RelX at *; rw [hK, hm] at this; exact this) s
  · exact o.bk _ F' α' H' _ k (by have := Rel.unset (X := X') R i; unfold RelX at *; rw [hK, hm] at this; exact this) s
  · exact o.ct _ F' α' H' _ k (by have := Rel.unset (X := X') R i; unfold RelX at *; rw [hK, hm] at this; exact this) s
  · exact o.ret c S' F' α' H' σ' v k (by unfold RelX at *; rw [← hK, ← hm]; exact R) s (by unfold CR at *; rw [← hK, ← hm]; exact r)
/-- .. where the body raises nothing -/
theorem ex_tryThru {h₀ : ExceptHandler} {hds : List ExceptHandler} (h : Exs X.nox B body S K) : Ex X B (.Try body (h₀ :: hds) [] [] pos) S K := fun F α H σ D R oo =>
  wS.of (ps_try_thru0 (t := wSs X.nox body) pss_w) (h F α H σ D R ⟨oo.nx, oo.bk, oo.ct, oo.ret⟩)
end
/-- // by any number but 0 -/
def CDivZ (_ j : Int) : Prop := j ≠ 0 ∧ j.natAbs.log2 < 9000
theorem fdivW_of {i j : Int} (h : j ≠ 0) (h2 : -(2 ^ 900) < j ∧ j < 2 ^ 900) : CDivZ i j := ⟨h, Nat.lt_of_lt_of_le (PySem.Flt.log2_lt_of (k := 900) (by decide) (by omega)) (by decide)⟩
/-- a def that raises -/
theorem _root_.L2.Fun.okNX {P : Program} {w : World} {K : Frag} {mg : Mg} {base : Heap} {x qual : Str} {st : Stmt} {f : Addr} {fd : FuncData} {N ps : List Str} {k : Nat} {sp : SpX} (F : Fun K x qual st f fd) (S : FnScope N ps (defScope st)) (len : ∀ cs L Ke, sp cs L Ke → cs.length = ps.length)
    (hbody : ∀ (cdv : Value) (A : Around) (outer : List Env) (s : Shared) (H : Hp) (E : XK) (B : Bd) (cs : List Ce) (L : List (Nat × LO)) (Ke : Exn → Prop), Room k (A.deeper (envOfC qual (defScope st) s.heap.objs.size f cdv)) → sp cs L Ke →
      TakesN (cxOf (L2.CX P w) P w K mg base N qual (defScope st) f cdv A outer s H E) B (fun x _ => Ke x) → PassesOwn (model P w) (cxOf (L2.CX P w) P w K mg base N qual (defScope st) f cdv A outer s H E).A (cxOf (L2.CX P w) P w K mg base N qual (defScope st) f cdv A outer s H E).env (cxOf (L2.CX P w) P w K mg base N qual (defScope st) f cdv A outer s H E).xe →
      Exs (cxOf (L2.CX P w) P w K mg base N qual (defScope st) f cdv A outer s H E) B (defBody st) ⟨startC N cs, L⟩ (fun _ => False)) : FnOk P w K mg base (L2.CX P w) (k + 1) f fd ps (SpOfX K mg sp) := by
  refine F.okX S (fun vs H Q E h => ?_) (fun cdv A outer s H vs Q E hr h => ?_)
  · obtain ⟨F', α, L, cs, fp, R, h⟩ := h
    have e1 := R.slots.length
    have e2 := len _ _ _ h
    simp only [List.length_map] at e1
    omega
  · obtain ⟨F', α, L, cs, fp, R, h⟩ := h
    have e1 : cs.length = vs.length := by have := R.slots.length; simpa using this
    refine ⟨_, pss_w, hbody cdv A outer s H E (bdOf F' H fp α L) cs L _ hr h ⟨_, takes_of rfl rfl rfl rfl, ?_⟩ (passes_of rfl) F' α H _ _ (?_ : Rel _ _ _ _ _ _ _ _) ⟨fun _ _ _ _ _ z => z.elim, fun _ _ _ _ _ z => z.elim, fun _ _ _ _ _ z => z.elim, fun _ _ _ _ _ _ _ z => z.elim⟩⟩
    · intro x F1 α1 H1 σ1 S1 cls d hk R1 er
      exact hk F1 α1 H1 S1 σ1 cls d R1 er
    · refine ⟨R.sub, R.bF, R.nF, R.frame, R.nd, R.inj, R.live, ?_, R.fix⟩
      show SlR _ _ _ _ _ (cs.map some ++ List.replicate (N.length - cs.length) none) (vs.map some ++ List.replicate (N.length - vs.length) none)
      rw [e1]
      exact R.slots.append (slr_rep _)
end Nz
namespace PySem
open PySem.AutoSeq1
end PySem
namespace L2
open PySem PySem.Spec PyProof.Rows
end L2
namespace Nz
open PySem PySem.Spec PyProof.Rows L2
end Nz
namespace Nz
open PySem PySem.Spec PyProof.Rows L2
/-- an iterator over a tuple, wherever it stands -/
theorem drawsT {P : Program} {w : World} {A : Around} (hh : A.handled = none) (it t : Addr) (hne : t ≠ it) (items : Array Value) (i : Nat) {h : Heap} (st : h.IsTupleIter it t i ∧ h.IsTuple t items) :
    ∃ n R St, Draws P w A it [it, t] n R St ∧ St i h ∧ i ≤ n ∧ (items.size ≤ i → i = n) := by
  by_cases q : i ≤ items.size
  · exact ⟨_, _, _, Draws.tuple hh it t hne items, st, q, fun e => by omega⟩
  · refine ⟨i, fun _ _ => True, fun j h => j = i ∧ h.IsTupleIter it t i ∧ h.IsTuple t items, { live := fun _ _ z => let ⟨o, ho, _⟩ := z.2.1; ⟨o, ho⟩, frame := fun _ _ _ z k => ⟨z.1, z.2.1.at fun o e => k it (by simp) o e, z.2.2.at fun o e => k t (by simp) o e⟩, item := fun j s Q E hj z => absurd z.1 (by omega), done := fun s Q E z hE => wpAny_nextOf_tuple_end hh z.2.1 z.2.2 (Array.getElem?_eq_none (by omega)) hE }, ⟨rfl, st⟩, Nat.le_refl _, fun _ => rfl⟩
theorem drawsL {P : Program} {w : World} {A : Around} (hh : A.handled = none) (it l : Addr) (hne : l ≠ it) (items : Array Value) (i : Nat) {h : Heap} (st : h.IsListIter it l i ∧ h.IsList l items) :
    ∃ n R St, Draws P w A it [it, l] n R St ∧ St i h ∧ i ≤ n ∧ (items.size ≤ i → i = n) := by
  by_cases q : i ≤ items.size
  · exact ⟨_, _, _, Draws.list hh it l hne items, st, q, fun e => by omega⟩
  · refine ⟨i, fun _ _ => True, fun j h => j = i ∧ h.IsListIter it l i ∧ h.IsList l items, { live := fun _ _ z => let ⟨o, ho, _⟩ := z.2.1; ⟨o, ho⟩, frame := fun _ _ _ z k => ⟨z.1, z.2.1.at fun o e => k it (by simp) o e, z.2.2.at fun o e => k l (by simp) o e⟩, item := fun j s Q E hj z => absurd z.1 (by omega), done := fun s Q E z hE => wpAny_nextOf_list_end hh z.2.1 z.2.2 (Array.getElem?_eq_none (by omega)) hE }, ⟨rfl, st⟩, Nat.le_refl _, fun _ => rfl⟩
end Nz
namespace Nz
open PySem PySem.Spec PyProof.Rows L2
def nuC (m n : Nat) : Ce → Ce
  | .ad k => if k = m then .ad n else .ad k
  | .fr d => .fr d
  | .xv u => .xv u
def flOnly : List (Nat × LO) → Bool
  | [] => true
  | (_, .fl _) :: r => flOnly r
  | _ :: _ => false
end Nz
namespace Nz
open PySem PySem.Spec PyProof.Rows L2 NdefX
section
variable {prog : Program} {w : World} {A : Around} {E : Value → Shared → Prop} {h : Heap} {g : Array GenState} {d : Drawn} {t : Nat} {os : OsState} {u e t0 : Addr} {rest : List Value} {Q : Value → Shared → Prop}
/-- the built-in __init__ bound to an error, called -/
theorem mw_called {nm q : Str} {C N : Addr} {bs bm : List Value} {hdct : Bool} {sn : List Str} {sub : List Value} {ab : Bool} {col : Option Bool} {dd : Option Addr} {k0 k1 k2 k3 k5 : Option Value}
    (hC : h.get? C = some (excClassObj nm q C N bs bm hdct sn sub ab col dd k0 k1 k2 k3 k5 "ValueError.__new__")) (he : h.get? e = some (HandSPX.excO C t0)) (hu : h.get? u = some (PySem.W.kxs_mw "ValueError.__init__" e)) (hz : rest.length ≤ sizeLine)
    (hq : ∀ h' t1, (∀ b o, b ≠ e → h.get? b = some o → h'.get? b = some o) → h'.get? e = some (HandSPX.excO C t1) → Q .none ⟨h', g, d, t, os⟩) : wpAny (model prog w) A (call (.ref u) rest) Q E ⟨h, g, d, t, os⟩ := by
  refine wpAny_call (codeAny_of_tree (?_ : wpAny _ A.in1 (callAny (.ref u) ⟨rest, []⟩) _ _ _))
  unfold callAny
  refine wpAny_bind (wpAny_load hu ?_)
  dsimp only [PySem.W.kxs_mw]
  refine PySem.W.KFB.if_so (by decide) ?_
  refine PySem.W.KFB.if_so (by decide) (wpAny_bind (PySem.ESX.check_bound F.excBase_ValueError hC he rfl (wpAny_bind (wpAny_pure (wpAny_pure ⟨plainId_quiet F.excBase_ValueError.init.plain _, codeAny_builtin F.excBase_ValueError.initEntry ?_⟩)))))
  exact PySem.W.exc_init_tree (cls := .ref C) (t0 := t0) (dv := none) (c2 := .none) (c3 := .none) (b4 := .bool false) he hz fun h' k e1 _ => hq h' _ k e1
end
/-- what the written part says of such an __init__ -/
structure SupI (P : Program) (K : Frag) (mg : Mg) (C fI : Addr) (fd : FuncData) (N ps : List Str) (st : Stmt) : Prop where
  ex : ∃ (name qual : Str) (oc kV doc pm ct ccl cl : Value) (od an cdd cld : Option Addr) (osl ccs csl : Array (Option Value)) (cda cc : Addr) (vs : Array Value) (file : Str) (tf : Tok) (cd : ClassData),
    fd = PySem.W.fnX name qual (defArgs st) (defBody st) (defScope st) [("__class__", cc)] .none kV doc pm an (.ref cda) ct ∧ K.lookup fI = some ⟨oc, od, .func fd, osl⟩ ∧ PySem.W.codeIn K (.ref cda) qual = true ∧
    K.lookup cda = some ⟨ccl, cdd, .fields vs, ccs⟩ ∧ vs[2]? = some (.str file tf) ∧ (P.main.file == file) = true ∧ K.lookup cc = some ⟨cl, cld, .cell (some (.ref C)), csl⟩ ∧ PySem.W.clsIn K C = some cd
  top : (P.main.scope.names.lookup ("super" : Str)).isSome = false
  mg : mg "super" = none
  mro : PySem.W.mroIn K C (.ref C) = some true
  third : PySem.W.nsIn K cStatics "thirdparty.any" = some none
  sup : PySem.W.ks_superIn K C C "__init__" = some (some (.builtin "ValueError.__init__"))
  sub : PySem.W.subIn K (.ref C) (.type "ValueError") = some true
  sc : NScope N ps ["__class__"] (defScope st)
  ks : (defScope st).names.lookup ("super" : Str) = some .globalImplicit
  hd : ∃ ar, ((defArgs st).posonlyargs ++ (defArgs st).args).head? = some ar ∧ ps.head? = some ar.arg
section
open PySem.W PySem.Calls
variable {P : Program} {w : World} {K : Frag} {mg : Mg} {base : Heap} {C fI : Addr} {fd : FuncData} {N ps : List Str} {st : Stmt} {CX : CXT} {k : Nat} {sp : Sp} {e : Expr} {rest : List Stmt} {p0 p1 p2 p3 p4 : Pos}
abbrev nfOf (name qual : Str) (st : Stmt) (cc cda : Addr) : NF := ⟨name, qual, defArgs st, defBody st, defScope st, [("__class__", cc)], cda⟩
/-- such a def keeps its promise, if what follows super().__init__(e) does -/
theorem supI_ok (S : SupI P K mg C fI fd N ps st) (O : OexC K C) (hbd : defBody st = .Expr (.Call (.Attribute (.Call (.Name "super" p0) [] [] p1) "__init__" p2) [e] [] p3) p4 :: rest) (len : ∀ vs H Q E, sp vs H Q E → vs.length = ps.length)
    (hbody : ∀ (name qual : Str) (cc cda : Addr) (A : Around) (outer : List Env) (s : Shared) (H : Hp) (vs : List V) (Q : VK) (E : XK), sp vs H Q E → ∃ a ws ta tr, vs = .ref a :: ws ∧ H a = some (exo a C none) ∧
      PA (ncx CX P w K mg base N (nfOf name qual st cc cda) fI A outer s H E) [e] ta ∧ PSs (ncx CX P w K mg base N (nfOf name qual st cc cda) fI A outer s H E) rest tr ∧
      ta (startF N vs [none]) H (fun us H1 => us.length ≤ 1000 ∧ H1 a = some (exo a C none) ∧ tr { nx := fun _ H' => Q .non H', rt := Q } (startF N vs [none]) H1))
    (he : ∀ env, starEach [e] env = (false, eval e env) :: starEach [] env) (hsw : ∀ env, swapsWith (.Call (.Attribute (.Call (.Name "super" p0) [] [] p1) "__init__" p2) [e] [] p3) none p4.line env = pure false)
    (hev : ∀ env, ∃ pl, eval (.Call (.Attribute (.Call (.Name "super" p0) [] [] p1) "__init__" p2) [e] [] p3) env = (do
      let ov ← attributeBase (.Call (.Name "super" p0) [] [] p1) "__init__" env (eval (.Call (.Name "super" p0) [] [] p1) env)
      standAt p2.atName
      let (f, first) ← holding [ov] (getMethod ov "__init__" pl)
      callWith p3 f first (backTo p3 (starEach [e] env)) [])) : FnOk P w K mg base CX (k + 1) fI fd ps sp := by
  obtain ⟨name, qual, oc, kV, doc, pm, ct, ccl, cl, od, an, cdd, cld, osl, ccs, csl, cda, cc, fv, file, tf, cd, rfl, lk, hcd, lcd, hfv, hfile, lcc, hcl⟩ := S.ex
  refine ⟨len, fun A outer s H args us vs Q E hr e0 hb r hsp => ?_⟩
  have hl := len _ _ _ _ hsp
  have bs := fun b o q => (e0.bs b o q).1
  have KX : K.In s.heap := e0.mod.kin.keeps bs
  refine codeAny_call_function hr.depth (KX _ _ lk) rfl S.sc.co S.sc.gen rfl (PySem.W.codeRec_of KX hcd) (hb _ _ _ _ (wpAny_newFunctionEnv S.sc.nocell (fun ⟨n, _⟩ hy => S.sc.par n (List.of_mem_zip hy).1) (fun h₁ hns hsb => ⟨(e0.mod.nolimit.keeps bs).fresh _ hsb, ?_⟩) S.sc.kind))
  have kp : ∀ b o, s.heap.get? b = some o → h₁.get? b = some o := fun b o q => hsb.extBut b o (Nat.ne_of_lt (Heap.lt_size q)) (Heap.get?_push_of_some _ q)
  have lk1 : ∀ {y c}, ([("__class__", cc)] : List (Str × Addr)).lookup y = some c → y = "__class__" ∧ c = cc := fun {y c} q => by
    by_cases z : y = "__class__"
    · subst z; simp [List.lookup] at q; exact ⟨rfl, q.symm⟩
    · have z2 : (y == ("__class__" : Str)) = false := by simpa using z
      simp [List.lookup, z2] at q
  have bcc := e0.bs cc _ (e0.mod.kin _ _ lcc)
  have CA : CellsAt (nfOf name qual st cc cda).cl ["__class__"] [none] s.heap H := ⟨rfl, fun y c q => by
    obtain ⟨_, rfl⟩ := lk1 q
    exact ⟨bcc.2, _, _, bcc.1, rfl⟩, fun x y c q1 q2 => (lk1 q1).1.trans (lk1 q2).1.symm, fun i y q => by
    have hi : i = 0 := by have := (List.getElem?_eq_some_iff.mp q).1; simpa using this
    subst hi
    simp at q
    subst q
    exact ⟨cc, rfl, fun v z => by simp at z⟩⟩
  obtain ⟨a, ws, ta, tr, rfl, ha, hA, hR, hq⟩ := hbody name qual cc cda A outer s H vs Q E hsp
  have I : Inv (ncx CX P w K mg base N (nfOf name qual st cc cda) fI A outer s H E) [] (startF N (.ref a :: ws) [none]) H { s with heap := h₁, toks := s.toks + (ps.zip us).length } := inv_startN (ps := ps) (fr := ["__class__"]) S.sc hr.hd e0 hl r CA hns kp
  have hkc : (nfOf name qual st cc cda).scope.names.lookup ("__class__" : Str) = some .free := S.sc.frk _ (by simp)
  obtain ⟨nm, q, N2, bs2, bm, sn, sub, ab, col, dd, k0, k1, k2, k3, k5, hC, hbm⟩ := O.cls
  obtain ⟨ar, har, hps⟩ := S.hd
  have hN0 : N[0]? = some ar.arg := by
    have e1 : (N.take (ps.length + ([("__class__" : Str)] : List Str).length))[0]? = (ps ++ ([("__class__" : Str)] : List Str))[0]? := by rw [S.sc.pre]
    rw [List.getElem?_take_of_lt (by simp)] at e1
    rw [e1]
    cases ps with
    | nil => cases hps
    | cons x r => exact hps
  have hpar : (defScope st).names.lookup ar.arg = some .local := S.sc.par _ (by
    cases ps with
    | nil => cases hps
    | cons x r => cases hps; exact List.mem_cons_self)
  obtain ⟨oD, hD1, hD2⟩ : ∃ oD, K.lookup C = some oD ∧ oD.data = .cls cd := by
    unfold PySem.W.clsIn at hcl
    split at hcl
    · rename_i ho
      cases hcl
      exact ⟨_, ho, rfl⟩
    · cases hcl
  refine ks_codeAny_funcAt (ks_wpAt_mono (Q := SP (ncx CX P w K mg base N (nfOf name qual st cc cda) fI A outer s H E) [] { nx := fun _ H' => Q .non H', rt := Q }) ?_ (fun fl s' hs => ?_) fun _ _ z => z)
  · have sh : ∀ (c : Code) (A1 : Around) (Q1 : Flow → Shared → Prop) (E1 : Value → Shared → Prop) (s1 : Shared) (en : Env), PySem.wpAt (model P w) A1 c (execs (.Expr (.Call (.Attribute (.Call (.Name "super" p0) [] [] p1) "__init__" p2) [e] [] p3) p4 :: rest) en) Q1 E1 s1 → PySem.wpAt (model P w) A1 c (execs (defBody st) en) Q1 E1 s1 := fun _ _ _ _ _ _ z => by rw [hbd]; exact z
    refine sh _ _ _ _ _ (envF (nfOf name qual st cc cda) fI s.heap.objs.size) ?_
    obtain ⟨pl, hev1⟩ := hev (envF (nfOf name qual st cc cda) fI s.heap.objs.size)
    refine ks_wpAt_execs_cons (ks_wpAt_Expr_any (ks_wpAt_MethodCall (ks_wpAt_super_base S.ks hkc (by decide) rfl (I.kIn _ _ lk) rfl har rfl (I.kIn _ _ lcd) rfl hfv hfile S.top ?_) hev1) I.quiet (hsw _))
    obtain ⟨mb, hb1, hb2⟩ := I.mod.blt
    obtain ⟨m, hn, hlk⟩ := I.loc
    obtain ⟨u, ru, lo⟩ := hlk 0 ar.arg (.ref a) hN0 rfl (.inl hpar)
    obtain rfl : u = Value.ref a := ru
    have hm : m ar.arg = some (.ref a) := by
      rcases lo with ⟨_, z⟩ | ⟨z, _⟩
      · exact z
      · have z' : (defScope st).names.lookup ar.arg = some .cell ∨ (defScope st).names.lookup ar.arg = some .free := z
        rw [hpar] at z'
        rcases z' with z' | z' <;> cases z'
    refine ks_loadName_global S.sc.kind S.ks (loadGlobal_builtin (I.mod.glob.keeps I.bk) S.mg (hb1.keeps I.bk) ((hb2 _ (by decide)).trans (by decide +kernel : bootBuiltins "super" = some (.type "super"))) ⟨rfl, ?_⟩)
    refine wpAny_loadName_free S.sc.kind hkc rfl ⟨_, I.kIn _ _ lcc, rfl⟩ ?_
    refine wpAny_loadName_local S.sc.kind hpar hn hm ?_
    refine ks_wpAny_isType_cls (I.kIn _ _ hD1) hD2 ⟨rfl, ?_⟩
    obtain ⟨t1, ho⟩ := exo_at I.hok ha
    refine ks_wpAny_call_super (I.kIn _ _ hD1) hD2 ho rfl (fun c e => by cases e) (looks_mroIn I.kIn S.mro) (fun h2 e2 k2 => ?_)
    have I2 := I.kept (t' := s.toks + (ps.zip us).length) k2
    obtain ⟨t2, ho2⟩ := exo_at I2.hok ha
    have At2 : InstAt h2 a _ C none := ⟨ho2, rfl, rfl, trivial⟩
    have hal : alongIn K "__init__" ((cd.mro.dropWhile (· != .ref C)).drop 1) = some (some (.builtin "ValueError.__init__")) := by
      have z := S.sup
      unfold ks_superIn at z
      rw [hcl] at z
      exact z
    refine kxs_getMethod kxs_ValueError e2 (looks_opaque I2.kIn S.third) (l₀ := cd.mro) (fun A Q E s k q => wpAny_bind ((looks_clsIn I2.kIn hcl) A _ E s k (wpAny_pure q))) rfl I2.kIn hal (At2.type.andThen (looks_subIn I2.kIn S.sub)) (ks_ne I2.kIn At2 hcl) (by decide) ?_
    have fr2 : H h2.objs.size = none := I2.hok.fresh (Nat.le_refl _)
    have I3 := I2.kept (h' := h2.push (kxs_mw "ValueError.__init__" a)) (t' := s.toks + (ps.zip us).length + 1) (fun b o z => Heap.get?_push_of_some _ z)
    have gm : (h2.push (kxs_mw "ValueError.__init__" a)).get? h2.objs.size = some (kxs_mw "ValueError.__init__" a) := Heap.get?_push_at rfl rfl
    have I4 : Inv (ncx CX P w K mg base N (nfOf name qual st cc cda) fI A outer s H E) [(h2.objs.size, kxs_mw "ValueError.__init__" a)] (startF N (.ref a :: ws) [none]) H _ := I3.pins_of (fun p hp => by
      obtain rfl := List.mem_singleton.mp hp
      exact ⟨gm, fr2, Nat.ne_of_gt I2.lt, I2.nofs (Nat.le_refl _), fun v z => by cases z⟩)
    refine kxs_callWith1 (i := "ValueError.__init__") (x := a) (h₀ := base) (L := h2.objs.size + 1) (news := [(h2.objs.size, kxs_mw "ValueError.__init__" a)]) (fun p hp => ?_) (List.mem_singleton.mpr rfl) (thn (hA.run p3 _ _ _ H _ I4 hq) fun us2 s2 ⟨vs2, H1, I5, r5, hz, ha1, q5⟩ => ⟨(I5.pin _ (List.mem_append_right _ (List.mem_singleton.mpr rfl))).1, ?_⟩) (he _) rfl
    · obtain rfl := List.mem_singleton.mp hp
      refine ⟨gm, Nat.ne_of_lt (Nat.lt_succ_self _), ?_⟩
      cases z : base.get? h2.objs.size with
      | none => rfl
      | some o => exact absurd (Heap.lt_size (I2.bk _ _ z)) (Nat.lt_irrefl _)
    · obtain ⟨hp3, g3, d3, t3, os3⟩ := s2
      obtain ⟨t4, ho4⟩ := exo_at I5.hok ha1
      refine mw_called (I5.kIn _ _ hC) ho4 (I5.pin _ (List.mem_append_right _ (List.mem_singleton.mpr rfl))).1 (by rw [← Paired.length r5, sizeLine_eq]; omega) fun h' t5 k e' => ?_
      have J := I5.write (t' := t3) (x := a) (e := a) (o := exo a C none) (by rw [ha1]; trivial) (.inl rfl) k ⟨_, e'⟩ (exo_ok e')
      have eu : upd H1 a (exo a C none) = H1 := by
        funext b
        by_cases hb : b = a
        · rw [hb, upd_same, ha1]
        · rw [upd_ne hb]
      rw [eu] at J
      exact wpAt_of_wpAny (hR.run [] _ _ _ _ (J.pins_of fun _ z => nomatch z) q5)
  · have fin : ∀ {σ' : L2.St} {H' : Hp} {v : V} {u : Value}, Inv (ncx CX P w K mg base N (nfOf name qual st cc cda) fI A outer s H E) [] σ' H' s' → L2.RelV v u → Q v H' → CE outer P w H s Q u s' := fun {σ' H' v u} J rv q => ⟨v, H', J.os, J.bare, J.base, J.hok, rv, q⟩
    cases fl with
    | ret u =>
      obtain ⟨v, σ', H', J, rv, q⟩ := hs
      exact fin J rv q
    | next =>
      obtain ⟨σ', H', J, q⟩ := hs
      exact fin (v := V.non) (u := Value.none) J rfl q
    | brk =>
      obtain ⟨_, _, _, q⟩ := hs
      exact False.elim q
    | cont =>
      obtain ⟨_, _, _, q⟩ := hs
      exact False.elim q
end
def okV (v : V) : Prop := (∃ i : Int, v = .int i ∧ i.natAbs.log2 < 1920) ∨ ∃ s : Str, v = .str s ∧ s.length ≤ 20000
inductive FPt (N : List Str) (sc : Scope) (m : Nat) : List Expr → Nat → Prop
  | nil : FPt N sc m [] 0
  | con {s : Str} {j : Nat} {p : Pos} {es : List Expr} {n : Nat} : FPt N sc m es n → FPt N sc m (.Constant (.str s) j p :: es) (n + s.length)
  | var {i : Nat} {x : Str} {p q : Pos} {es : List Expr} {n : Nat} : N[i]? = some x → 0 < i → i < m → sc.names.lookup x = some .local → (x == ("__debug__" : Str)) = false → (x == ("__classdict__" : Str)) = false → FPt N sc m es n → FPt N sc m (.FormattedValue (.Name x p) (-1) none q :: es) (n + 20000)
theorem strApp_len (a b : Str) : (a ++ b).length = a.length + b.length := by
  show (a.cps ++ b.cps).size = _
  rw [Array.size_append]; rfl
section
variable {X : Cx} {N : List Str} {sc : Scope} {m : Nat}
theorem fpt_run (hN : X.N = N) (hs : X.env.scope = sc) {es : List Expr} {n : Nat} (h : FPt N sc m es n) : ∃ ts, PJ X es ts ∧ ∀ (σ : L2.St) (H : Hp), (∀ i, 0 < i → i < m → ∃ v, σ[i]? = some (some v) ∧ okV v) → ∀ (acc : Str) (Q : Str → Hp → Prop), acc.length + n ≤ sizeLine → (∀ out, Q out H) → tJs ts acc σ H Q := by
  induction h with
  | nil => exact ⟨[], .nil, fun σ H _ acc Q _ q => q acc⟩
  | @con s j p es n _ ih =>
    obtain ⟨ts, h1, h2⟩ := ih
    refine ⟨_, .cons pe_str h1, fun σ H hv acc Q hl q => ⟨s, rfl, by rw [strApp_len]; omega, h2 σ H hv _ Q (by rw [strApp_len]; omega) q⟩⟩
  | @var i x p q es n h1 h2 h3 h4 h5 h6 _ ih =>
    obtain ⟨ts, g1, g2⟩ := ih
    refine ⟨_, .cons (pe_fmt (pe_var (i := i) (by rw [hN]; exact h1) (by rw [hs]; exact .inl h4) h5 h6)) g1, fun σ H hv acc Q hl k => ?_⟩
    obtain ⟨v, e, ok⟩ := hv i h2 h3
    refine ⟨v, e, ?_⟩
    rcases ok with ⟨z, rfl, hz⟩ | ⟨z, rfl, hz⟩
    · have hle : (Str.ofString (toString z)).length ≤ 1921 := by rw [PySem.ofString_length]; exact int_text_length_le (k := 1920) (by decide) hz
      exact .inr ⟨z, rfl, hz, _, rfl, by rw [strApp_len]; omega, g2 σ H hv _ Q (by rw [strApp_len]; omega) k⟩
    · exact .inl ⟨z, rfl, by rw [sizeLine_eq]; omega, _, rfl, by rw [strApp_len]; omega, g2 σ H hv _ Q (by rw [strApp_len]; omega) k⟩
end
/-- what such an __init__ promises: the fields, the last one first -/
def spE (C : Addr) (fs : List V → List (Str × V)) (n : Nat) : Sp := fun vs H Q _ => ∃ a ws, vs = .ref a :: ws ∧ ws.length = n ∧ (∀ v ∈ ws, okV v) ∧ H a = some (exo a C none) ∧ ∀ d, H d = none → d ≠ a → Q .non (upd (upd H d (exd d (fs ws))) a (exo a C (some d)))
def fs2 (f g : Str) (ws : List V) : List (Str × V) := [(g, ws.getD 1 .non), (f, ws.getD 0 .non)]
section
variable {P : Program} {w : World} {K : Frag} {mg : Mg} {base : Heap} {C fI : Addr} {fd : FuncData} {N : List Str} {st : Stmt} {CX : CXT} {k n : Nat} {self x1 x2 f1 f2 : Str} {parts : List Expr} {v1 v2 : Expr} {p0 p1 p2 p3 p4 p5 q1 q2 q3 q4 r1 r2 r3 r4 : Pos}
theorem upd_over (H : Hp) {a d : Addr} {A B D : HO} (h : d ≠ a) : upd (upd (upd H d A) a B) d D = upd (upd H d D) a B := by
  funext b
  by_cases e1 : b = a
  · subst e1
    rw [upd_ne (Ne.symm h), upd_same, upd_same]
  · by_cases e2 : b = d
    · subst e2
      rw [upd_same, upd_ne e1, upd_same]
    · rw [upd_ne e2, upd_ne e1, upd_ne e2, upd_ne e1, upd_ne e2]
theorem sup2_ok (S : SupI P K mg C fI fd N [self, x1, x2] st) (O : OexC K C) (hbd : defBody st = [.Expr (.Call (.Attribute (.Call (.Name "super" p0) [] [] p1) "__init__" p2) [.JoinedStr (v1 :: v2 :: parts) p5] [] p3) p4, .Assign [.Attribute (.Name self q1) f1 q2] (.Name x1 q3) q4, .Assign [.Attribute (.Name self r1) f2 r2] (.Name x2 r3) r4])
    (hf1 : PySem.W.findIn K (.ref C) f1 = some none) (hf2 : PySem.W.findIn K (.ref C) f2 = some none) (hp : FPt N (defScope st) 3 (v1 :: v2 :: parts) n) (hn : n ≤ sizeLine) (nd1 : (x1 == ("__debug__" : Str)) = false := by decide) (nc1 : (x1 == ("__classdict__" : Str)) = false := by decide) (nd2 : (x2 == ("__debug__" : Str)) = false := by decide) (nc2 : (x2 == ("__classdict__" : Str)) = false := by decide) (nds : (self == ("__debug__" : Str)) = false := by decide) (ncs : (self == ("__classdict__" : Str)) = false := by decide)
    (he : ∀ env, starEach [.JoinedStr (v1 :: v2 :: parts) p5] env = (false, eval (.JoinedStr (v1 :: v2 :: parts) p5) env) :: starEach [] env := by exact fun _ => rfl)
    (hsw : ∀ env, swapsWith (.Call (.Attribute (.Call (.Name "super" p0) [] [] p1) "__init__" p2) [.JoinedStr (v1 :: v2 :: parts) p5] [] p3) none p4.line env = pure false := by exact fun _ => rfl)
    (hs1 : ∀ env, swapsWith (.Name x1 q3) (some (.Attribute (.Name self q1) f1 q2)) q4.line env = pure false := by exact fun _ => rfl) (hs2 : ∀ env, swapsWith (.Name x2 r3) (some (.Attribute (.Name self r1) f2 r2)) r4.line env = pure false := by exact fun _ => rfl)
    (hev : ∀ env, ∃ pl, eval (.Call (.Attribute (.Call (.Name "super" p0) [] [] p1) "__init__" p2) [.JoinedStr (v1 :: v2 :: parts) p5] [] p3) env = (do
      let ov ← attributeBase (.Call (.Name "super" p0) [] [] p1) "__init__" env (eval (.Call (.Name "super" p0) [] [] p1) env)
      standAt p2.atName
      let (f, first) ← holding [ov] (getMethod ov "__init__" pl)
      callWith p3 f first (backTo p3 (starEach [.JoinedStr (v1 :: v2 :: parts) p5] env)) []) := by exact fun _ => ⟨_, rfl⟩) : FnOk P w K mg base CX (k + 1) fI fd [self, x1, x2] (spE C (fs2 f1 f2) 2) := by
  refine supI_ok S O hbd (fun vs H Q E h => by obtain ⟨a, ws, rfl, hl, _⟩ := h; simp [hl]) (fun name qual cc cda A outer s H vs Q E hsp => ?_) he hsw hev
  obtain ⟨a, ws, rfl, hl, hok, ha, hq⟩ := hsp
  obtain ⟨y, z, rfl⟩ : ∃ y z, ws = [y, z] := by
    match ws, hl with
    | [y, z], _ => exact ⟨y, z, rfl⟩
  obtain ⟨ts, hj, hrun⟩ := fpt_run (X := ncx CX P w K mg base N (nfOf name qual st cc cda) fI A outer s H E) rfl rfl hp
  have pre : N.take 4 = [self, x1, x2, "__class__"] := S.sc.pre
  have n0 : N[0]? = some self := by rw [← List.getElem?_take_of_lt (show 0 < 4 by decide), pre]; rfl
  have n1 : N[1]? = some x1 := by rw [← List.getElem?_take_of_lt (show 1 < 4 by decide), pre]; rfl
  have n2 : N[2]? = some x2 := by rw [← List.getElem?_take_of_lt (show 2 < 4 by decide), pre]; rfl
  have k0 : (defScope st).names.lookup self = some .local := S.sc.par _ (by simp)
  have k1 : (defScope st).names.lookup x1 = some .local := S.sc.par _ (by simp)
  have k2 : (defScope st).names.lookup x2 = some .local := S.sc.par _ (by simp)
  refine ⟨a, [y, z], _, _, rfl, ha, pa_cons (pe_joined hj) pa_nil (he _), pss_cons (ps_ost (pe_var (i := 0) n0 (.inl k0) nds ncs) (pe_var (i := 1) n1 (.inl k1) nd1 nc1) (hs1 _)) (pss_cons (ps_ost (pe_var (i := 0) n0 (.inl k0) nds ncs) (pe_var (i := 2) n2 (.inl k2) nd2 nc2) (hs2 _)) pss_nil), ?_⟩
  refine hrun _ _ (fun i h1 h2 => ?_) _ _ (by show 0 + n ≤ _; omega) fun out => ?_
  · have : i = 1 ∨ i = 2 := by omega
    rcases this with rfl | rfl
    · exact ⟨y, rfl, hok y (by simp)⟩
    · exact ⟨z, rfl, hok z (by simp)⟩
  · refine ⟨by simp, ha, y, rfl, .ref a, rfl, a, C, rfl, O, hf1, .inl ⟨ha, fun dx m1 m2 => ?_⟩⟩
    refine ⟨z, rfl, .ref a, rfl, a, C, rfl, O, hf2, .inr ⟨dx, [(f1, y)], upd_same, by rw [upd_ne m2]; exact upd_same, by simp, ?_⟩⟩
    show Q .non (upd (upd (upd H dx (exd dx [(f1, y)])) a (exo a C (some dx))) dx (exd dx ((f2, z) :: [(f1, y)])))
    rw [upd_over H m2]
    exact hq dx m1 m2
end
def okD (d : D) : Prop := (∃ i : Int, d = .int i ∧ i.natAbs.log2 < 1920) ∨ ∃ s : Str, d = .str s ∧ s.length ≤ 20000
theorem okD_int {i : Int} (h : -(2 ^ 900) < i ∧ i < 2 ^ 900) : okD (.int i) := .inl ⟨i, rfl, Nat.lt_of_lt_of_le (PySem.Flt.log2_lt_of (k := 900) (by decide) (by omega)) (by decide)⟩
theorem okD_str {s : Str} (h : s.length ≤ 20000) : okD (.str s) := .inr ⟨s, rfl, h⟩
theorem reps_ok {K : Frag} {mg : Mg} {F : Hp} : ∀ {ds : List D} {vs : List V}, Reps K mg F ds vs → (∀ d ∈ ds, okD d) → ∀ v ∈ vs, okV v
  | _, _, .nil, _ => fun v h => (by cases h)
  | _, _, .cons (d := d) (v := u) r rs, h => fun v hv => by
    rcases List.mem_cons.mp hv with rfl | hv
    · rcases h d List.mem_cons_self with ⟨i, rfl, hi⟩ | ⟨s, rfl, hs⟩
      · cases r; exact .inl ⟨i, rfl, hi⟩
      · cases r; exact .inr ⟨s, rfl, hs⟩
    · exact reps_ok rs (fun x hx => h x (List.mem_cons_of_mem _ hx)) v hv
/-- how the fields lie to the arguments -/
def FsOk (fsf : List V → List (Str × V)) (ds : List D) (fs : List (Str × D)) : Prop := ∀ (K : Frag) (mg : Mg) (F : Hp) (vs : List V), Reps K mg F ds vs → RepF K mg F fs (fsf vs)
theorem fsOk2 {f g : Str} {d e : D} : FsOk (fs2 f g) [d, e] [(g, e), (f, d)] := fun K mg F vs h => by
  match vs, h with
  | [v, u], .cons r (.cons q _) => exact .cons q (.cons r .nil)
/-- what the written part says of such a class and its __init__ -/
structure SupE (K : Frag) (C fI : Addr) : Prop where
  ox : OexC K C
  ini : PySem.W.findIn K (.ref C) "__init__" = some (some (.ref fI))
  ty : PySem.W.typeIn K (.ref fI) = some (.type "function")
section
variable {X : Cx} {B : Bd} {S S1 : Nz.S} {e : Expr} {es : List Expr} {pos p pos' : Pos} {c : Str} {C fI : Addr} {fd : FuncData} {ps : List Str} {k n : Nat} {fsf : List V → List (Str × V)} {ds : List D} {fs : List (Str × D)} {K : Out → Prop} {Ke : Exn → Nz.S → Prop}
theorem upd_made {H : Hp} {a d C : Addr} {A : HO} {vs : List (Str × V)} (ha : H a = none) (hd : d ≠ a) : upd (L2.del (upd (upd (upd H a A) d (exd d vs)) a (exo a C (some d))) a) d (.xd vs) = upd H d (.xd vs) := by
  funext b
  by_cases e1 : b = d
  · subst e1; rw [upd_same, upd_same]
  · rw [upd_ne e1, upd_ne e1]
    by_cases e2 : b = a
    · subst e2; rw [L2.del_same, ha]
    · rw [L2.del_ne e2, upd_ne e2, upd_ne e1, upd_ne e2]
theorem ex_raiseF (hT : TakesN X B Ke) (hm : X.mg c = some (.ref C)) (O : SupE X.K C fI) (Fn : FnOk X.prog X.w X.K X.mg X.base CX0 k fI fd ps (spE C fsf n)) (hr : Room (k + 1) X.A) (hb : Binds X.K fd ps []) (ha : Ea X B (e :: es) S (ds.map Ce.fr) S1)
    (hl : ds.length = n) (h1000 : n ≤ 1000) (hok : ∀ d ∈ ds, okD d) (hfs : FsOk fsf ds fs) (hne : fs ≠ []) (hk : Ke ⟨c, fs⟩ S1) (hc : X.calm = true) (hg : Gl X c) (hdb : (c == ("__debug__" : Str)) = false := by decide)
    (he : starEach (e :: es) X.env = (false, eval e X.env) :: starEach es X.env := by rfl) (hpl : (backTo pos (starEach es X.env)).any (·.1) = false := by rfl) : Ex X B (.Raise (some (.Call (.Name c p) (e :: es) [] pos)) none pos') S K := by
  obtain ⟨W, tk, hW⟩ := hT
  refine fun F α H σ D R oo => wS.of (ps_raise hc tk (pmk_oex O.ox O.ini O.ty Fn hr hb .nil pass0 hg hm pa_w hdb he hpl)) (ha F α H σ _ R fun F1 α1 vs H1 R1 st1 r1 => ?_)
  have rr := CRels.fr r1
  have hlv : vs.length = n := by rw [← rr.length]; exact hl
  refine ⟨by omega, fun a hn => ⟨a, vs ++ [], rfl, by rw [List.append_nil]; exact hlv, by rw [List.append_nil]; exact reps_ok rr hok, upd_same, fun d hd hda => ?_⟩⟩
  rw [List.append_nil]
  have hd1 : H1 d = none := by rw [upd_ne hda] at hd; exact hd
  refine ⟨rfl, d, fsf vs, upd_same, by rw [upd_ne hda]; exact upd_same, hd1, ?_⟩
  rw [upd_made hn hda]
  exact hW ⟨c, fs⟩ _ α1 _ σ S1 (.ref C) (some d) hk (R1.allocF hd1) ⟨C, hm, rfl, .inr ⟨hne, d, _, rfl, upd_same, (hfs _ _ _ _ rr).mono (same_upd (R1.fresh hd1))⟩⟩
end
/-- what the ground knows of the error -/
def ExD (K : Frag) (mg : Mg) (F : Hp) (fs : List (Str × D)) (d : Option Addr) : Prop := (fs = [] ∧ d = none) ∨ (fs ≠ [] ∧ ∃ dx vs, d = some dx ∧ F dx = some (.xd vs) ∧ RepF K mg F fs vs)
theorem ExD.mono {K : Frag} {mg : Mg} {F F' : Hp} {fs : List (Str × D)} {d : Option Addr} (h : ExD K mg F fs d) (s : Same F F') : ExD K mg F' fs d := by
  rcases h with h | ⟨h, dx, vs, h1, h2, h3⟩
  · exact .inl h
  · exact .inr ⟨h, dx, vs, h1, s _ _ h2, h3.mono s⟩
section
variable {X : Cx} {B : Bd} {S S1 : Nz.S} {e : Expr} {es : List Expr} {pos p q p2 pos' np : Pos} {x : Exn} {C : Addr} {K : Out → Prop} {body suite : List Stmt} {b₀ : Stmt} {fs : List (Str × D)}
theorem OutOk.rebase {X' : Cx} {F : Hp} {α : Nat → Addr} {H : Hp} {σ : L2.St} {S0 : Nz.S} {D : Ends} (R : RelX X' B F α H σ S0) (o : OutOk X' B F K D) : OutOk X' (B.at F) F K D :=
  ⟨fun S' F' α' H' σ' k R' s => o.nx S' F' α' H' σ' k (R.unbase R') s, fun S' F' α' H' σ' k R' s => o.bk S' F' α' H' σ' k (R.unbase R') s, fun S' F' α' H' σ' k R' s => o.ct S' F' α' H' σ' k (R.unbase R') s, fun c S' F' α' H' σ' v k R' s r => o.ret c S' F' α' H' σ' v k (R.unbase R') s r⟩
/-- try: .. except C as n: .., where the body raises x, of a class that C names; the suite knows the error's fields -/
theorem ex_tryAsF (i : Nat) {cn n0 : Str} {C0 : Addr} (hs : X.stack = X.env :: X.outer) (hf : X.env.frame = some X.env.locals) (hN : X.N.Nodup) (hi : X.N[i]? = some n0) (hln : X.env.kindOf n0 = some .local) (hc : X.mg cn = some (.ref C)) (hgc : Gl X cn) (hm0 : X.mg x.c = some (.ref C0))
    (hex : PySem.W.exmOne X.K (.ref C0) (.ref C) = some true)
    (hb : ∀ (B' : Bd) (pn : List (Addr × Obj)) (xe : Value → Shared → Prop), TakesN (X.tr pn xe) B' (fun y S' => y = x ∧ S' = S1) → Exs (X.tr pn xe) B' body S (fun _ => False))
    (hsu : ∀ (B' : Bd) (a : Addr) (oe : Obj) (d : Option Addr) (pn : List (Addr × Obj)), Zc (.ref C0) d oe → (∃ vs, oe.data = .fields vs) → ExD X.K X.mg B'.F0 x.fs d → Exs (X.suite a ((a, oe) :: pn)) B' (b₀ :: suite) (setS S1 i (.xv (.ref a))) (sufK i K))
    (hdb : (cn == ("__debug__" : Str)) = false := by decide) : Ex X B (.Try body [.ExceptHandler (some (.Name cn np)) (some n0) (b₀ :: suite) pos'] [] [] pos) S K := by
  let ts : Addr → Value → Option Addr → TS := fun a cls d D σ H => ∀ pn oe, Zc cls d oe → (∃ vs, oe.data = .fields vs) → wSs (X.suite a ((a, oe) :: pn)) (b₀ :: suite) D σ H
  let tb : WX → TS := fun W D σ H => ∀ pn xe, Takes (X.tr pn xe) W → wSs (X.tr pn xe) body D σ H
  refine fun F α H σ D R oo => wS.of (ps_try_as (i := i) (tb := tb) (ts := ts) (c := .ref C) (Wout := fun _ _ _ _ => False) hs hf hN hi hln ⟨hgc, hdb, .inl hc⟩ takes0 (fun W pn xe tk po => ⟨fun pins s σ H D I h => h pn xe tk pins s I⟩) (fun a oe cls d pn hz hv => ⟨fun pins s σ H D I h => h pn oe hz hv pins s I⟩)) ?_
  intro pn xe tk
  refine hb (B.at F) pn xe ⟨_, tk, ?_⟩ F α H σ _ R.rebase ⟨fun _ _ _ _ _ z => z.elim, fun _ _ _ _ _ z => z.elim, fun _ _ _ _ _ z => z.elim, fun _ _ _ _ _ _ _ z => z.elim⟩
  rintro y F' α' H' σ' S' cls d ⟨rfl, rfl⟩ R' ⟨C1, m1, rfl, hd⟩
  have m1 : X.mg y.c = some (.ref C1) := m1
  rw [hm0] at m1
  cases m1
  refine ⟨true, hex, fun _ a na pn' oe hz hv => ?_, fun q => by cases q⟩
  have R1 : RelX X B F' α' H' σ' S' := R.unbase R'
  have R2 : RelX X B F' α' H' (σ'.set i (some (.ref a))) (setS S' i (.xv (.ref a))) := Rel.setS R1 (c := .xv (.ref a)) (v := .ref a) rfl
  exact hsu (B.at F') a oe d pn' hz hv hd F' α' H' _ _ R2.rebase (OutOk.rebase (X' := X.suite a ((a, oe) :: pn')) R2 (OutOk.back (X' := X.suite a ((a, oe) :: pn')) (i := i) (oo.mono R'.bF) rfl rfl))
section
variable {a : Addr} {oe : Obj} {pn : List (Addr × Obj)} {D1 C2 : Addr} {d : Option Addr} {i : Nat} {en f : Str} {dv : D}
/-- e.f, e the error in hand -/
theorem ev_xf (T : XfC X.K D1) (hno : PySem.W.findIn X.K (.ref D1) f = some none) (hz : Zc (.ref D1) d oe) (hf : ∃ vs, oe.data = .fields vs) (hx : ExD X.K X.mg B.F0 fs d) (hl : fs.lookup f = some dv) (hN : X.N[i]? = some en) (hv : Vis X.env.scope en) (hρ : S.ρ[i]? = some (some (.xv (.ref a))))
    (hd : (en == ("__debug__" : Str)) = false := by decide) (hcd : (en == ("__classdict__" : Str)) = false := by decide) (hb : attributeBase (.Name en p) f X.env (eval (.Name en p) X.env) = eval (.Name en p) X.env := by rfl) : Ev (X.suite a ((a, oe) :: pn)) B (.Attribute (.Name en p) f pos) S (.fr dv) S := by
  refine fun F α H σ Q R k => wE.of (X := X.suite a ((a, oe) :: pn)) (pe_xf (X := X) T hno hz hf (pe_var (X := X.suite a ((a, oe) :: pn)) hN hv hd hcd) hb) ?_
  obtain ⟨v, e1, r⟩ := R.slots.get hρ
  have r : v = .ref a := r
  subst r
  rcases hx with ⟨z, _⟩ | ⟨_, dx, vs, rfl, h2, h3⟩
  · rw [z] at hl; cases hl
  · obtain ⟨u, l2, r2⟩ := h3.look hl
    exact ⟨.ref a, e1, rfl, rfl, dx, vs, u, rfl, R.sub _ _ (R.bF _ _ h2), l2, k F α u H R Stp.refl (r2.mono R.bF)⟩
end
end
def rIsF (K : Frag) (D1 a : Addr) (dx : Addr) : List V → Hp → VK → Prop := fun xs H Q => ∃ (c : V) (cv : Value) (b : Bool) (vs : List (Str × V)), xs = [.ref a, c] ∧ (∀ u, L2.RelV c u → u = cv) ∧ PySem.W.kitOne K (.ref D1) cv = some b ∧ H dx = some (.xd vs) ∧ Q (.bl b) H
section
variable {X : Cx} {B : Bd} {S : Nz.S} {a : Addr} {oe : Obj} {pn : List (Addr × Obj)} {D1 C2 dx : Addr} {d : Option Addr} {i : Nat} {en cn : Str} {bb : Bool} {fs : List (Str × D)} {p p2 q pos : Pos}
theorem call_isF (T : ExcC X.K D1) (hz : Zc (.ref D1) (some dx) oe) (hf : ∃ vs, oe.data = .fields vs) : CallR (X.suite a ((a, oe) :: pn)) (.builtin "isinstance") (rIsF X.K D1 a dx) := by
  intro pins s σ H xs us Q I r h
  obtain ⟨c, cv, b, vs0, rfl, hcv, e, hx, q⟩ := h
  match us, r with
  | [_, _], .cons rx (.cons rt .nil) =>
    cases rx
    obtain rfl := hcv _ rt
    obtain ⟨hget, _⟩ := I.pin (a, oe) (List.mem_append_left _ List.mem_cons_self)
    obtain ⟨vs, hv⟩ := hf
    have hxo : ObjOk X.prog X.w H s.heap dx (.xd vs0) := I.hok dx _ hx
    obtain ⟨mA, hns, _⟩ := hxo
    obtain ⟨od, ho, _⟩ := lookIn_ns hns
    have J : PySem.W.InstAt s.heap a oe D1 (some od) := ⟨hget, hz.1, by unfold PySem.W.notCls; rw [hv] <;> rfl, by rw [hz.2]; exact ho⟩
    have hcl : (PySem.W.clsIn X.K D1).isSome = true := by obtain ⟨cd, hc, _⟩ := PySem.W.any_some T.hd; rw [hc]; rfl
    exact PySem.W.kia_one (PySem.W.kitx_exc hcl T.hg T.hk T.hs T.ha T.hn T.ht T.hm) I.kIn J e (fun z => nomatch z) fun tk => ⟨.bl b, H, I.kept (t' := tk) fun _ _ z => z, rfl, q⟩
theorem ev_isF (T : ExcC X.K D1) (hz : Zc (.ref D1) d oe) (hf : ∃ vs, oe.data = .fields vs) (hx : ExD X.K X.mg B.F0 fs d) (hne : fs ≠ []) (hN : X.N[i]? = some en) (hv : Vis X.env.scope en) (hρ : S.ρ[i]? = some (some (.xv (.ref a))))
    (hk : PySem.W.kitOne X.K (.ref D1) (.ref C2) = some bb) (hg : Gl X "isinstance") (hm : X.mg "isinstance" = none) (hgT : Gl X cn) (hmT : X.mg cn = some (.ref C2)) (hd : (en == ("__debug__" : Str)) = false := by decide) (hcd : (en == ("__classdict__" : Str)) = false := by decide) (hdb : (cn == ("__debug__" : Str)) = false := by decide)
    (he : starEach (.Name en p :: [.Name cn p2]) X.env = (false, eval (.Name en p) X.env) :: starEach [.Name cn p2] X.env := by rfl) (he2 : starEach (.Name cn p2 :: []) X.env = (false, eval (.Name cn p2) X.env) :: starEach [] X.env := by rfl) (hpl : (backTo pos (starEach [.Name cn p2] X.env)).any (·.1) = false := by rfl) :
    Ev (X.suite a ((a, oe) :: pn)) B (.Call (.Name "isinstance" q) [.Name en p, .Name cn p2] [] pos) S (.fr (.bl bb)) S := by
  rcases hx with ⟨z, _⟩ | ⟨_, dx, vs, rfl, h2, h3⟩
  · exact absurd z hne
  refine fun F α H σ Q R k => wE.of (pe_callB (X := X.suite a ((a, oe) :: pn)) (call_isF T hz hf) hg hm (by decide +kernel) (pa_cons (pe_var hN hv hd hcd) (pa_cons (pe_glob (v := .ref C2) hgT hmT rfl hdb) pa_nil he2) he) (by decide) (by decide) he hpl) ?_
  obtain ⟨v, e1, r⟩ := R.slots.get hρ
  have r : v = .ref a := r
  subst r
  exact ⟨.ref a, e1, .ref C2, .ref C2, bb, vs, rfl, fun u z => z, hk, R.sub _ _ (R.bF _ _ h2), k F α _ H R Stp.refl (.bl _)⟩
theorem ev_isFB {T : String} (E : ExcC X.K D1) (hz : Zc (.ref D1) d oe) (hf : ∃ vs, oe.data = .fields vs) (hx : ExD X.K X.mg B.F0 fs d) (hne : fs ≠ []) (hN : X.N[i]? = some en) (hv : Vis X.env.scope en) (hρ : S.ρ[i]? = some (some (.xv (.ref a))))
    (hk : PySem.W.kitOne X.K (.ref D1) (.type T) = some bb) (hg : Gl X "isinstance") (hm : X.mg "isinstance" = none) (hgT : Gl X cn) (hmT : X.mg cn = none) (hvT : bootBuiltins cn = some (.type T)) (hn : cn ≠ "__name__" := by decide) (hd : (en == ("__debug__" : Str)) = false := by decide) (hcd : (en == ("__classdict__" : Str)) = false := by decide) (hdb : (cn == ("__debug__" : Str)) = false := by decide)
    (he : starEach (.Name en p :: [.Name cn p2]) X.env = (false, eval (.Name en p) X.env) :: starEach [.Name cn p2] X.env := by rfl) (he2 : starEach (.Name cn p2 :: []) X.env = (false, eval (.Name cn p2) X.env) :: starEach [] X.env := by rfl) (hpl : (backTo pos (starEach [.Name cn p2] X.env)).any (·.1) = false := by rfl) :
    Ev (X.suite a ((a, oe) :: pn)) B (.Call (.Name "isinstance" q) [.Name en p, .Name cn p2] [] pos) S (.fr (.bl bb)) S := by
  rcases hx with ⟨z, _⟩ | ⟨_, dx, vs, rfl, h2, h3⟩
  · exact absurd z hne
  refine fun F α H σ Q R k => wE.of (pe_callB (X := X.suite a ((a, oe) :: pn)) (call_isF E hz hf) hg hm (by decide +kernel) (pa_cons (pe_var hN hv hd hcd) (pa_cons (pe_bltn (v := .ty T) hgT hmT hvT rfl hn hdb) pa_nil he2) he) (by decide) (by decide) he hpl) ?_
  obtain ⟨v, e1, r⟩ := R.slots.get hρ
  have r : v = .ref a := r
  subst r
  exact ⟨.ref a, e1, .ty T, .type T, bb, vs, rfl, fun u z => z, hk, R.sub _ _ (R.bF _ _ h2), k F α _ H R Stp.refl (.bl _)⟩
end
end Nz
namespace Nz
open PySem PySem.Spec PyProof.Rows L2
section
variable {X : Cx} {B : Bd} {S S1 S2 : Nz.S} {a b e o : Expr} {es : List Expr} {kws : List Keyword} {pos apos p q p2 pos' np : Pos} {x : Exn} {c m : Str} {K : Out → Prop} {Ke : Exn → Nz.S → Prop} {C g f : Addr} {ds : List D} {fs : List (Str × D)} {body suite : List Stmt} {b₀ : Stmt} {fd : FuncData} {ps : List Str} {k : Nat} {sp : SpX} {nm : Str}
/-- x = e -/
theorem exr_set {st : Stmt} (i : Nat) {y : Str} {p1 p3 : Pos} (h : Er X B e S) (hN : X.N.Nodup) (hi : X.N[i]? = some y) (hx : Loc X.env.scope y) (hf : X.fn y = true ∨ X.env.scope.names.lookup y = some .local := by first | exact .inl rfl | exact .inr rfl | assumption)
    (hs : swapsWith e (some (.Name y p1)) p3.line X.env = pure false := by rfl) : Ex X B (.Assign [.Name y p1] e p3) S K := fun F α H σ D R oo => wS.of (ps_set hN hi hx pe_w hs hf) (h F α H σ _ R)
end
/-- a field of an error, as an int, as a text -/
def exI (x : Exn) (f : Str) : Int := match x.fs.lookup f with
  | some (.int i) => i
  | _ => 0
theorem okds_nil : ∀ d ∈ ([] : List D), okD d := fun _ h => by cases h
theorem okds_cons {d : D} {ds : List D} (h : okD d) (t : ∀ x ∈ ds, okD x) : ∀ x ∈ d :: ds, okD x := fun x hx => by
  rcases List.mem_cons.mp hx with rfl | hx
  · exact h
  · exact t x hx
end Nz
namespace Nz
open PySem PySem.Spec PyProof.Rows L2
end Nz
namespace Nz
open PySem PySem.Spec PyProof.Rows L2
end Nz
namespace Nz
open PySem PySem.Spec PyProof.Rows L2
end Nz
namespace Nz
open PySem PySem.Spec PyProof.Rows L2
end Nz
namespace Nz
open PySem PySem.Spec PyProof.Rows L2
end Nz
namespace Nz
open PySem PySem.Spec PyProof.Rows L2
open AutoSeq1 (wpAny_loadPart')
open Sem (wp)
abbrev IsZipG (h : Heap) (z TI TO : Addr) (f0 f1 : Value) : Prop :=
  h.get? z = some { cls := .type "zip", dict := none, data := .fields #[f0, f1, .bool false, .ref TI, .ref TO], slots := #[] }
def ZLent (f0 f1 : Value) : Prop := f0 = .none ∨ ∃ (N : Int) (b : Bool), f0 = rawInt N ∧ f1 = .bool b
section
variable {prog : Program} {w : World} {A : Around} {E : Value → Shared → Prop} {s : Shared} {z TI TO i1 i2 : Addr} {fp1 fp2 : List Addr} {n1 n2 i : Nat} {P1 P2 : Nat → Value → Prop} {St1 St2 : Nat → Heap → Prop} {a1 a2 f0 f1 : Value}
theorem wpAny_alive {M : Model} {a : Addr} {Q : Option Obj → Shared → Prop} (h : Q (s.heap.get? a) s) : wpAny M A (loadIfAlive a) Q E s := fun Γ p _ => by
  unfold loadIfAlive
  rw [Sem.wp_loadIfAlive]
  exact h
theorem zip_free {Q : Bool → Shared → Prop} (hz : IsZipG s.heap z TI TO f0 f1) (hl : ZLent f0 f1) (h1 : Q true s)
    (h2 : ∀ h' N, IsZipG h' z TI TO (rawInt N) (.bool true) → Heap.SameBut z s.heap h' → Q false { s with heap := h' }) : wpAny (model prog w) A (Builtin.SmallTypes.ownedTupleIsFree (.ref z)) Q E s := by
  unfold Builtin.SmallTypes.ownedTupleIsFree
  rcases hl with rfl | ⟨N, b, rfl, rfl⟩
  · exact wpAny_bind (wpAny_field hz rfl (x := .none) rfl (wpAny_pure h1))
  · refine wpAny_bind (wpAny_field hz rfl (x := rawInt N) rfl ?_)
    show wpAny _ _ (loadIfAlive N.toNat >>= _) _ _ _
    refine wpAny_bind (wpAny_alive ?_)
    cases s.heap.get? N.toNat with
    | none => exact wpAny_pure h1
    | some o =>
      simp only [Option.isNone_some, Bool.false_eq_true, if_false]
      refine wpAny_bind (wpAny_field hz rfl (x := .bool b) rfl ?_)
      cases b with
      | true => exact wpAny_pure (h2 s.heap N hz (Heap.SameBut.refl ..))
      | false =>
        refine wpAny_bind (wpAny_setField_rec hz (by simp) fun h' hz' hs' => ?_)
        exact wpAny_pure (h2 h' N hz' hs')
theorem zipG_item {Q : Value → Shared → Prop} (S : ZipSep2 z TI TO i1 i2 fp1 fp2) (D1 : Draws prog w A i1 fp1 n1 P1 St1) (D2 : Draws prog w A i2 fp2 n2 P2 St2)
    (hz : IsZipG s.heap z TI TO f0 f1) (hl : ZLent f0 f1) (hTI : IsTupOf2 s.heap TI (.ref i1) (.ref i2)) (hTO : IsTupOf2 s.heap TO a1 a2) (st1 : St1 i s.heap) (st2 : St2 i s.heap) (hlt1 : i < n1) (hlt2 : i < n2)
    (hQ : ∀ x1 x2 h' tk g0 g1 b1 b2, P1 i x1 → P2 i x2 → IsZipG h' z TI TO g0 g1 → ZLent g0 g1 → IsTupOf2 h' TO b1 b2 → St1 (i + 1) h' → St2 (i + 1) h' → IsTupOf2 h' s.heap.objs.size x1 x2 → h'.objs.size = s.heap.objs.size + 1 →
      (∀ c o, c ≠ z → c ≠ TO → c ≠ i1 → c ≠ i2 → s.heap.get? c = some o → h'.get? c = some o) → Q (.ref s.heap.objs.size) { s with heap := h', toks := tk }) :
    wpAny (model prog w) A (Builtin.«zip.__next__» ⟨[.ref z], []⟩) (fun fin s' => ∃ v, fin = .done (.ret v) ∧ Q v s') E s := by
  obtain ⟨hp, g, d, tk0, os⟩ := s
  show wpAny _ _ (field (.ref z) 2 >>= _) _ _ _
  refine wpAny_bind (wpAny_field hz rfl (x := .bool false) rfl ?_)
  show wpAny _ _ (field (.ref z) 3 >>= _) _ _ _
  refine wpAny_bind (wpAny_field hz rfl (x := .ref TI) rfl ?_)
  refine wpAny_bind (wpAny_seqItems hTI rfl ?_)
  show wpAny _ _ (Builtin.SmallTypes.ownedTupleIsFree (.ref z) >>= _) _ _ _
  refine wpAny_bind (zip_free hz hl ?_ fun hn N hzn hsn => ?_)
  · simp only [if_true]
    refine wpAny_bind (wpAny_rule ?_)
    refine wpAny_bind (wpAny_field hz rfl (x := .ref TO) rfl ?_)
    refine wpAny_bind (wpAny_setField_rec hz (by simp) fun g0 hz0 hs0 => ?_)
    replace hz0 : IsZipG g0 z TI TO .ellipsis f1 := hz0
    replace hs0 : Heap.SameBut z hp g0 := hs0
    refine wpAny_bind ?_
    simp only [List.zipIdx_cons, List.zipIdx_nil, List.forIn_cons, List.forIn_nil]
    refine wpAny_bind (wpAny_bind (wpAny_onRaise ?_))
    show wpAny _ _ (Builtin.SmallTypes.nextOf (.ref i1) >>= _) _ _ ⟨g0, g, d, tk0, os⟩
    refine wpAny_bind (D1.item i _ _ _ hlt1 (D1.over st1 hs0 S.zf1) fun x1 p1 tk1 hx1 sn1 hp1 => wpAny_pure ?_)
    replace hp1 : Heap.SameBut i1 g0 p1 := hp1
    have hU1 : IsTupOf2 p1 TO a1 a2 := hp1.extBut _ _ S.Ti1 (hs0.extBut _ _ S.TOz hTO)
    refine wpAny_bind (wpAny_seqItems (s := ⟨p1, g, d, tk1, os⟩) hU1 rfl ?_)
    refine wpAny_bind (updateSeq_IsTupOf2 (s := ⟨p1, g, d, tk1, os⟩) hU1 fun g1 hT1 hs1 => ?_)
    replace hT1 : IsTupOf2 g1 TO x1 a2 := hT1
    replace hs1 : Heap.SameBut TO p1 g1 := hs1
    refine wpAny_bind (wpAny_letGo (wpAny_pure ?_))
    refine wpAny_bind (wpAny_bind (wpAny_onRaise ?_))
    show wpAny _ _ (Builtin.SmallTypes.nextOf (.ref i2) >>= _) _ _ ⟨g1, g, d, tk1, os⟩
    refine wpAny_bind (D2.item i _ _ _ hlt2 (D2.over (D2.over (D2.over st2 hs0 S.zf2) hp1 S.sep1_2) hs1 S.Tf2) fun x2 p2 tk2 hx2 sn2 hp2 => wpAny_pure ?_)
    replace hp2 : Heap.SameBut i2 g1 p2 := hp2
    have hU2 : IsTupOf2 p2 TO x1 a2 := hp2.extBut _ _ S.Ti2 hT1
    refine wpAny_bind (wpAny_seqItems (s := ⟨p2, g, d, tk2, os⟩) hU2 rfl ?_)
    refine wpAny_bind (updateSeq_IsTupOf2 (s := ⟨p2, g, d, tk2, os⟩) hU2 fun g2 hT2 hs2 => ?_)
    replace hT2 : IsTupOf2 g2 TO x1 x2 := hT2
    replace hs2 : Heap.SameBut TO p2 g2 := hs2
    refine wpAny_bind (wpAny_letGo (wpAny_pure (wpAny_pure ?_)))
    refine wpAny_bind (wpAny_seqItems (s := ⟨g2, g, d, tk2, os⟩) hT2 rfl ?_)
    refine wpAny_bind (wpAny_newTuple ?_)
    have hsz : g2.objs.size = hp.objs.size := by rw [hs2.1, hp2.1, hs1.1, hp1.1, hs0.1]
    have hzz : IsZipG g2 z TI TO .ellipsis f1 := (hs2.extBut _ _ S.TOz.symm (hp2.extBut _ _ S.zi2 (hs1.extBut _ _ S.TOz.symm (hp1.extBut _ _ S.zi1 hz0))))
    have hkk : ∀ c o, c ≠ z → c ≠ TO → c ≠ i1 → c ≠ i2 → hp.get? c = some o → g2.get? c = some o := fun c o cz cT c1 c2 e =>
      (hs2.extBut _ _ cT (hp2.extBut _ _ c2 (hs1.extBut _ _ cT (hp1.extBut _ _ c1 (hs0.extBut _ _ cz e)))))
    have hj1 : St1 (i + 1) g2 := (D1.over (D1.over (D1.over sn1 hs1 S.Tf1) hp2 S.sep2_1) hs2 S.Tf1)
    have hj2 : St2 (i + 1) g2 := (D2.over sn2 hs2 S.Tf2)
    have hzlt : z < g2.objs.size := Heap.lt_size hzz
    show wpAny _ _ (Builtin.SmallTypes.ownedTupleHandOut (.ref z) (.ref g2.objs.size) >>= _) _ _ ⟨g2.push { cls := .type "tuple", data := .seq #[x1, x2] }, g, d, tk2, os⟩
    refine wpAny_bind ?_
    unfold Builtin.SmallTypes.ownedTupleHandOut
    have hz₆ : IsZipG (g2.push { cls := .type "tuple", data := .seq #[x1, x2] }) z TI TO .ellipsis f1 := Heap.get?_push_of_some _ hzz
    refine wpAny_bind (wpAny_setField_rec hz₆ (by simp) fun h₇ hz₇ hs₇ => ?_)
    replace hz₇ : IsZipG h₇ z TI TO (rawInt g2.objs.size) f1 := hz₇
    refine wpAny_setField_rec hz₇ (by simp) fun h₈ hz₈ hs₈ => ?_
    replace hz₈ : IsZipG h₈ z TI TO (rawInt g2.objs.size) (.bool false) := hz₈
    replace hs₇ : Heap.SameBut z (g2.push { cls := .type "tuple", data := .seq #[x1, x2] }) h₇ := hs₇
    replace hs₈ : Heap.SameBut z h₇ h₈ := hs₈
    have up : ∀ c o, c ≠ z → g2.get? c = some o → h₈.get? c = some o := fun c o c1 e => hs₈.extBut _ _ c1 (hs₇.extBut _ _ c1 (Heap.get?_push_of_some _ e))
    have hT₈ : IsTupOf2 h₈ g2.objs.size x1 x2 := hs₈.extBut _ _ (Nat.ne_of_gt hzlt) (hs₇.extBut _ _ (Nat.ne_of_gt hzlt) (Heap.get?_push_size _ rfl))
    have hz8 : h₈.objs.size = g2.objs.size + 1 := by rw [hs₈.1, hs₇.1, Heap.size_push]
    rw [hsz] at hz₈ hT₈ hz8
    refine wpAny_pure ⟨_, rfl, ?_⟩
    show Q (.ref g2.objs.size) ⟨h₈, g, d, tk2, os⟩
    rw [hsz]
    exact hQ x1 x2 h₈ tk2 _ _ _ _ hx1 hx2 hz₈ (.inr ⟨_, _, rfl, rfl⟩) (up _ _ S.TOz hT2) (D1.frame _ _ _ hj1 fun b hb o e => up b o (fun q => S.zf1 (q ▸ hb)) e) (D2.frame _ _ _ hj2 fun b hb o e => up b o (fun q => S.zf2 (q ▸ hb)) e) hT₈ hz8 fun c o cz cT c1 c2 e => up c o cz (hkk c o cz cT c1 c2 e)
  · replace hsn : Heap.SameBut z hp hn := hsn
    simp only [Bool.false_eq_true, if_false]
    refine wpAny_bind ?_
    rw [← Array.forIn_toList]
    simp only [List.forIn_cons, List.forIn_nil]
    refine wpAny_bind (wpAny_bind (wpAny_holding ?_))
    show wpAny _ _ (Builtin.SmallTypes.nextOf (.ref i1) >>= _) _ _ ⟨hn, g, d, tk0, os⟩
    refine wpAny_bind (D1.item i _ _ _ hlt1 (D1.over st1 hsn S.zf1) fun x1 p1 tk1 hx1 sn1 hp1 => wpAny_pure ?_)
    replace hp1 : Heap.SameBut i1 hn p1 := hp1
    refine wpAny_pure ?_
    refine wpAny_bind (wpAny_bind (wpAny_holding ?_))
    show wpAny _ _ (Builtin.SmallTypes.nextOf (.ref i2) >>= _) _ _ ⟨p1, g, d, tk1, os⟩
    refine wpAny_bind (D2.item i _ _ _ hlt2 (D2.over (D2.over st2 hsn S.zf2) hp1 S.sep1_2) fun x2 p2 tk2 hx2 sn2 hp2 => wpAny_pure ?_)
    replace hp2 : Heap.SameBut i2 p1 p2 := hp2
    refine wpAny_pure (wpAny_pure ?_)
    show wpAny _ _ (newTuple [x1, x2] >>= _) _ _ ⟨p2, g, d, tk2, os⟩
    refine wpAny_bind (wpAny_newTuple ?_)
    have hsz : p2.objs.size = hp.objs.size := by rw [hp2.1, hp1.1, hsn.1]
    have hkk : ∀ c o, c ≠ z → c ≠ TO → c ≠ i1 → c ≠ i2 → hp.get? c = some o → p2.get? c = some o := fun c o cz cT c1 c2 e => hp2.extBut _ _ c2 (hp1.extBut _ _ c1 (hsn.extBut _ _ cz e))
    refine wpAny_pure ⟨_, rfl, ?_⟩
    show Q (.ref p2.objs.size) ⟨p2.push { cls := .type "tuple", data := .seq #[x1, x2] }, g, d, tk2, os⟩
    rw [hsz]
    have up : ∀ c o, p2.get? c = some o → (p2.push { cls := .type "tuple", data := .seq #[x1, x2] }).get? c = some o := fun c o e => Heap.get?_push_of_some _ e
    have hT : IsTupOf2 (p2.push { cls := .type "tuple", data := .seq #[x1, x2] }) hp.objs.size x1 x2 := by rw [← hsz]; exact Heap.get?_push_size _ rfl
    exact hQ x1 x2 _ tk2 _ _ _ _ hx1 hx2 (up _ _ (hp2.extBut _ _ S.zi2 (hp1.extBut _ _ S.zi1 hzn))) (.inr ⟨N, true, rfl, rfl⟩) (up _ _ (hp2.extBut _ _ S.Ti2 (hp1.extBut _ _ S.Ti1 (hsn.extBut _ _ S.TOz hTO))))
      (D1.frame _ _ _ (D1.over sn1 hp2 S.sep2_1) fun b _ o e => up b o e) (D2.frame _ _ _ sn2 fun b _ o e => up b o e) hT (by rw [Heap.size_push, hsz]) fun c o cz cT c1 c2 e => up c o (hkk c o cz cT c1 c2 e)
theorem zipG_end {Q : Fin → Shared → Prop} (S : ZipSep2 z TI TO i1 i2 fp1 fp2) (D1 : Draws prog w A i1 fp1 n1 P1 St1) (D2 : Draws prog w A i2 fp2 n2 P2 St2)
    (hz : IsZipG s.heap z TI TO f0 f1) (hl : ZLent f0 f1) (hTI : IsTupOf2 s.heap TI (.ref i1) (.ref i2)) (hTO : IsTupOf2 s.heap TO a1 a2) (st1 : St1 i s.heap) (st2 : St2 i s.heap) (hle1 : i ≤ n1) (hle2 : i ≤ n2) (hend : i = n1 ∨ i = n2)
    (hE : ∀ h' tk e, (∀ c o, c ≠ z → c ≠ TO → c ≠ i1 → c ≠ i2 → s.heap.get? c = some o → h'.get? c = some o) → (∃ o, h'.get? e = some o ∧ o.cls = .type "StopIteration") → E (.ref e) { s with heap := h', toks := tk }) :
    wpAny (model prog w) A (Builtin.«zip.__next__» ⟨[.ref z], []⟩) Q E s := by
  obtain ⟨hp, g, d, tk0, os⟩ := s
  show wpAny _ _ (field (.ref z) 2 >>= _) _ _ _
  refine wpAny_bind (wpAny_field hz rfl (x := .bool false) rfl ?_)
  show wpAny _ _ (field (.ref z) 3 >>= _) _ _ _
  refine wpAny_bind (wpAny_field hz rfl (x := .ref TI) rfl ?_)
  refine wpAny_bind (wpAny_seqItems hTI rfl ?_)
  show wpAny _ _ (Builtin.SmallTypes.ownedTupleIsFree (.ref z) >>= _) _ _ _
  refine wpAny_bind (zip_free hz hl ?_ fun hn N hzn hsn => ?_)
  · simp only [if_true]
    refine wpAny_bind (wpAny_rule ?_)
    refine wpAny_bind (wpAny_field hz rfl (x := .ref TO) rfl ?_)
    refine wpAny_bind (wpAny_setField_rec hz (by simp) fun g0 hz0 hs0 => ?_)
    replace hz0 : IsZipG g0 z TI TO .ellipsis f1 := hz0
    replace hs0 : Heap.SameBut z hp g0 := hs0
    refine wpAny_bind ?_
    simp only [List.zipIdx_cons, List.zipIdx_nil, List.forIn_cons, List.forIn_nil]
    refine wpAny_bind (wpAny_bind (wpAny_onRaise ?_))
    show wpAny _ _ (Builtin.SmallTypes.nextOf (.ref i1) >>= _) _ _ ⟨g0, g, d, tk0, os⟩
    by_cases hlt1 : i < n1
    · refine wpAny_bind (D1.item i _ _ _ hlt1 (D1.over st1 hs0 S.zf1) fun x1 p1 tk1 hx1 sn1 hp1 => wpAny_pure ?_)
      replace hp1 : Heap.SameBut i1 g0 p1 := hp1
      have hU1 : IsTupOf2 p1 TO a1 a2 := hp1.extBut _ _ S.Ti1 (hs0.extBut _ _ S.TOz hTO)
      refine wpAny_bind (wpAny_seqItems (s := ⟨p1, g, d, tk1, os⟩) hU1 rfl ?_)
      refine wpAny_bind (updateSeq_IsTupOf2 (s := ⟨p1, g, d, tk1, os⟩) hU1 fun g1 hT1 hs1 => ?_)
      replace hT1 : IsTupOf2 g1 TO x1 a2 := hT1
      replace hs1 : Heap.SameBut TO p1 g1 := hs1
      refine wpAny_bind (wpAny_letGo (wpAny_pure ?_))
      have hi2 : i = n2 := by omega
      refine wpAny_bind (wpAny_bind (wpAny_onRaise ?_))
      show wpAny _ _ (Builtin.SmallTypes.nextOf (.ref i2) >>= _) _ _ ⟨g1, g, d, tk1, os⟩
      refine wpAny_bind (D2.done ⟨g1, g, d, tk1, os⟩ _ _ (by rw [← hi2]; exact (D2.over (D2.over (D2.over st2 hs0 S.zf2) hp1 S.sep1_2) hs1 S.Tf2)) fun q e hq he => ?_)
      replace hq : Heap.ExtBut i2 g1 q := hq
      obtain ⟨oe, hoe, hce⟩ := he
      replace hoe : q.get? e = some oe := hoe
      have hzq : IsZipG q z TI TO .ellipsis f1 := hq _ _ S.zi2 (hs1.extBut _ _ S.TOz.symm (hp1.extBut _ _ S.zi1 hz0))
      have hez : e ≠ z := fun x => by subst x; rw [hzq] at hoe; cases hoe; simp at hce
      refine wpAny_setField_rec (s := ⟨q, g, d, tk1, os⟩) hzq (by simp) fun q' _ hq' => ?_
      replace hq' : Heap.SameBut z q q' := hq'
      exact hE q' tk1 e (fun c o cz cT c1 c2 x => hq'.extBut _ _ cz (hq _ _ c2 (hs1.extBut _ _ cT (hp1.extBut _ _ c1 (hs0.extBut _ _ cz x))))) ⟨oe, hq'.extBut _ _ hez hoe, hce⟩
    · have hi1 : i = n1 := by omega
      refine wpAny_bind (D1.done ⟨g0, g, d, tk0, os⟩ _ _ (by rw [← hi1]; exact (D1.over st1 hs0 S.zf1)) fun q e hq he => ?_)
      replace hq : Heap.ExtBut i1 g0 q := hq
      obtain ⟨oe, hoe, hce⟩ := he
      replace hoe : q.get? e = some oe := hoe
      have hzq : IsZipG q z TI TO .ellipsis f1 := hq _ _ S.zi1 hz0
      have hez : e ≠ z := fun x => by subst x; rw [hzq] at hoe; cases hoe; simp at hce
      refine wpAny_setField_rec (s := ⟨q, g, d, tk0, os⟩) hzq (by simp) fun q' _ hq' => ?_
      replace hq' : Heap.SameBut z q q' := hq'
      exact hE q' tk0 e (fun c o cz cT c1 c2 x => hq'.extBut _ _ cz (hq _ _ c1 (hs0.extBut _ _ cz x))) ⟨oe, hq'.extBut _ _ hez hoe, hce⟩
  · replace hsn : Heap.SameBut z hp hn := hsn
    simp only [Bool.false_eq_true, if_false]
    refine wpAny_bind ?_
    rw [← Array.forIn_toList]
    simp only [List.forIn_cons, List.forIn_nil]
    refine wpAny_bind (wpAny_bind (wpAny_holding ?_))
    show wpAny _ _ (Builtin.SmallTypes.nextOf (.ref i1) >>= _) _ _ ⟨hn, g, d, tk0, os⟩
    by_cases hlt1 : i < n1
    · refine wpAny_bind (D1.item i _ _ _ hlt1 (D1.over st1 hsn S.zf1) fun x1 p1 tk1 hx1 sn1 hp1 => wpAny_pure ?_)
      replace hp1 : Heap.SameBut i1 hn p1 := hp1
      have hi2 : i = n2 := by omega
      refine wpAny_pure ?_
      refine wpAny_bind (wpAny_bind (wpAny_holding ?_))
      show wpAny _ _ (Builtin.SmallTypes.nextOf (.ref i2) >>= _) _ _ ⟨p1, g, d, tk1, os⟩
      refine wpAny_bind (D2.done ⟨p1, g, d, tk1, os⟩ _ _ (by rw [← hi2]; exact D2.over (D2.over st2 hsn S.zf2) hp1 S.sep1_2) fun q e hq he => ?_)
      replace hq : Heap.ExtBut i2 p1 q := hq
      exact hE q tk1 e (fun c o cz cT c1 c2 x => hq _ _ c2 (hp1.extBut _ _ c1 (hsn.extBut _ _ cz x))) he
    · have hi1 : i = n1 := by omega
      refine wpAny_bind (D1.done ⟨hn, g, d, tk0, os⟩ _ _ (by rw [← hi1]; exact D1.over st1 hsn S.zf1) fun q e hq he => ?_)
      replace hq : Heap.ExtBut i1 hn q := hq
      exact hE q tk0 e (fun c o cz cT c1 c2 x => hq _ _ c1 (hsn.extBut _ _ cz x)) he
/-- the zip's next, as enumerate asks for it -/
theorem zipG_nextOf_item {Q : Value → Shared → Prop} (S : ZipSep2 z TI TO i1 i2 fp1 fp2) (D1 : Draws prog w A.in1 i1 fp1 n1 P1 St1) (D2 : Draws prog w A.in1 i2 fp2 n2 P2 St2)
    (hz : IsZipG s.heap z TI TO f0 f1) (hl : ZLent f0 f1) (hTI : IsTupOf2 s.heap TI (.ref i1) (.ref i2)) (hTO : IsTupOf2 s.heap TO a1 a2) (st1 : St1 i s.heap) (st2 : St2 i s.heap) (hlt1 : i < n1) (hlt2 : i < n2)
    (hQ : ∀ x1 x2 h' tk g0 g1 b1 b2, P1 i x1 → P2 i x2 → IsZipG h' z TI TO g0 g1 → ZLent g0 g1 → IsTupOf2 h' TO b1 b2 → St1 (i + 1) h' → St2 (i + 1) h' → IsTupOf2 h' s.heap.objs.size x1 x2 → h'.objs.size = s.heap.objs.size + 1 →
      (∀ c o, c ≠ z → c ≠ TO → c ≠ i1 → c ≠ i2 → s.heap.get? c = some o → h'.get? c = some o) → Q (.ref s.heap.objs.size) { s with heap := h', toks := tk }) :
    wpAny (model prog w) A (Builtin.SmallTypes.nextOf (.ref z)) Q E s := by
  have hT : s.TypeIs (.ref z) "zip" := ⟨_, hz, rfl⟩
  unfold Builtin.SmallTypes.nextOf
  exact wpAny_bind (wpAny_callSpecial?_slot (name := Str.ofString "__next__") hT F.slot_zip_next
    (wpAny_call_entry F.slot_zip_next hT F.entry_zip_next (zipG_item S D1 D2 hz hl hTI hTO st1 st2 hlt1 hlt2 fun x1 x2 h' tk g0 g1 b1 b2 y1 y2 y3 y4 y5 d1 d2 e1 e2 e3 => wpAny_pure (hQ x1 x2 h' tk g0 g1 b1 b2 y1 y2 y3 y4 y5 d1 d2 e1 e2 e3)) (F.args_zip_next_1 _)))
theorem zipG_nextOf_end {Q : Value → Shared → Prop} (S : ZipSep2 z TI TO i1 i2 fp1 fp2) (D1 : Draws prog w A.in1 i1 fp1 n1 P1 St1) (D2 : Draws prog w A.in1 i2 fp2 n2 P2 St2)
    (hz : IsZipG s.heap z TI TO f0 f1) (hl : ZLent f0 f1) (hTI : IsTupOf2 s.heap TI (.ref i1) (.ref i2)) (hTO : IsTupOf2 s.heap TO a1 a2) (st1 : St1 i s.heap) (st2 : St2 i s.heap) (hle1 : i ≤ n1) (hle2 : i ≤ n2) (hend : i = n1 ∨ i = n2)
    (hE : ∀ h' tk e, (∀ c o, c ≠ z → c ≠ TO → c ≠ i1 → c ≠ i2 → s.heap.get? c = some o → h'.get? c = some o) → (∃ o, h'.get? e = some o ∧ o.cls = .type "StopIteration") → E (.ref e) { s with heap := h', toks := tk }) :
    wpAny (model prog w) A (Builtin.SmallTypes.nextOf (.ref z)) Q E s := by
  have hT : s.TypeIs (.ref z) "zip" := ⟨_, hz, rfl⟩
  unfold Builtin.SmallTypes.nextOf
  exact wpAny_bind (wpAny_callSpecial?_slot (name := Str.ofString "__next__") hT F.slot_zip_next
    (wpAny_call_entry F.slot_zip_next hT F.entry_zip_next (zipG_end S D1 D2 hz hl hTI hTO st1 st2 hle1 hle2 hend hE) (F.args_zip_next_1 _)))
/-- enumerate's next over whatever gives a value -/
theorem enumG_item {e it : Addr} {k : Int} {old : Value} {Q : Value → Shared → Prop} {W : Value → Heap → Nat → Prop} (he : IsEnum s.heap e it k old)
    (hnx : wpAny (model prog w) A (Builtin.SmallTypes.nextOf (.ref it)) (fun x s1 => ∃ h1 tk, s1 = { s with heap := h1, toks := tk } ∧ IsEnum h1 e it k old ∧ W x h1 tk) E s)
    (hQ : ∀ x h1 tk h', W x h1 tk → IsEnumOut h' e it (k + 1) x h1.objs.size → h'.get? h1.objs.size = some { cls := .type "tuple", data := .seq #[.int k tk, x] } → h'.objs.size = h1.objs.size + 1 →
      (∀ b o, b ≠ e → h1.get? b = some o → h'.get? b = some o) → Q (.ref h1.objs.size) { s with heap := h', toks := tk + 1 }) :
    wpAny (model prog w) A (Builtin.«enumerate.__next__» ⟨[.ref e], []⟩) (fun fin s' => ∃ v, fin = .done (.ret v) ∧ Q v s') E s := by
  obtain ⟨hp, g, d, tk₀, os⟩ := s
  show wpAny _ _ (field (.ref e) 2 >>= _) _ _ _
  refine wpAny_bind (wpAny_field he rfl (x := .ref it) rfl ?_)
  refine wpAny_bind (wpAny_mono hnx (fun x s1 hx => ?_) fun _ _ q => q)
  obtain ⟨h₁, tk, rfl, he₁, hW⟩ := hx
  show wpAny _ _ (field (.ref e) 3 >>= _) _ _ ⟨h₁, g, d, tk, os⟩
  refine wpAny_bind (wpAny_field he₁ rfl (x := rawInt k) rfl ?_)
  show wpAny _ _ (field (.ref e) 4 >>= _) _ _ ⟨h₁, g, d, tk, os⟩
  refine wpAny_bind (wpAny_field he₁ rfl (x := .none) rfl ?_)
  show wpAny _ _ (mkInt k >>= _) _ _ ⟨h₁, g, d, tk, os⟩
  refine wpAny_bind (wpAny_mkInt ?_)
  show wpAny _ _ (setField (.ref e) 3 (rawInt (k + 1)) >>= _) _ _ ⟨h₁, g, d, tk + 1, os⟩
  refine wpAny_bind (wpAny_setField_rec he₁ (by simp) fun h₂ he₂ hs₂ => ?_)
  replace hs₂ : Heap.SameBut e h₁ h₂ := hs₂
  replace he₂ : IsEnum h₂ e it (k + 1) old := he₂
  show wpAny _ _ (setField (.ref e) 4 .none >>= _) _ _ ⟨h₂, g, d, tk + 1, os⟩
  refine wpAny_bind (wpAny_setField_rec he₂ (by simp) fun h₃ he₃ hs₃ => ?_)
  replace hs₃ : Heap.SameBut e h₂ h₃ := hs₃
  replace he₃ : IsEnum h₃ e it (k + 1) old := he₃
  show wpAny _ _ (newTuple [.int k tk, x] >>= _) _ _ ⟨h₃, g, d, tk + 1, os⟩
  refine wpAny_bind (wpAny_newTuple ?_)
  have he₄ : IsEnum (h₃.push { cls := .type "tuple", data := .seq #[.int k tk, x] }) e it (k + 1) old := Heap.get?_push_of_some _ he₃
  generalize hh₄ : h₃.push { cls := .type "tuple", data := .seq #[.int k tk, x] } = h₄ at he₄
  have hsz : h₃.objs.size = h₁.objs.size := by rw [hs₃.1, hs₂.1]
  have hel : e < h₁.objs.size := Heap.lt_size he₁
  have ht₄ : h₄.get? h₁.objs.size = some { cls := .type "tuple", data := .seq #[.int k tk, x] } := by rw [← hh₄, ← hsz]; exact Heap.get?_push_size _ rfl
  have hz₄ : h₄.objs.size = h₁.objs.size + 1 := by rw [← hh₄, Heap.size_push, hsz]
  have hk₄ : ∀ b o, b ≠ e → h₁.get? b = some o → h₄.get? b = some o := fun b o hbe hb => by
    rw [← hh₄]; exact Heap.get?_push_of_some _ (hs₃.extBut b o hbe (hs₂.extBut b o hbe hb))
  show wpAny _ _ (Builtin.SmallTypes.ownedTupleIsFree (.ref e) >>= _) _ _ ⟨h₄, g, d, tk + 1, os⟩
  rw [hsz]
  refine wpAny_bind ?_
  · unfold Builtin.SmallTypes.ownedTupleIsFree
    refine wpAny_bind (wpAny_field he₄ rfl (x := .none) rfl (wpAny_pure ?_))
    simp only [if_true]
    refine wpAny_bind (wpAny_rule ?_)
    refine wpAny_bind (wpAny_field he₄ rfl (x := old) rfl ?_)
    refine wpAny_bind (wpAny_setField_rec he₄ (by simp) fun h₅ he₅ hs₅ => ?_)
    replace hs₅ : Heap.SameBut e h₄ h₅ := hs₅
    replace he₅ : IsEnum h₅ e it (k + 1) x := he₅
    show wpAny _ _ (Builtin.SmallTypes.ownedTupleHandOut (.ref e) (.ref h₁.objs.size) >>= _) _ _ ⟨h₅, g, d, tk + 1, os⟩
    refine wpAny_bind ?_
    · unfold Builtin.SmallTypes.ownedTupleHandOut
      refine wpAny_bind (wpAny_setField_rec he₅ (by simp) fun h₆ he₆ hs₆ => ?_)
      replace hs₆ : Heap.SameBut e h₅ h₆ := hs₆
      replace he₆ : IsEnumOut h₆ e it (k + 1) x h₁.objs.size := he₆
      refine wpAny_setField_rec he₆ (by simp) fun h₇ he₇ hs₇ => ?_
      replace hs₇ : Heap.SameBut e h₆ h₇ := hs₇
      replace he₇ : IsEnumOut h₇ e it (k + 1) x h₁.objs.size := he₇
      refine wpAny_bind (wpAny_letGo (wpAny_pure ⟨_, rfl, hQ x h₁ tk h₇ hW he₇ ?_ ?_ ?_⟩))
      · exact hs₇.extBut _ _ (Nat.ne_of_gt hel) (hs₆.extBut _ _ (Nat.ne_of_gt hel) (hs₅.extBut _ _ (Nat.ne_of_gt hel) ht₄))
      · rw [hs₇.1, hs₆.1, hs₅.1, hz₄]
      · exact fun b o hbe hb => hs₇.extBut b o hbe (hs₆.extBut b o hbe (hs₅.extBut b o hbe (hk₄ b o hbe hb)))
theorem enumG_pyNext {e it : Addr} {k : Int} {old : Value} {Q : Option Value → Shared → Prop} {W : Value → Heap → Nat → Prop} (he : IsEnum s.heap e it k old)
    (hnx : ∀ E' : Value → Shared → Prop, wpAny (model prog w) A.in1 (Builtin.SmallTypes.nextOf (.ref it)) (fun x s1 => ∃ h1 tk, s1 = { s with heap := h1, toks := tk } ∧ IsEnum h1 e it k old ∧ W x h1 tk) E' s)
    (hQ : ∀ x h1 tk h', W x h1 tk → IsEnumOut h' e it (k + 1) x h1.objs.size → h'.get? h1.objs.size = some { cls := .type "tuple", data := .seq #[.int k tk, x] } → h'.objs.size = h1.objs.size + 1 →
      (∀ b o, b ≠ e → h1.get? b = some o → h'.get? b = some o) → Q (some (.ref h1.objs.size)) { s with heap := h', toks := tk + 1 }) : wpAny (model prog w) A (pyNext (.ref e)) Q E s := by
  have hT : s.TypeIs (.ref e) "enumerate" := ⟨_, he, rfl⟩
  unfold pyNext
  exact wpAny_bind (wpAny_attempt (wpAny_callSpecial?_slot (name := Str.ofString "__next__") hT F.slot_enumerate_next
    (wpAny_call_entry F.slot_enumerate_next hT F.entry_enumerate_next
      (enumG_item he (hnx _) fun x h1 tk h' a b c d k => wpAny_pure (hQ x h1 tk h' a b c d k)) (F.args_enumerate_next_1 _))))
theorem enumG_end {e it : Addr} {k : Int} {old : Value} {Q : Option Value → Shared → Prop} (he : IsEnum s.heap e it k old)
    (hnx : wpAny (model prog w) A.in1 (Builtin.SmallTypes.nextOf (.ref it)) (fun _ _ => False) (fun v s1 => ∃ x, v = .ref x ∧ (∃ o, s1.heap.get? x = some o ∧ o.cls = .type "StopIteration") ∧ Q none s1) s) : wpAny (model prog w) A (pyNext (.ref e)) Q E s := by
  have hT : s.TypeIs (.ref e) "enumerate" := ⟨_, he, rfl⟩
  unfold pyNext
  refine wpAny_bind (wpAny_attempt (wpAny_callSpecial?_slot (name := Str.ofString "__next__") hT F.slot_enumerate_next
    (wpAny_call_entry F.slot_enumerate_next hT F.entry_enumerate_next ?_ (F.args_enumerate_next_1 _))))
  show wpAny _ _ (field (.ref e) 2 >>= _) _ _ _
  refine wpAny_bind (wpAny_field he rfl (x := .ref it) rfl ?_)
  refine wpAny_bind (wpAny_mono hnx (fun _ _ q => q.elim) fun v s1 q => ?_)
  obtain ⟨x, rfl, ⟨o, ho, hc⟩, q⟩ := q
  exact wpAny_bind (wpAny_isInstance (T := "StopIteration") (b := true) ⟨o, ho, hc⟩ isSubtype_stop (wpAny_pure q))
/-- enumerate(z) of a zip -/
theorem enumZ_new (z TI TO : Addr) :
    Meets (Builtin.«enumerate.__new__» ⟨[.type "enumerate", .ref z], []⟩) (fun _ R s => IsZip s.heap z TI TO .none ∧
      R (.ok (.ret (.ref s.heap.objs.size))) { s with heap := s.heap.push (enO z) }) := .of_wp fun P w A R s hz => by
  obtain ⟨q1, q2, q3, q4, q5⟩ := s
  obtain ⟨e, hR⟩ := hz
  have sub := sub_enumerate
  have q : ∀ {A' : Around} {E : Value → Shared → Prop} {Q : Value → Shared → Prop}, Q (.ref z) ⟨q1, q2, q3, q4, q5⟩ → wpAny (model P w) A' (pyIter (.ref z)) Q E ⟨q1, q2, q3, q4, q5⟩ := fun h => wpAny_pyIter_zip e h
  wp_walk using q
  refine wpAny_stack_any fun _ => wpAny_pure ?_
  split
  · rename_i y _ _ _ _ _
    cases (y == Value.type "enumerate") <;> (wp_walk using q; exact ⟨_, rfl, hR⟩)
  · wp_walk using q; exact ⟨_, rfl, hR⟩
theorem enumZ_call {Q : Value → Shared → Prop} (hz : IsZip s.heap z TI TO .none)
    (k : ∀ h', IsEnum h' s.heap.objs.size z 0 .none → (∀ b o, s.heap.get? b = some o → h'.get? b = some o) → Q (.ref s.heap.objs.size) { s with heap := h' }) :
    wpAny (model prog w) A (call (.type "enumerate") [.ref z]) Q E s := by
  refine callType_new F.called_enumerate (by decide) (F.typeCall_enumerate_1 _) (F.newCall_enumerate_1 _) (fun o => F.args_object_init_2 o _) F.entry_enumerate_new (enumZ_new z TI TO) ⟨hz, ?_⟩
  have en : IsEnum (s.heap.push (enO z)) s.heap.objs.size z 0 .none := Heap.get?_push_size s.heap (o := enO z) rfl
  exact ⟨⟨_, en, rfl⟩, k _ en fun b o x => Heap.get?_push_of_some _ x⟩
end
end Nz
namespace Nz
open PySem PySem.Spec PyProof.Rows L2
def SqG (K : Frag) (t : Bool) (H : Hp) (a : Addr) (xs : List V) : Prop := match t with | true => SqT K H a xs | false => SqL K H a xs
def IsG (t : Bool) (h : Heap) (a : Addr) (items : Array Value) : Prop := match t with | true => h.IsTuple a items | false => h.IsList a items
def ItG (t : Bool) (h : Heap) (it a : Addr) (i : Nat) : Prop := match t with | true => h.IsTupleIter it a i | false => h.IsListIter it a i
theorem ItG.at {t : Bool} {h h' : Heap} {it a : Addr} {i : Nat} (x : ItG t h it a i) (k : ∀ o, h.get? it = some o → h'.get? it = some o) : ItG t h' it a i := by
  cases t
  · exact Heap.IsListIter.at x k
  · exact Heap.IsTupleIter.at x k
theorem ItG.is {t : Bool} {h : Heap} {it a : Addr} {i : Nat} (x : ItG t h it a i) : ∃ o, h.get? it = some o ∧ ∀ v, o.data ≠ .cell v := by
  cases t
  · obtain ⟨o, e, _, d⟩ := x; exact ⟨o, e, fun v q => by rw [d] at q; cases q⟩
  · obtain ⟨o, e, _, d⟩ := x; exact ⟨o, e, fun v q => by rw [d] at q; cases q⟩
theorem IsG.at {t : Bool} {h h' : Heap} {a : Addr} {xs : Array Value} (x : IsG t h a xs) (k : ∀ o, h.get? a = some o → h'.get? a = some o) : IsG t h' a xs := by
  cases t
  · exact Heap.IsList.at x k
  · exact Heap.IsTuple.at x k
theorem drawsG {P : Program} {w : World} {A : Around} (hh : A.handled = none) (t : Bool) (it a : Addr) (hne : a ≠ it) (items : Array Value) :
    Draws P w A it [it, a] items.size (fun i v => items[i]? = some v) (fun i h => ItG t h it a i ∧ IsG t h a items) := by
  cases t
  · exact Draws.list hh it a hne items
  · exact Draws.tuple hh it a hne items
theorem drawsGe {P : Program} {w : World} {A : Around} (hh : A.handled = none) (t : Bool) (it a : Addr) (hne : a ≠ it) (items : Array Value) (i : Nat) {h : Heap} (st : ItG t h it a i ∧ IsG t h a items) :
    ∃ n R St, Draws P w A it [it, a] n R St ∧ St i h ∧ i ≤ n ∧ (items.size ≤ i → i = n) := by
  cases t
  · exact drawsL hh it a hne items i st
  · exact drawsT hh it a hne items i st
theorem Inv.seqG {X : Cx} {pins : List (Addr × Obj)} {σ : L2.St} {H : Hp} {s : Shared} {t : Bool} {a : Addr} {xs : List V} (I : L2.Inv X pins σ H s) (h : SqG X.K t H a xs) : ∃ its : List Value, Vals xs its ∧ IsG t s.heap a its.toArray := by
  cases t
  · obtain ⟨its, r, p, _⟩ := I.list h; exact ⟨its, r, p.isList⟩
  · obtain ⟨its, r, p, _⟩ := I.tuple h; exact ⟨its, r, p⟩
theorem Inv.seqG_inj {X : Cx} {pins : List (Addr × Obj)} {σ : L2.St} {H : Hp} {s : Shared} {t : Bool} {a : Addr} {xs ys : List V} (I : L2.Inv X pins σ H s) (h : SqG X.K t H a xs) (h' : SqG X.K t H a ys) : xs = ys := by
  cases t
  · exact I.list_inj h h'
  · exact I.tuple_inj h h'
theorem IsG.lt {t : Bool} {h : Heap} {a : Addr} {xs : Array Value} (x : IsG t h a xs) : a < h.objs.size := by
  cases t
  · obtain ⟨o, e, _⟩ := x; exact Heap.lt_size e
  · obtain ⟨o, e, _⟩ := x; exact Heap.lt_size e
def Iez (K : Frag) (t1 t2 : Bool) (a b : Addr) : It :=
  ⟨fun i H => ∃ (xs ys : List V) (x y : V), SqG K t1 H a xs ∧ SqG K t2 H b ys ∧ xs[i]? = some x ∧ ys[i]? = some y,
    fun i H v H' => ∃ T T2 x y, v = .ref T2 ∧ H T = none ∧ H T2 = none ∧ T2 ≠ T ∧ H' = upd (upd H T (.tup [x, y])) T2 (.tup [.int (i : Nat), .ref T]) ∧ (∀ xs, SqG K t1 H a xs → xs[i]? = some x) ∧ ∀ ys, SqG K t2 H b ys → ys[i]? = some y,
    fun i H => ∃ xs ys : List V, SqG K t1 H a xs ∧ SqG K t2 H b ys ∧ (xs.length ≤ i ∨ ys.length ≤ i)⟩
theorem turn_enumZip {P : Program} {w : World} {K : Frag} {elts : List Expr} {kk : Nat} {tpos : Pos} {t1 t2 : Bool} {a b e z TI TO i1 i2 : Addr} (D : ZipSep2 z TI TO i1 i2 [i1, a] [i2, b]) (na : a ≠ i1) (nb : b ≠ i2)
    (ez : e ≠ z) (eTI : e ≠ TI) (eTO : e ≠ TO) (e1 : e ≠ i1) (e2 : e ≠ i2) (ea : e ≠ a) (eb : e ≠ b) :
    Turn P w K (.Tuple elts kk tpos) (Iez K t1 t2 a b) [e, z, TI, TO, i1, i2] e
      (fun i h => (∃ old, IsEnum h e z ((i : Nat) : Int) old) ∧ (∃ f0 f1, IsZipG h z TI TO f0 f1 ∧ ZLent f0 f1) ∧ IsTupOf2 h TI (.ref i1) (.ref i2) ∧ (∃ x y, IsTupOf2 h TO x y) ∧ ItG t1 h i1 a i ∧ ItG t2 h i2 b i) where
  mem := List.mem_cons_self
  obj := fun i h st c hc => by
    obtain ⟨⟨_, q0⟩, ⟨_, _, q1, _⟩, q2, ⟨_, _, q3⟩, q4, q5⟩ := st
    rcases (show c = e ∨ c = z ∨ c = TI ∨ c = TO ∨ c = i1 ∨ c = i2 by simpa using hc) with rfl | rfl | rfl | rfl | rfl | rfl
    · exact ⟨_, q0, fun v q => nomatch q⟩
    · exact ⟨_, q1, fun v q => nomatch q⟩
    · exact ⟨_, q2, fun v q => nomatch q⟩
    · exact ⟨_, q3, fun v q => nomatch q⟩
    · exact q4.is
    · exact q5.is
  keep := fun i h h' st k =>
    let ⟨⟨o, q0⟩, ⟨f0, f1, q1, l⟩, q2, ⟨x, y, q3⟩, q4, q5⟩ := st
    ⟨⟨o, k e (by simp) _ q0⟩, ⟨f0, f1, k z (by simp) _ q1, l⟩, k TI (by simp) _ q2, ⟨x, y, k TO (by simp) _ q3⟩, q4.at fun o q => k i1 (by simp) o q, q5.at fun o q => k i2 (by simp) o q⟩
  item := by
    intro X p1 p2 p3 hc i pins s σ H E I hf st hg
    subst p1 p2 p3
    obtain ⟨⟨old, q0⟩, ⟨f0, f1, q1, ql⟩, q2, ⟨x0, y0, q3⟩, q4, q5⟩ := st
    obtain ⟨xs, ys, x, y, hqx, hqy, hx, hy⟩ := hg
    obtain ⟨its, rv, pt⟩ := Inv.seqG I hqx
    obtain ⟨its2, rv2, pl⟩ := Inv.seqG I hqy
    obtain ⟨u, hu, ru⟩ := rv.get hx
    obtain ⟨u2, hu2, ru2⟩ := rv2.get hy
    have lt1 : i < its.toArray.size := by have := (List.getElem?_eq_some_iff.mp hu).1; simpa using this
    have lt2 : i < its2.toArray.size := by have := (List.getElem?_eq_some_iff.mp hu2).1; simpa using this
    have hh : X.A.in1.in1.handled = none := I.ok.hd hc
    have le := Heap.lt_size q0
    have lz := Heap.lt_size q1
    have lT := Heap.lt_size q2
    have lO := Heap.lt_size q3
    have l1 : i1 < s.heap.objs.size := by obtain ⟨_, q, _⟩ := q4.is; exact Heap.lt_size q
    have l2 : i2 < s.heap.objs.size := by obtain ⟨_, q, _⟩ := q5.is; exact Heap.lt_size q
    refine enumG_pyNext (W := fun x h1 tk => x = .ref s.heap.objs.size ∧ h1.objs.size = s.heap.objs.size + 1 ∧ IsTupOf2 h1 s.heap.objs.size u u2 ∧ (∃ g0 g1, IsZipG h1 z TI TO g0 g1 ∧ ZLent g0 g1) ∧ IsTupOf2 h1 TI (.ref i1) (.ref i2) ∧ (∃ x y, IsTupOf2 h1 TO x y) ∧
      (ItG t1 h1 i1 a (i + 1)) ∧ (ItG t2 h1 i2 b (i + 1)) ∧ ∀ c o, c ≠ z → c ≠ TO → c ≠ i1 → c ≠ i2 → s.heap.get? c = some o → h1.get? c = some o) q0 (fun E' =>
      zipG_nextOf_item D (drawsG hh t1 i1 a na its.toArray) (drawsG hh t2 i2 b nb its2.toArray) q1 ql q2 q3 ⟨q4, pt⟩ ⟨q5, pl⟩ lt1 lt2 fun v1 v2 h' tk g0 g1 b1 b2 y1 y2 z1 z2 z3 z4 z5 z6 z7 kp => ?_) fun v h1 tk h2 hW hE hT hS hk => ?_
    · have w1 : v1 = u := by rw [List.getElem?_toArray, hu] at y1; exact (Option.some.inj y1).symm
      have w2 : v2 = u2 := by rw [List.getElem?_toArray, hu2] at y2; exact (Option.some.inj y2).symm
      subst w1 w2
      exact ⟨h', tk, rfl, kp e _ ez eTO e1 e2 q0, rfl, z7, z6, ⟨g0, g1, z1, z2⟩, kp _ _ D.TIz D.TITO D.TIi1 D.TIi2 q2, ⟨b1, b2, z3⟩, z4.1, z5.1, kp⟩
    · obtain ⟨rfl, hs1, w1, ⟨g0, g1, w2, w3⟩, w4, ⟨b1, b2, w5⟩, w6, w7, kp⟩ := hW
      refine ⟨_, rfl, wpAny_letOwnedTupleGo_enum (s := { s with heap := h2, toks := tk + 1 }) hE fun h3 he3 sb => ?_⟩
      have up : ∀ c o, c ≠ e → h1.get? c = some o → h3.get? c = some o := fun c o ce q => (sb.2 c ce).trans (hk c o ce q)
      have new1 : ObjOk X.prog X.w (upd H s.heap.objs.size (.tup [x, y])) h1 s.heap.objs.size (.tup [x, y]) := ⟨show 2 ≤ sizeLine by decide, [u, u2], .cons ru (.cons ru2 .nil), ⟨_, w1, rfl, _, rfl⟩⟩
      have I1 : L2.Inv X pins σ (upd H s.heap.objs.size (.tup [x, y])) { s with heap := h1, toks := tk } :=
        L2.Inv.turnedNew (ch := [z, TI, TO, i1, i2]) I (fun c o hb q => kp c o (fun n => hb (by simp [n])) (fun n => hb (by simp [n])) (fun n => hb (by simp [n])) (fun n => hb (by simp [n])) q) (fun c hcm => hf c (List.mem_cons_of_mem _ hcm)) (Nat.le_refl _) new1
      have hne : e ≠ h1.objs.size := by rw [hs1]; exact Nat.ne_of_lt (Nat.lt_succ_of_lt le)
      have hT3 : h3.get? h1.objs.size = some { cls := .type "tuple", data := .seq #[.int i tk, .ref s.heap.objs.size] } := (sb.2 _ (Ne.symm hne)).trans hT
      have new2 : ObjOk X.prog X.w (upd (upd H s.heap.objs.size (.tup [x, y])) h1.objs.size (.tup [.int (i : Nat), .ref s.heap.objs.size])) h3 h1.objs.size (.tup [.int (i : Nat), .ref s.heap.objs.size]) :=
        ⟨show 2 ≤ sizeLine by decide, [.int i tk, .ref s.heap.objs.size], .cons ⟨_, rfl⟩ (.cons rfl .nil), ⟨_, hT3, rfl, _, rfl⟩⟩
      have fe : FpOk X pins (upd H s.heap.objs.size (.tup [x, y])) e := by
        obtain ⟨f0, fr⟩ := hf e (by simp)
        exact ⟨by rw [upd_ne (Nat.ne_of_lt le)]; exact f0, fr⟩
      have I2 : L2.Inv X pins σ (upd (upd H s.heap.objs.size (.tup [x, y])) h1.objs.size (.tup [.int (i : Nat), .ref s.heap.objs.size])) { s with heap := h3, toks := tk + 1 } :=
        L2.Inv.turnedNew (s := { s with heap := h1, toks := tk }) (ch := [e]) I1 (fun c o hb q => up c o (fun n => hb (by simp [n])) q) (fun c hcm => by rw [List.mem_singleton.mp hcm]; exact fe) (Nat.le_refl _) new2
      have hT2 : H h1.objs.size = none := I.hok.fresh (by rw [hs1]; exact Nat.le_succ _)
      refine ⟨.ref h1.objs.size, _, I2, rfl, ⟨s.heap.objs.size, h1.objs.size, x, y, rfl, I.hok.fresh (Nat.le_refl _), hT2, by rw [hs1]; exact Nat.succ_ne_self _, rfl, fun l hl => by rw [Inv.seqG_inj I hl hqx]; exact hx, fun l hl => by rw [Inv.seqG_inj I hl hqy]; exact hy⟩, ⟨⟨.ref s.heap.objs.size, ?_⟩, ⟨g0, g1, up _ _ (Ne.symm ez) w2, w3⟩, up _ _ (Ne.symm eTI) w4, ⟨b1, b2, up _ _ (Ne.symm eTO) w5⟩, w6.at fun o q => up _ o (Ne.symm e1) q, w7.at fun o q => up _ o (Ne.symm e2) q⟩, fun c hcm => ?_⟩
      · rw [show ((i + 1 : Nat) : Int) = (i : Int) + 1 from rfl]; exact he3
      · have : c < s.heap.objs.size := by
          rcases (show c = e ∨ c = z ∨ c = TI ∨ c = TO ∨ c = i1 ∨ c = i2 by simpa using hcm) with rfl | rfl | rfl | rfl | rfl | rfl <;> assumption
        rw [upd_ne (by rw [hs1]; exact Nat.ne_of_lt (Nat.lt_succ_of_lt this)), upd_ne (Nat.ne_of_lt this)]
        exact (hf c hcm).1
  done := by
    intro X p1 p2 p3 hc i pins s σ H E I hf st hg
    subst p1 p2 p3
    obtain ⟨⟨old, q0⟩, ⟨f0, f1, q1, ql⟩, q2, ⟨x0, y0, q3⟩, q4, q5⟩ := st
    obtain ⟨xs, ys, hqx, hqy, g⟩ := hg
    obtain ⟨its, rv, pt⟩ := Inv.seqG I hqx
    obtain ⟨its2, rv2, pl⟩ := Inv.seqG I hqy
    have r1 := rv.length
    have r2 := rv2.length
    have hh : X.A.in1.in1.handled = none := I.ok.hd hc
    obtain ⟨n1, R1, S1, D1, u1, b1, c1⟩ := drawsGe (P := X.prog) (w := X.w) hh t1 i1 a na its.toArray i ⟨q4, pt⟩
    obtain ⟨n2, R2, S2, D2, u2, b2, c2⟩ := drawsGe (P := X.prog) (w := X.w) hh t2 i2 b nb its2.toArray i ⟨q5, pl⟩
    have he : i = n1 ∨ i = n2 := by
      rcases g with g | g
      · exact .inl (c1 (by simp; omega))
      · exact .inr (c2 (by simp; omega))
    refine enumG_end q0 (zipG_nextOf_end D D1 D2 q1 ql q2 q3 u1 u2 b1 b2 he fun h' tk ee kp st => ⟨ee, rfl, st, rfl, ?_⟩)
    exact L2.Inv.turnedL (t' := tk) (ch := [e, z, TI, TO, i1, i2]) I (fun c o hb q => kp c o (fun n => hb (by simp [n])) (fun n => hb (by simp [n])) (fun n => hb (by simp [n])) (fun n => hb (by simp [n])) q) hf
  self := fun A i s Q E st h => wpAny_pyIter_enum st.1.choose_spec h
theorem begG (t : Bool) (a : Addr) (items : Array Value) : ∃ o, Begins (.ref a) o (fun h => IsG t h a items) ∧ ∀ (h : Heap) (it : Addr), h.get? it = some o → ItG t h it a 0 := by
  cases t
  · exact ⟨_, begins_list a items, fun h it e => ⟨_, e, rfl, rfl⟩⟩
  · exact ⟨_, begins_tuple a items, fun h it e => ⟨_, e, rfl, rfl⟩⟩
def iEnumZip (K : Frag) (t1 t2 : Bool) (ta : TA) : TI := fun σ H R => ta σ H fun vs H1 => ∃ a b xs ys, vs = [.ref a, .ref b] ∧ SqG K t1 H1 a xs ∧ SqG K t2 H1 b ys ∧ R (Iez K t1 t2 a b) H1
theorem pi_enumZip {X : Cx} {t1 t2 : Bool} {e e2 : Expr} {ta : TA} {p p2 pos pos2 tpos : Pos} {elts : List Expr} {kk : Nat} (hg : Gl X "enumerate") (hm : X.mg "enumerate" = none) (hg2 : Gl X "zip") (hm2 : X.mg "zip" = none) (ha : PA X [e, e2] ta)
    (hs : starEach [e, e2] X.env = (false, eval e X.env) :: starEach [e2] X.env := by rfl) (hpl : (backTo pos2 (starEach [e2] X.env)).any (·.1) = false := by rfl)
    (na : starEach [Expr.Call (.Name "zip" p2) [e, e2] [] pos2] X.env = (false, eval (Expr.Call (.Name "zip" p2) [e, e2] [] pos2) X.env) :: starEach [] X.env := by rfl) :
    PI X (.Tuple elts kk tpos) (.Call (.Name "enumerate" p) [.Call (.Name "zip" p2) [e, e2] [] pos2] [] pos) (iEnumZip X.K t1 t2 ta) := by
  refine ⟨fun pins s σ H R I h => Call_ (ld_blt I hg hm boot_enumerate (PyProof.Rows.callWith_type1 (PyProof.Rows.args_cons (Call_ (ld_blt I hg2 hm2 PyProof.Rows.boot_zip (PyProof.Rows.callWith_type1 (thn (ha.run pos2 pins s σ H _ I h) fun us s1 ⟨vs, H1, I1, r1, q1⟩ => ?_) hs hpl))) na) na rfl))⟩
  obtain ⟨a, b, xs, ys, rfl, hqx, hqy, q⟩ := q1
  cases r1 with
  | cons r rr =>
    cases rr with
    | cons r' rr =>
      cases rr
      cases r
      cases r'
      obtain ⟨its, rv, pt⟩ := Inv.seqG I1 hqx
      obtain ⟨its2, rv2, pl⟩ := Inv.seqG I1 hqy
      have la : a < s1.heap.objs.size := pt.lt
      have lb : b < s1.heap.objs.size := pl.lt
      obtain ⟨o1, B1, k1⟩ := begG t1 a its.toArray
      obtain ⟨o2, B2, k2⟩ := begG t2 b its2.toArray
      refine zip_begins2 B1 B2 pt pl fun h' z1 z2 z3 z4 z5 hsz hk => PyProof.Rows.args_nil ?_
      refine enumZ_call (s := { s1 with heap := h' }) z1 fun h2 en hk2 => wpAny_pyIter_enum en ?_
      have en : IsEnum h2 h'.objs.size (s1.heap.objs.size + 4) 0 .none := en
      have hk2 : ∀ b o, h'.get? b = some o → h2.get? b = some o := hk2
      rw [hsz] at en
      have I2 : L2.Inv X pins σ H1 { s1 with heap := h2 } := I1.kept (t' := s1.toks) fun b o e => hk2 b o (hk b o e)
      have hv : (Value.ref h'.objs.size) = .ref (s1.heap.objs.size + 5) := by rw [hsz]
      refine ⟨s1.heap.objs.size + 5, [s1.heap.objs.size + 5, s1.heap.objs.size + 4, s1.heap.objs.size + 2, s1.heap.objs.size + 3, s1.heap.objs.size, s1.heap.objs.size + 1], _, _, H1, hv, I2,
        turn_enumZip (t1 := t1) (t2 := t2) (zip_sep2 (fp1 := [a]) (fp2 := [b]) (fun c hc => by rw [List.mem_singleton.mp hc]; exact la) fun c hc => by rw [List.mem_singleton.mp hc]; exact lb) (Nat.ne_of_lt la) (Nat.ne_of_lt (Nat.lt_succ_of_lt lb))
          (show (s1.heap.objs.size + 5 : Nat) ≠ _ by omega) (show (s1.heap.objs.size + 5 : Nat) ≠ _ by omega) (show (s1.heap.objs.size + 5 : Nat) ≠ _ by omega) (show (s1.heap.objs.size + 5 : Nat) ≠ _ by omega) (show (s1.heap.objs.size + 5 : Nat) ≠ _ by omega) (Nat.ne_of_gt (Nat.lt_of_lt_of_le la (Nat.le_add_right _ _))) (Nat.ne_of_gt (Nat.lt_of_lt_of_le lb (Nat.le_add_right _ _))),
        ⟨⟨_, en⟩, ⟨_, _, hk2 _ _ z1, .inl rfl⟩, hk2 _ _ z2, ⟨_, _, hk2 _ _ z3⟩, k1 _ _ (hk2 _ _ z4), k2 _ _ (hk2 _ _ z5)⟩, fun c hcm => ?_, q⟩
      have hle : s1.heap.objs.size ≤ c := by
        rcases (show c = s1.heap.objs.size + 5 ∨ c = s1.heap.objs.size + 4 ∨ c = s1.heap.objs.size + 2 ∨ c = s1.heap.objs.size + 3 ∨ c = s1.heap.objs.size ∨ c = s1.heap.objs.size + 1 by simpa using hcm) with n | n | n | n | n | n <;> rw [n]
        · exact Nat.le_add_right _ _
        · exact Nat.le_add_right _ _
        · exact Nat.le_add_right _ _
        · exact Nat.le_add_right _ _
        · exact Nat.le_refl _
        · exact Nat.le_add_right _ _
      exact I1.fpOk hle (I1.hok.fresh hle)
section
variable {X : Cx} {B : Bd} {S S1 : Nz.S} {τ : Type} {enc : τ → D}
/-- how a list of things stands as data -/
def eG (t : Bool) (enc : τ → D) (xs : List τ) : D := match t with | true => eU enc xs | false => eL enc xs
theorem RepG {t : Bool} {K : Frag} {mg : Mg} {F : Hp} {xs : List τ} {v : V} (r : Rep K mg F (eG t enc xs) v) : ∃ a vs, v = .ref a ∧ SqG K t F a vs ∧ Reps K mg F (xs.map enc) vs := by
  cases t
  · cases r with
    | lst h1 h2 => exact ⟨_, _, rfl, h1, h2⟩
  · cases r with
    | tup h1 h2 => exact ⟨_, _, rfl, h1, h2⟩
theorem sameG {K : Frag} {H H' : Hp} {t : Bool} {a : Addr} {xs : List V} (e : Same H H') (h : SqG K t H a xs) : SqG K t H' a xs := by
  cases t
  · exact e.seq h
  · exact e.seqT h
theorem src_enumZip (t1 t2 : Bool) {μ : Type} {encB : μ → D} {xs : List τ} {ys : List μ} {e e2 : Expr} {elts : List Expr} {kk : Nat} {tpos pos pos2 p p2 : Pos} (h : Ea X B [e, e2] S [.fr (eG t1 enc xs), .fr (eG t2 encB ys)] S1)
    (hg : Gl X "enumerate") (hm : X.mg "enumerate" = none) (hg2 : Gl X "zip") (hm2 : X.mg "zip" = none)
    (hs : starEach [e, e2] X.env = (false, eval e X.env) :: starEach [e2] X.env := by rfl) (hpl : (backTo pos2 (starEach [e2] X.env)).any (·.1) = false := by rfl)
    (na : starEach [Expr.Call (.Name "zip" p2) [e, e2] [] pos2] X.env = (false, eval (Expr.Call (.Name "zip" p2) [e, e2] [] pos2) X.env) :: starEach [] X.env := by rfl) :
    Src X B (.Tuple elts kk tpos) (.Call (.Name "enumerate" p) [.Call (.Name "zip" p2) [e, e2] [] pos2] [] pos) S ((enL 0 (xs.zip ys)).map (eT2 D.int (eT2 enc encB))) S1 := by
  rw [← enD_map]
  exact fun F α H σ R RR k => wI.of (pi_enumZip hg hm hg2 hm2 pa_w hs hpl na) (h F α H σ _ RR fun F1 α1 v1 H1 R1 st1 r1 => by
    have r := CRels.fr (ds := [eG t1 enc xs, eG t2 encB ys]) r1
    cases r with
    | cons q rr =>
      cases rr with
      | cons q2 rr2 =>
        cases rr2
        obtain ⟨a, vs, rfl, h1, h2⟩ := RepG q
        obtain ⟨b, us, rfl, g1, g2⟩ := RepG q2
        have hlen : (enD 0 ((xs.zip ys).map (eT2 enc encB))).length = min vs.length us.length := by
          rw [enD_length, List.length_map, List.length_zip, ← h2.length, ← g2.length, List.length_map, List.length_map]
        refine ⟨a, b, vs, us, rfl, sameG R1.sub h1, sameG R1.sub g1, k F1 α1 H1 _ R1 st1 ⟨fun B F' α H σ S i d R' hs hi => ?_, fun B F' α H σ S i R' hs hi => ⟨vs, us, sameG R'.sub (sameG hs h1), sameG R'.sub (sameG hs g1), by rw [hlen] at hi; omega⟩⟩⟩
        obtain ⟨e', hi', rfl⟩ := enD_at hi
        rw [List.getElem?_map] at hi'
        cases hz : (xs.zip ys)[i]? with
        | none => rw [hz] at hi'; cases hi'
        | some pr =>
          rw [hz] at hi'
          have hd : e' = eT2 enc encB pr := (Option.some.inj hi').symm
          subst hd
          obtain ⟨z1, z2⟩ := List.getElem?_zip_eq_some.mp hz
          obtain ⟨v, hv, rv⟩ := h2.get (show (xs.map enc)[i]? = some (enc pr.1) by rw [List.getElem?_map, z1]; rfl)
          obtain ⟨u, hu, ru⟩ := g2.get (show (ys.map encB)[i]? = some (encB pr.2) by rw [List.getElem?_map, z2]; rfl)
          refine ⟨⟨vs, us, v, u, sameG R'.sub (sameG hs h1), sameG R'.sub (sameG hs g1), hv, hu⟩, fun x H' y => ?_⟩
          obtain ⟨T, T2, x1, y1, rfl, hT, hT2, hne, rfl, y2, y3⟩ := y
          have e1 := y2 vs (sameG R'.sub (sameG hs h1))
          have e2 := y3 us (sameG R'.sub (sameG hs g1))
          rw [hv] at e1; rw [hu] at e2; cases e1; cases e2
          have R2 := R'.allocF (o := .tup [v, u]) hT
          have hT2' : upd H T (.tup [v, u]) T2 = none := by rw [upd_ne hne]; exact hT2
          have s1 := same_upd (o := .tup [v, u]) (R'.fresh hT)
          have s2 := same_upd (o := .tup [.int (i : Nat), .ref T]) (R2.fresh hT2')
          refine ⟨_, R2.allocF hT2', s1.trans s2, .tup (SqT.of upd_same) (.cons ?_ (.cons (Rep.mono s2 (.tup (SqT.of upd_same) (.cons ((rv.mono hs).mono s1) (.cons ((ru.mono hs).mono s1) .nil)))) .nil))⟩
          rw [Nat.zero_add]; exact .int _)
end
end Nz
namespace Nz
open PySem PySem.Spec PyProof.Rows L2
mutual
def noM : D → Bool
  | .tup xs => noMs xs
  | .obj _ fs => noMf fs
  | .lst _ => false
  | _ => true
def noMs : List D → Bool
  | [] => true
  | d :: ds => noM d && noMs ds
def noMf : List (Str × D) → Bool
  | [] => true
  | p :: ds => noMp p && noMf ds
def noMp : Str × D → Bool
  | (_, d) => noM d
end
structure NoM {τ : Type} (e : τ → D) : Prop where
  ok : ∀ x, noM (e x) = true
theorem nm_int : NoM D.int := ⟨fun _ => rfl⟩
theorem nm_str : NoM D.str := ⟨fun _ => rfl⟩
section
variable {τ μ ν κ ι : Type} {e : τ → D} {f : μ → D} {g : ν → D} {h : κ → D} {j : ι → D}
theorem nm_T2 (a : NoM e) (b : NoM f) : NoM (eT2 e f) := ⟨fun x => by simp [noM, noMs, a.ok, b.ok]⟩
end
section
variable {K : Frag} {mg : Mg} {F F' : Hp}
theorem sqT_keep (hT : ∀ a o, F a = some o → (∀ ws, o ≠ .lst ws) → F' a = some o) {a : Addr} {vs : List V} (q : SqT K F a vs) : SqT K F' a vs := by
  rcases q with (q | ⟨o, q⟩) | q
  · exact .inl (.inl (hT _ _ q fun ws z => by cases z))
  · exact .inl (.inr ⟨o, hT _ _ q fun ws z => by cases z⟩)
  · exact .inr q
mutual
theorem Rep.lentM (hT : ∀ a o, F a = some o → (∀ ws, o ≠ .lst ws) → F' a = some o) : ∀ {d : D} {v : V}, noM d = true → Rep K mg F d v → Rep K mg F' d v
  | .non, _, _, .non => .non
  | .bl _, _, _, .bl b => .bl b
  | .int _, _, _, .int i => .int i
  | .str _, _, _, .str s => .str s
  | .tup _, _, h, .tup h1 h2 => .tup (sqT_keep hT h1) (Reps.lentM hT (by simpa [noM] using h) h2)
  | .lst _, _, h, .lst _ _ => by simp [noM] at h
  | .obj _ _, _, h, .obj m h1 h2 r => .obj m (hT _ _ h1 fun ws z => by cases z) (hT _ _ h2 fun ws z => by cases z) (RepF.lentM hT (by simpa [noM] using h) r)
theorem Reps.lentM (hT : ∀ a o, F a = some o → (∀ ws, o ≠ .lst ws) → F' a = some o) : ∀ {ds : List D} {vs : List V}, noMs ds = true → Reps K mg F ds vs → Reps K mg F' ds vs
  | [], _, _, .nil => .nil
  | _ :: _, _, h, .cons h1 h2 => by
    rw [noMs, Bool.and_eq_true] at h
    exact .cons (Rep.lentM hT h.1 h1) (Reps.lentM hT h.2 h2)
theorem RepF.lentM (hT : ∀ a o, F a = some o → (∀ ws, o ≠ .lst ws) → F' a = some o) : ∀ {ds : List (Str × D)} {vs : List (Str × V)}, noMf ds = true → RepF K mg F ds vs → RepF K mg F' ds vs
  | [], _, _, .nil => .nil
  | (_, _) :: _, _, h, .cons h1 h2 => by
    rw [noMf, Bool.and_eq_true] at h
    exact .cons (Rep.lentM hT (by simpa [noMp] using h.1) h1) (RepF.lentM hT h.2 h2)
end
end
end Nz
namespace PySem
open AutoSeq1
end PySem
namespace Nz
open PySem PySem.Spec PyProof.Rows L2
end Nz
namespace Nz
open PySem PySem.Spec PyProof.Rows L2
end Nz
namespace Nz
open PySem PySem.Spec PyProof.Rows L2
end Nz
namespace L2
open PySem PySem.Spec PyProof.Rows
end L2
namespace Nz
open PySem PySem.Spec PyProof.Rows L2
/-- the class of what was raised -/
def isC (zx : Exn) (c : Str) : Prop := zx.c = c
instance {zx : Exn} {c : Str} : Decidable (isC zx c) := inferInstanceAs (Decidable (zx.c = c))
end Nz
namespace Nz
open PySem PySem.Spec PyProof.Rows L2 SkE TL
abbrev eD : D → D := fun d => d
end Nz
namespace L2
open PySem PySem.Spec PyProof.Rows
end L2
namespace Nz
open PySem PySem.Spec PyProof.Rows L2 SkE TL
end Nz
namespace Nz
open PySem PySem.Spec PyProof.Rows L2
end Nz
namespace Nz
open PySem PySem.Spec PyProof.Rows L2 SkE TL
end Nz
namespace Nz
open PySem PySem.Spec PyProof.Rows L2 SkE TL
end Nz
namespace Nz
open PySem PySem.Spec PyProof.Rows L2
section
variable {τ : Type}
def inL (e : τ → D) : Nat → List (List τ) → List (Nat × LO)
  | _, [] => []
  | b, x :: r => (b, .fl (x.map e)) :: inL e (b + 1) r
def ceL : Nat → Nat → List Ce
  | _, 0 => []
  | b, k + 1 => .ad b :: ceL (b + 1) k
def nest (n b : Nat) (e : τ → D) (xss : List (List τ)) : List (Nat × LO) := (n, .cl (ceL b xss.length)) :: inL e b xss
theorem inL_append (e : τ → D) : ∀ (xss yss : List (List τ)) (b : Nat), inL e b (xss ++ yss) = inL e b xss ++ inL e (b + xss.length) yss
  | [], yss, b => rfl
  | x :: r, yss, b => by
    show (b, LO.fl (x.map e)) :: inL e (b + 1) (r ++ yss) = _ :: (inL e (b + 1) r ++ _)
    rw [inL_append e r yss (b + 1), List.length_cons, show b + 1 + r.length = b + (r.length + 1) by omega]
theorem ceL_add : ∀ (m k b : Nat), ceL b (m + k) = ceL b m ++ ceL (b + m) k
  | 0, k, b => by rw [Nat.zero_add]; rfl
  | m + 1, k, b => by
    rw [show m + 1 + k = (m + k) + 1 by omega]
    show Ce.ad b :: ceL (b + 1) (m + k) = _ :: (ceL (b + 1) m ++ _)
    rw [ceL_add m k (b + 1), show b + 1 + m = b + (m + 1) by omega]
theorem mem_inL {e : τ → D} : ∀ {xss : List (List τ)} {b k : Nat} {o : LO}, (k, o) ∈ inL e b xss ↔ ∃ i x, xss[i]? = some x ∧ k = b + i ∧ o = .fl (x.map e)
  | [], b, k, o => by simp [inL]
  | x :: r, b, k, o => by
    unfold inL
    rw [List.mem_cons, mem_inL]
    constructor
    · rintro (h | ⟨i, y, h1, h2, h3⟩)
      · cases h; exact ⟨0, x, rfl, rfl, rfl⟩
      · exact ⟨i + 1, y, h1, by omega, h3⟩
    · rintro ⟨i, y, h1, h2, h3⟩
      cases i with
      | zero =>
        have : x = y := by simpa using h1
        subst this
        left; rw [h2, h3]; rfl
      | succ i => exact .inr ⟨i, y, by simpa using h1, by omega, h3⟩
theorem names_inL {e : τ → D} {xss : List (List τ)} {b k : Nat} : k ∈ names (inL e b xss) ↔ b ≤ k ∧ k < b + xss.length := by
  constructor
  · intro h
    obtain ⟨⟨k', o⟩, h1, h2⟩ := List.mem_map.mp h
    cases h2
    obtain ⟨i, x, h3, h4, _⟩ := mem_inL.mp h1
    have := (List.getElem?_eq_some_iff.mp h3).1
    show b ≤ k' ∧ k' < b + xss.length
    omega
  · rintro ⟨h1, h2⟩
    have hi : k - b < xss.length := by omega
    exact List.mem_map.mpr ⟨(k, .fl (xss[k - b].map e)), mem_inL.mpr ⟨k - b, _, List.getElem?_eq_getElem hi, by omega, rfl⟩, rfl⟩
theorem names_nest {e : τ → D} {xss : List (List τ)} {n b k : Nat} : k ∈ names (nest n b e xss) ↔ k = n ∨ (b ≤ k ∧ k < b + xss.length) := by
  show k ∈ n :: names (inL e b xss) ↔ _
  rw [List.mem_cons, names_inL]
theorem names_app (L M : List (Nat × LO)) : names (L ++ M) = names L ++ names M := by simp [names]
end
section
variable {K : Frag} {mg : Mg} {B : Bd} {F F' : Hp} {α α' : Nat → Addr} {H H' : Hp} {σ : L2.St} {S : Nz.S} {L L' P : List (Nat × LO)} {ρ : List (Option Ce)} {τ : Type} {e : τ → D} {xss yss : List (List τ)} {n b m k : Nat}
theorem crels_ceL : ∀ {k b : Nat} {vs : List V}, CRels K mg F α L (ceL b k) vs → vs.length = k ∧ ∀ i, i < k → vs[i]? = some (.ref (α (b + i))) ∧ b + i ∈ names L
  | 0, b, vs, h => by cases h; exact ⟨rfl, fun i hi => by omega⟩
  | k + 1, b, vs, h => by
    cases h with
    | cons h r =>
      obtain ⟨h1, h2⟩ := crels_ceL r
      refine ⟨by rw [List.length_cons, h1], fun i hi => ?_⟩
      cases i with
      | zero => exact ⟨by rw [h.2]; rfl, h.1⟩
      | succ i =>
        have := h2 i (by omega)
        rw [show b + (i + 1) = b + 1 + i by omega]
        exact ⟨by simpa using this.1, this.2⟩
theorem crels_ceL_of : ∀ {k b : Nat}, (∀ i, i < k → b + i ∈ names L) → CRels K mg F α L (ceL b k) ((List.range k).map fun i => .ref (α (b + i)))
  | 0, b, h => .nil
  | k + 1, b, h => by
    rw [List.range_succ_eq_map, List.map_cons, List.map_map]
    refine .cons ⟨h 0 (by omega), rfl⟩ ?_
    have : CRels K mg F α L (ceL (b + 1) k) ((List.range k).map fun i => .ref (α (b + 1 + i))) := crels_ceL_of (fun i hi => by rw [show b + 1 + i = b + (i + 1) by omega]; exact h (i + 1) (by omega))
    have e : (List.range k).map ((fun i => V.ref (α (b + i))) ∘ Nat.succ) = (List.range k).map fun i => V.ref (α (b + 1 + i)) := List.map_congr_left fun i _ => by
      show V.ref (α (b + (i + 1))) = _
      rw [show b + (i + 1) = b + 1 + i by omega]
    rw [e]; exact this
/-- the order of what lives is of no account -/
theorem Rel.permL (R : Rel K mg B F α H σ ⟨ρ, L⟩) (hnd : (names L').Nodup) (h : ∀ p, p ∈ L' ↔ p ∈ L) : Rel K mg B F α H σ ⟨ρ, L'⟩ := by
  have hn : ∀ k, k ∈ names L' ↔ k ∈ names L := fun k => by
    constructor
    · intro q; obtain ⟨p, h1, h2⟩ := List.mem_map.mp q; exact List.mem_map.mpr ⟨p, (h p).mp h1, h2⟩
    · intro q; obtain ⟨p, h1, h2⟩ := List.mem_map.mp q; exact List.mem_map.mpr ⟨p, (h p).mpr h1, h2⟩
  have st : Stp F α L F α := Stp.refl
  exact ⟨R.sub, R.bF, R.nF, R.frame, hnd, fun a b ha hb => R.inj a b ((hn a).mp ha) ((hn b).mp hb), fun n o hm => by
    obtain ⟨h1, h2, h3⟩ := R.live n o ((h _).mp hm)
    exact ⟨h1, h2, h3.step st (fun k q => (hn k).mpr q) (fun _ _ z => z) fun b u z => .inl z⟩, R.slots.step st fun k q => (hn k).mpr q, fun n a q hm => R.fix n a q ((hn n).mp hm)⟩
theorem Rel.perm (R : Rel K mg B F α H σ ⟨ρ, L⟩) (h : L.Perm L') : Rel K mg B F α H σ ⟨ρ, L'⟩ :=
  R.permL ((h.map _).nodup_iff.mp R.nd) fun p => h.mem_iff.symm
/-- a number is put for another one -/
def nuO (m n : Nat) : LO → LO
  | .fl ds => .fl ds
  | .cl cs => .cl (cs.map (nuC m n))
  | .ins c fs => .ins c (fs.map fun p => (p.1, nuC m n p.2))
  | .dT kvs => .dT kvs
  | .dK kvs => .dK (kvs.map fun p => (p.1, nuC m n p.2))
def rnN (m n k : Nat) : Nat := if k = m then n else k
def rnL (m n : Nat) (L : List (Nat × LO)) : List (Nat × LO) := L.map fun p => (rnN m n p.1, nuO m n p.2)
theorem names_rnL {m n : Nat} : names (rnL m n L) = (names L).map (rnN m n) := by simp [names, rnL]
theorem crel_rn (hn : n ∉ names L) (hm : m ∈ names L) : ∀ {c : Ce} {v : V}, CRel K mg F α L c v → CRel K mg F (setα α n (α m)) (rnL m n L) (nuC m n c) v
  | .fr _, _, h => h
  | .xv _, _, h => h
  | .ad k, _, ⟨h1, h2⟩ => by
    subst h2
    show CRel K mg F _ _ (if k = m then .ad n else .ad k) _
    by_cases q : k = m
    · subst q
      rw [if_pos rfl]
      refine ⟨by rw [names_rnL]; exact List.mem_map.mpr ⟨k, h1, if_pos rfl⟩, ?_⟩
      show V.ref (α k) = V.ref (if n = n then α k else α n)
      rw [if_pos rfl]
    · rw [if_neg q]
      refine ⟨by rw [names_rnL]; exact List.mem_map.mpr ⟨k, h1, if_neg q⟩, ?_⟩
      show V.ref (α k) = V.ref (if k = n then α m else α k)
      rw [if_neg (fun z : k = n => hn (by rw [← z]; exact h1))]
theorem crels_rn (hn : n ∉ names L) (hm : m ∈ names L) : ∀ {c : List Ce} {v : List V}, CRels K mg F α L c v → CRels K mg F (setα α n (α m)) (rnL m n L) (c.map (nuC m n)) v
  | _, _, .nil => .nil
  | _, _, .cons h r => .cons (crel_rn hn hm h) (crels_rn hn hm r)
theorem crelf_rn (hn : n ∉ names L) (hm : m ∈ names L) : ∀ {c : List (Str × Ce)} {v : List (Str × V)}, CRelF K mg F α L c v → CRelF K mg F (setα α n (α m)) (rnL m n L) (c.map fun p => (p.1, nuC m n p.2)) v
  | _, _, .nil => .nil
  | _, _, .cons h r => .cons (crel_rn hn hm h) (crelf_rn hn hm r)
theorem crelk_rn {κ : Type} (hn : n ∉ names L) (hm : m ∈ names L) : ∀ {c : List (κ × Ce)} {v : List (κ × V)}, CRelK K mg F α L c v → CRelK K mg F (setα α n (α m)) (rnL m n L) (c.map fun p => (p.1, nuC m n p.2)) v
  | _, _, .nil => .nil
  | _, _, .cons h r => .cons (crel_rn hn hm h) (crelk_rn hn hm r)
theorem slr_rn (hn : n ∉ names L) (hm : m ∈ names L) : ∀ {ρ : List (Option Ce)} {σ : L2.St}, SlR K mg F α L ρ σ → SlR K mg F (setα α n (α m)) (rnL m n L) (ρ.map (Option.map (nuC m n))) σ
  | _, _, .nil => .nil
  | _, _, .no r => .no (slr_rn hn hm r)
  | _, _, .so h r => .so (crel_rn hn hm h) (slr_rn hn hm r)
theorem Rel.rename (R : Rel K mg B F α H σ ⟨ρ, L⟩) (hm : m ∈ names L) (hn : n ∉ names L) (h100 : 100 ≤ n) : Rel K mg B F (setα α n (α m)) H σ ⟨ρ.map (Option.map (nuC m n)), rnL m n L⟩ := by
  have key : ∀ a, a ∈ names L → setα α n (α m) (rnN m n a) = α a := fun a ha => by
    unfold rnN setα
    by_cases q : a = m
    · subst q; rw [if_pos rfl, if_pos rfl]
    · rw [if_neg q, if_neg (fun z : a = n => hn (by rw [← z]; exact ha))]
  have rinj : ∀ a b, a ∈ names L → b ∈ names L → rnN m n a = rnN m n b → a = b := fun a b ha hb h => R.inj a b ha hb (by rw [← key a ha, ← key b hb, h])
  refine ⟨R.sub, R.bF, R.nF, R.frame, ?_, fun a b ha hb h => ?_, fun k o hk => ?_, slr_rn hn hm R.slots, fun k a h hk => ?_⟩
  · show (names (rnL m n L)).Nodup
    rw [names_rnL]
    exact List.pairwise_map.mpr (List.Pairwise.imp_of_mem (fun {a b} ha hb hab q => hab (rinj a b ha hb q)) R.nd)
  · have ha : a ∈ names (rnL m n L) := ha
    have hb : b ∈ names (rnL m n L) := hb
    rw [names_rnL] at ha hb
    obtain ⟨a', h1, rfl⟩ := List.mem_map.mp ha
    obtain ⟨b', h2, rfl⟩ := List.mem_map.mp hb
    rw [key a' h1, key b' h2] at h
    rw [R.inj a' b' h1 h2 h]
  · obtain ⟨⟨k', o'⟩, h1, h2⟩ := List.mem_map.mp hk
    cases h2
    obtain ⟨g0, g1, g2⟩ := R.live k' o' h1
    show F (setα α n (α m) (rnN m n k')) = none ∧ (B.H0 (setα α n (α m) (rnN m n k')) = none ∨ B.fp (setα α n (α m) (rnN m n k'))) ∧ LAt K mg B F (setα α n (α m)) (rnL m n L) H (setα α n (α m) (rnN m n k')) (nuO m n o')
    rw [key k' (mem_names h1)]
    refine ⟨g0, g1, ?_⟩
    cases o' with
    | fl ds => exact g2
    | cl cs => obtain ⟨vs, e1, r1⟩ := g2; exact ⟨vs, e1, crels_rn hn hm r1⟩
    | ins c fs => obtain ⟨C, dx, vs, m1, e1, e2, e3, e4, r1⟩ := g2; exact ⟨C, dx, vs, m1, e1, e2, e3, e4, crelf_rn hn hm r1⟩
    | dT kvs => exact g2
    | dK kvs => obtain ⟨vs, e1, r1⟩ := g2; exact ⟨vs, e1, crelk_rn hn hm r1⟩
  · have hk : k ∈ names (rnL m n L) := hk
    rw [names_rnL] at hk
    obtain ⟨k', h1, rfl⟩ := List.mem_map.mp hk
    rw [key k' h1]
    unfold rnN at h
    by_cases q : k' = m
    · rw [if_pos q, B.hpa n h100] at h; cases h
    · rw [if_neg q] at h; exact R.fix k' a h h1
theorem setL_appR {u : LO} (h : n ∉ names P) (Q : List (Nat × LO)) : setL n u (P ++ Q) = P ++ setL n u Q := by
  induction P with
  | nil => rfl
  | cons p r ih =>
    obtain ⟨k, o⟩ := p
    show (if n = k then (k, u) :: (r ++ Q) else (k, o) :: setL n u (r ++ Q)) = _
    rw [if_neg (fun z => h (by rw [z]; exact List.mem_cons_self)), ih fun z => h (List.mem_cons_of_mem _ z)]
    rfl
end
end Nz
namespace Nz
open PySem PySem.Spec PyProof.Rows L2
section
variable {τ : Type} {e : τ → D}
theorem getL_appR {P Q : List (Nat × LO)} {k : Nat} (h : k ∉ names P) : getL k (P ++ Q) = getL k Q := by
  induction P with
  | nil => rfl
  | cons p r ih =>
    obtain ⟨m, o⟩ := p
    show (if k = m then some o else getL k (r ++ Q)) = _
    rw [if_neg (fun z => h (by rw [z]; exact List.mem_cons_self)), ih fun z => h (List.mem_cons_of_mem _ z)]
theorem getL_inL : ∀ {xss : List (List τ)} {b i : Nat} {x : List τ}, xss[i]? = some x → getL (b + i) (inL e b xss) = some (.fl (x.map e))
  | y :: r, b, 0, x, h => by
    have : y = x := by simpa using h
    subst this
    show (if b + 0 = b then _ else getL (b + 0) (inL e (b + 1) r)) = _
    rw [if_pos (Nat.add_zero b)]
  | y :: r, b, i + 1, x, h => by
    show (if b + (i + 1) = b then _ else getL (b + (i + 1)) (inL e (b + 1) r)) = _
    rw [if_neg (by omega), show b + (i + 1) = b + 1 + i by omega]
    exact getL_inL (by simpa using h)
theorem getL_nest {P : List (Nat × LO)} {n b i : Nat} {xss : List (List τ)} {x : List τ} (hP : b + i ∉ names P) (hn : n < b) (h : xss[i]? = some x) : getL (b + i) (P ++ nest n b e xss) = some (.fl (x.map e)) := by
  rw [getL_appR hP]
  show (if b + i = n then _ else getL (b + i) (inL e b xss)) = _
  rw [if_neg (by omega)]
  exact getL_inL h
theorem boOf_ce {L : List (Nat × LO)} : ∀ {xss : List (List τ)} {b : Nat}, (∀ i x, xss[i]? = some x → getL (b + i) L = some (.fl (x.map e))) → boOf L (ceL b xss.length) = some (xss.map (eL e))
  | [], _, _ => rfl
  | x :: r, b, h => by
    have h0 := h 0 x rfl
    rw [Nat.add_zero] at h0
    have ih := boOf_ce (L := L) (xss := r) (b := b + 1) fun i y hy => by
      rw [show b + 1 + i = b + (i + 1) by omega]
      exact h (i + 1) y (by simpa using hy)
    show (match getL b L with | some (.fl xs) => (boOf L (ceL (b + 1) r.length)).map (D.lst xs :: ·) | _ => none) = _
    rw [h0, ih]; rfl
/-- all numbers are less than b -/
def belowB (b : Nat) (L : List (Nat × LO)) : Bool := L.all fun p => decide (p.1 < b)
theorem belowB_ok {b : Nat} {L : List (Nat × LO)} (h : belowB b L = true) {k : Nat} (hk : k ∈ names L) : k < b := by
  obtain ⟨p, h1, rfl⟩ := List.mem_map.mp hk
  have := List.all_eq_true.mp h p h1
  exact of_decide_eq_true this
end
section
def isLs : LO → Bool
  | .fl _ => true
  | .cl _ => true
  | _ => false
def lentN (α : Nat → Addr) (L : List (Nat × LO)) (b : Addr) : Prop := ∃ n o, (n, o) ∈ L ∧ isLs o = true ∧ b = α n
open Classical in
noncomputable def lendN (F H : Hp) (α : Nat → Addr) (L : List (Nat × LO)) : Hp := fun b => if lentN α L b then H b else F b
open Classical in
noncomputable def unlendN (F : Hp) (α : Nat → Addr) (L : List (Nat × LO)) : Hp := fun b => if lentN α L b then none else F b
variable {K : Frag} {mg : Mg} {B : Bd} {F F' : Hp} {α α' : Nat → Addr} {H H' : Hp} {σ σ' : L2.St} {S S' : Nz.S}
theorem Rel.lentN_none (R : Rel K mg B F α H σ S) {b : Addr} (h : lentN α S.L b) : F b = none := by
  obtain ⟨n, xs, h1, _, rfl⟩ := h
  exact (R.live n _ h1).1
theorem Rel.lentN_lst (R : Rel K mg B F α H σ S) {b : Addr} (h : lentN α S.L b) : ∃ vs, H b = some (.lst vs) := by
  obtain ⟨n, o, h1, h2, rfl⟩ := h
  cases o with
  | fl xs => obtain ⟨_, _, vs, e, _⟩ := R.live n _ h1; exact ⟨vs, e⟩
  | cl xs => obtain ⟨_, _, vs, e, _⟩ := R.live n _ h1; exact ⟨vs, e⟩
  | ins _ _ => cases h2
  | dT _ => cases h2
  | dK _ => cases h2
theorem Rel.lendN_same (R : Rel K mg B F α H σ S) : Same F (lendN F H α S.L) := fun b o e => by
  unfold lendN
  by_cases h : lentN α S.L b
  · rw [R.lentN_none h] at e; cases e
  · rw [if_neg h]; exact e
theorem Rel.lendN_sub (R : Rel K mg B F α H σ S) : Same (lendN F H α S.L) H := fun b o e => by
  unfold lendN at e
  by_cases h : lentN α S.L b
  · rw [if_pos h] at e; exact e
  · rw [if_neg h] at e; exact R.sub b o e
theorem Rel.lendN_reps (R : Rel K mg B F α H σ S) : ∀ {cs : List Ce} {ds : List D} {vs : List V}, boOf S.L cs = some ds → CRels K mg F α S.L cs vs → Reps K mg (lendN F H α S.L) ds vs
  | [], ds, _, h, .nil => by cases h; exact .nil
  | .fr d :: cs, ds, _, h, .cons r rs => by
    unfold boOf at h
    cases q : boOf S.L cs with
    | none => rw [q] at h; cases h
    | some ds' =>
      rw [q] at h; cases h
      exact .cons (Rep.mono R.lendN_same (show Rep K mg F d _ from r)) (R.lendN_reps q rs)
  | .ad n :: cs, ds, _, h, .cons r rs => by
    unfold boOf at h
    split at h
    · rename_i xs hx
      cases q : boOf S.L cs with
      | none => rw [q] at h; cases h
      | some ds' =>
        rw [q] at h; cases h
        obtain ⟨hn, rfl⟩ := r
        obtain ⟨f0, f1, us, e1, rs1⟩ := R.live n _ (getL_mem hx)
        refine .cons (.lst (SqL.of ?_) (rs1.mono R.lendN_same)) (R.lendN_reps q rs)
        unfold lendN
        rw [if_pos ⟨n, _, getL_mem hx, rfl, rfl⟩]; exact e1
    · cases h
  | .xv _ :: cs, ds, _, h, .cons r rs => by simp [boOf] at h
theorem Rel.unlendN (R : Rel K mg B F α H σ S) {α0 : Nat → Addr} (R' : Rel K mg (bdOf (lendN F H α S.L) H (fun _ => False) α0 []) F' α' H' σ' S') :
    Rel K mg B (Nz.unlendN F' α S.L) α H' σ S ∧ Same F (Nz.unlendN F' α S.L) := by
  have hF' : Same (lendN F H α S.L) F' := R'.bF
  have h1 : Same F (Nz.unlendN F' α S.L) := fun b o e => by
    unfold Nz.unlendN
    by_cases h : lentN α S.L b
    · rw [R.lentN_none h] at e; cases e
    · rw [if_neg h]; exact hF' b o (R.lendN_same b o e)
  have hH : Same H H' := fun b o e => R'.frame b o e fun z => z
  refine ⟨R.grow h1 hH (fun b o e => ?_) fun b u e => ?_, h1⟩
  · unfold Nz.unlendN at e
    by_cases h : lentN α S.L b
    · rw [if_pos h] at e; cases e
    · rw [if_neg h] at e; exact R'.sub b o e
  · unfold Nz.unlendN at e
    by_cases h : lentN α S.L b
    · rw [if_pos h] at e; cases e
    · rw [if_neg h] at e
      rcases R'.nF b u e with z | z | z
      · have z : lendN F H α S.L b = some u := z
        unfold lendN at z
        rw [if_neg h] at z; exact .inl z
      · exact .inr z
      · exact z.elim
theorem Rel.unlendN_keep (R : Rel K mg B F α H σ S) (hF' : Same (lendN F H α S.L) F') : ∀ a o, F' a = some o → (∀ ws, o ≠ .lst ws) → Nz.unlendN F' α S.L a = some o := fun a o e ne => by
  unfold Nz.unlendN
  by_cases h : lentN α S.L a
  · obtain ⟨ws, hw⟩ := R.lentN_lst h
    have : F' a = some (.lst ws) := hF' a _ (by unfold lendN; rw [if_pos h]; exact hw)
    rw [this] at e; cases e; exact absurd rfl (ne ws)
  · rw [if_neg h]; exact e
/-- a slot, and what is seen of it while all is lent -/
inductive LeC (L : List (Nat × LO)) : Option Ce → Option Ce → Prop
  | no {c : Option Ce} : LeC L c none
  | fr {d : D} : LeC L (some (.fr d)) (some (.fr d))
  | fl {n : Nat} {xs : List D} : getL n L = some (.fl xs) → LeC L (some (.ad n)) (some (.fr (.lst xs)))
  | cl {n : Nat} {cs : List Ce} {ds : List D} : getL n L = some (.cl cs) → boOf L cs = some ds → LeC L (some (.ad n)) (some (.fr (.lst ds)))
inductive LeCs (L : List (Nat × LO)) : List (Option Ce) → List (Option Ce) → Prop
  | nil : LeCs L [] []
  | cons {c c' : Option Ce} {r r' : List (Option Ce)} : LeC L c c' → LeCs L r r' → LeCs L (c :: r) (c' :: r')
theorem Rel.lendN_slots (R : Rel K mg B F α H σ S) {L' : List (Nat × LO)} {α' : Nat → Addr} : ∀ {cs cs' : List (Option Ce)} {vs : L2.St}, LeCs S.L cs cs' → SlR K mg F α S.L cs vs → SlR K mg (lendN F H α S.L) α' L' cs' vs
  | _, _, _, .nil, .nil => .nil
  | _, _, _, .cons .no q, .no r => .no (R.lendN_slots q r)
  | _, _, _, .cons .no q, .so _ r => .no (R.lendN_slots q r)
  | _, _, _, .cons .fr q, .so h r => .so (Rep.mono R.lendN_same h) (R.lendN_slots q r)
  | _, _, _, .cons (.fl hx) q, .so h r => by
    obtain ⟨hn, rfl⟩ := h
    obtain ⟨f0, f1, us, e1, rs1⟩ := R.live _ _ (getL_mem hx)
    refine .so (.lst (SqL.of ?_) (rs1.mono R.lendN_same)) (R.lendN_slots q r)
    unfold lendN
    rw [if_pos ⟨_, _, getL_mem hx, rfl, rfl⟩]; exact e1
  | _, _, _, .cons (.cl hx hb) q, .so h r => by
    obtain ⟨hn, rfl⟩ := h
    obtain ⟨f0, f1, us, e1, rs1⟩ := R.live _ _ (getL_mem hx)
    refine .so (.lst (SqL.of ?_) (R.lendN_reps hb rs1)) (R.lendN_slots q r)
    unfold lendN
    rw [if_pos ⟨_, _, getL_mem hx, rfl, rfl⟩]; exact e1
theorem Rel.lendNR (R : Rel K mg B F α H σ S) {ρ' : List (Option Ce)} (h : LeCs S.L S.ρ ρ') : Rel K mg (bdOf (lendN F H α S.L) H (fun _ => False) α []) (lendN F H α S.L) α H σ ⟨ρ', []⟩ :=
  ⟨R.lendN_sub, Same.refl _, fun b o e => .inl e, fun b o e _ => e, List.nodup_nil, fun n m h => absurd h (by simp [names]), fun n o h => absurd h (by simp), R.lendN_slots h R.slots, fun n a h hn => absurd hn (by simp [names])⟩
end
section
variable {X : Cx} {B : Bd} {S S1 S2 : Nz.S} {e : Expr} {d : D} {i : Bool} {ρ' : List (Option Ce)}
/-- e reads what lives here (lists of lists, too), and gives what holds no list -/
theorem ev_lendN (hf : LeCs S.L S.ρ ρ') (h : ∀ B', Ev X B' e ⟨ρ', []⟩ (.fr d) ⟨ρ', []⟩) (hno : noM d = true) : Ev X B e S (.fr d) S := fun F α H σ Q R k => by
  refine h _ _ α H σ Q (R.lendNR hf) fun F' α' v H' R' st r => ?_
  obtain ⟨Ru, sF⟩ := R.unlendN R'
  exact k _ α v H' Ru ⟨sF, fun _ _ => rfl⟩ (Rep.lentM (R.unlendN_keep R'.bF) hno r)
theorem et_lendN (hf : LeCs S.L S.ρ ρ') (h : ∀ B', Et X B' e ⟨ρ', []⟩ i ⟨ρ', []⟩) : Et X B e S i S := fun F α H σ Q R k => by
  refine h _ _ α H σ Q (R.lendNR hf) fun F' α' H' R' st => ?_
  obtain ⟨Ru, sF⟩ := R.unlendN R'
  exact k _ α H' Ru ⟨sF, fun _ _ => rfl⟩
end
end Nz
namespace Nz
open PySem PySem.Spec PyProof.Rows L2
section
variable {τ : Type} {e : τ → D} {m q : Nat}
theorem rnL_app (L M : List (Nat × LO)) : rnL m q (L ++ M) = rnL m q L ++ rnL m q M := List.map_append
theorem rnL_P : ∀ {P : List (Nat × LO)}, flOnly P = true → m ∉ names P → rnL m q P = P
  | [], _, _ => rfl
  | (k, .fl ds) :: r, h, hm => by
    show (rnN m q k, LO.fl ds) :: rnL m q r = _
    rw [rnL_P (P := r) h fun z => hm (List.mem_cons_of_mem _ z), show rnN m q k = k from if_neg fun z => hm (by rw [← z]; exact List.mem_cons_self)]
  | (_, .cl _) :: _, h, _ => by cases h
  | (_, .ins _ _) :: _, h, _ => by cases h
  | (_, .dT _) :: _, h, _ => by cases h
  | (_, .dK _) :: _, h, _ => by cases h
theorem rnL_inL : ∀ {xss : List (List τ)} {b : Nat}, m < b → rnL m q (inL e b xss) = inL e b xss
  | [], _, _ => rfl
  | x :: r, b, h => by
    show (rnN m q b, LO.fl (x.map e)) :: rnL m q (inL e (b + 1) r) = _
    rw [rnL_inL (by omega), show rnN m q b = b from if_neg (by omega)]; rfl
theorem nuC_ce : ∀ {k b : Nat}, m < b → (ceL b k).map (nuC m q) = ceL b k
  | 0, _, _ => rfl
  | k + 1, b, h => by
    show nuC m q (.ad b) :: (ceL (b + 1) k).map (nuC m q) = _
    rw [nuC_ce (by omega), show nuC m q (.ad b) = .ad b from if_neg (by omega)]; rfl
theorem ceL_snoc (b k : Nat) : ceL b (k + 1) = ceL b k ++ [.ad (b + k)] := ceL_add k 1 b
theorem ceL_get : ∀ {k b i : Nat}, i < k → (ceL b k)[i]? = some (.ad (b + i))
  | k + 1, b, 0, _ => rfl
  | k + 1, b, i + 1, h => by
    show (ceL (b + 1) k)[i]? = _
    rw [ceL_get (by omega), show b + 1 + i = b + (i + 1) by omega]
theorem ceL_length : ∀ {k b : Nat}, (ceL b k).length = k
  | 0, _ => rfl
  | k + 1, b => congrArg (· + 1) (ceL_length (k := k) (b := b + 1))
end
section
variable {K : Frag} {mg : Mg} {B : Bd} {F : Hp} {α : Nat → Addr} {H : Hp} {σ : L2.St} {L P : List (Nat × LO)} {ρ : List (Option Ce)} {τ : Type} {e : τ → D} {xss : List (List τ)} {x : List τ} {n b m : Nat}
/-- the flat list m becomes the next inner one -/
theorem Rel.nestIn (R : Rel K mg B F α H σ ⟨ρ, L⟩) (hp : L.Perm (P ++ (m, .fl (x.map e)) :: (n, .cl (ceL b xss.length ++ [.ad m])) :: inL e b xss)) (hP : flOnly P = true) (hPb : belowB b P = true) (hm : m ∉ names P) (hmn : m ≠ n) (hmb : m < b) (hnb : n < b) (h100 : 100 ≤ b)
    (hρ : ρ.map (Option.map (nuC m (b + xss.length))) = ρ) : ∃ α', Rel K mg B F α' H σ ⟨ρ, P ++ nest n b e (xss ++ [x])⟩ := by
  have R1 := R.perm hp
  have hq : b + xss.length ∉ names (P ++ (m, LO.fl (x.map e)) :: (n, .cl (ceL b xss.length ++ [.ad m])) :: inL e b xss) := by
    rw [names_app, List.mem_append]
    show ¬ (_ ∨ b + xss.length ∈ m :: n :: names (inL e b xss))
    rintro (z | z)
    · have := belowB_ok hPb z; omega
    · rcases List.mem_cons.mp z with z | z
      · omega
      · rcases List.mem_cons.mp z with z | z
        · omega
        · have := names_inL.mp z; omega
  have R2 := R1.rename (m := m) (n := b + xss.length) (by rw [names_app]; exact List.mem_append_right _ List.mem_cons_self) hq (by omega)
  rw [hρ, rnL_app, rnL_P hP hm] at R2
  have e2 : rnL m (b + xss.length) ((m, LO.fl (x.map e)) :: (n, .cl (ceL b xss.length ++ [.ad m])) :: inL e b xss) = (b + xss.length, LO.fl (x.map e)) :: (n, .cl (ceL b (xss ++ [x]).length)) :: inL e b xss := by
    show (rnN m (b + xss.length) m, LO.fl (x.map e)) :: (rnN m (b + xss.length) n, LO.cl ((ceL b xss.length ++ [Ce.ad m]).map (nuC m (b + xss.length)))) :: rnL m (b + xss.length) (inL e b xss) = _
    rw [rnL_inL hmb, List.map_append, nuC_ce hmb, show rnN m (b + xss.length) m = b + xss.length from if_pos rfl, show rnN m (b + xss.length) n = n from if_neg (fun z => hmn z.symm), List.length_append,
      show xss.length + [x].length = xss.length + 1 from rfl, ceL_snoc]
    show _ :: (n, LO.cl (ceL b xss.length ++ [nuC m (b + xss.length) (Ce.ad m)])) :: _ = _
    rw [show nuC m (b + xss.length) (Ce.ad m) = Ce.ad (b + xss.length) from if_pos rfl]
  rw [e2] at R2
  refine ⟨_, R2.perm (List.Perm.append_left P ?_)⟩
  show List.Perm _ ((n, LO.cl (ceL b (xss ++ [x]).length)) :: inL e b (xss ++ [x]))
  rw [inL_append]
  refine (List.Perm.swap _ _ _).trans (List.Perm.cons _ ?_)
  exact (List.perm_append_singleton (b + xss.length, LO.fl (x.map e)) (inL e b xss)).symm
/-- an empty list is one of cells, too -/
theorem Rel.emptyC (R : Rel K mg B F α H σ ⟨ρ, P ++ [(n, .fl [])]⟩) (b : Nat) (e : τ → D) : Rel K mg B F α H σ ⟨ρ, P ++ nest n b e []⟩ := by
  have hmem : (n, LO.fl []) ∈ P ++ [(n, LO.fl [])] := List.mem_append_right _ List.mem_cons_self
  obtain ⟨f0, f1, vs, e1, rs⟩ := R.live n _ hmem
  cases rs
  have hP : n ∉ names P := fun z => by
    have nd : (names (P ++ [(n, LO.fl [])])).Nodup := R.nd
    rw [names_app, List.nodup_append] at nd
    exact nd.2.2 n z n (by simp [names]) rfl
  have Rp := R.put (n := n) (u := .cl []) (o' := .lst []) hmem ⟨[], upd_same, .nil⟩
  have eH : upd H (α n) (.lst []) = H := by
    funext a
    unfold upd
    split
    · rename_i z; subst z; exact e1.symm
    · rfl
  rw [eH] at Rp
  have es : setL n (.cl []) (P ++ [(n, .fl [])]) = P ++ nest n b e [] := by
    rw [setL_appR hP]
    show P ++ (if n = n then (n, LO.cl []) :: [] else _) = _
    rw [if_pos rfl]; rfl
  rw [show (⟨ρ, P ++ [(n, .fl [])]⟩ : Nz.S).L = P ++ [(n, .fl [])] from rfl, es] at Rp
  exact Rp
end
section
variable {X : Cx} {B : Bd} {S S1 S2 : Nz.S} {K : Out → Prop} {sts : List Stmt} {L L' P : List (Nat × LO)} {ρ : List (Option Ce)} {τ : Type} {enc : τ → D} {xss : List (List τ)} {x : List τ} {n b m : Nat}
theorem exs_nestIn (hp : L.Perm (P ++ (m, .fl (x.map enc)) :: (n, .cl (ceL b xss.length ++ [.ad m])) :: inL enc b xss)) (hP : flOnly P = true) (hPb : belowB b P = true) (hm : m ∉ names P) (hmn : m ≠ n) (hmb : m < b) (hnb : n < b) (h100 : 100 ≤ b)
    (hρ : ρ.map (Option.map (nuC m (b + xss.length))) = ρ) (h : Exs X B sts ⟨ρ, P ++ nest n b enc (xss ++ [x])⟩ K) : Exs X B sts ⟨ρ, L⟩ K := fun F α H σ D R o => by
  obtain ⟨α', R'⟩ := R.nestIn hp hP hPb hm hmn hmb hnb h100 hρ
  exact h F α' H σ D R' o
theorem exs_emptyC (b : Nat) (enc : τ → D) (h : Exs X B sts ⟨ρ, P ++ nest n b enc []⟩ K) : Exs X B sts ⟨ρ, P ++ [(n, .fl [])]⟩ K := fun F α H σ D R o => h F α H σ D (R.emptyC b enc) o
variable {a e o i : Expr} {es : List Expr} {pos apos p q : Pos} {d : D} {ds : List D} {y : Str} {fd : FuncData} {ps : List Str} {k : Nat} {sp : SpN} {f : Addr} {c : Ce} {cs cs0 : List Ce}
/-- xs.append(e), xs a list of cells -/
theorem ev_appendC {n : Nat} (ho : Ev X B o S (.ad n) S) (ha : Ev X B e S c S1) (hn : getL n S1.L = some (.cl cs)) (hn0 : getL n S.L = some (.cl cs0)) (hz : cs.length < sizeLine) (h1 : Sub S.L S1.L := by exact Sub.refl)
    (hbase : attributeBase o "append" X.env (eval o X.env) = eval o X.env := by rfl)
    (hfew : ((backTo pos (starEach (e :: []) X.env)).all (fun x => !x.1) && (backToKw pos (keywordEach [] X.env)).all (fun x => x.1.isSome)
      && decide ((e :: ([] : List Expr)).length + ([] : List Keyword).length + (if ([] : List Keyword).isEmpty then 0 else 1) < 30)) = true := by rfl)
    (hline : (apos.endLine == pos.line) = true := by rfl) (hs : starEach (e :: []) X.env = (false, eval e X.env) :: starEach [] X.env := by rfl) (hplain : (backTo pos (starEach [] X.env)).any (·.1) = false := by rfl) :
    Ev X B (.Call (.Attribute o "append" apos) [e] [] pos) S (.fr .non) ⟨S1.ρ, setL n (.cl (cs ++ [c])) S1.L⟩ :=
  fun F α H σ Q R k => wE.of (pe_bm PySem.F.plainAttrs_list PySem.F.slot_list_append PySem.F.type_list_append mt_append pe_w (pa_cons pe_w pa_nil hs) hbase hfew hline hs hplain) (ho F α H σ _ R fun F1 α1 v1 H1 R1 st1 r1 => by
    obtain ⟨hm, rfl⟩ := r1
    refine ⟨?_, ha F1 α1 H1 σ _ R1 fun F2 α2 v2 H2 R2 st2 r2 => ?_⟩
    · obtain ⟨_, _, vs, e1, rs⟩ := R1.live n _ (getL_mem hn0)
      exact .inl ⟨rfl, _, SqL.of e1⟩
    · have hmm := getL_mem hn
      obtain ⟨f0, f1, vs, e1, rs⟩ := R2.live n _ hmm
      have en : α2 n = α1 n := st2.nm n hm
      have hsub : ∀ k, k ∈ names S1.L → k ∈ names (setL n (.cl (cs ++ [c])) S1.L) := fun k hk => by rw [names_setL]; exact hk
      refine ⟨α1 n, vs, v2, rfl, rfl, by rw [← en]; exact e1, by rw [← rs.length]; exact hz, ?_⟩
      have Rp := R2.put (n := n) (u := .cl (cs ++ [c])) (o' := .lst (vs ++ [v2])) hmm ⟨vs ++ [v2], upd_same, CRels.append (rs.step Stp.refl hsub) (.cons (r2.step Stp.refl hsub) .nil)⟩
      rw [en] at Rp
      exact k F2 α2 .non _ Rp ((st1.trans st2 Sub.refl).trans Stp.refl h1) .non)
/-- xs[i], xs a list of cells -/
theorem ev_ixC {n : Nat} {j : Int} (ha : Ev X B a S (.ad n) S) (hb : Ev X B i S (.fr (.int j)) S) (hl : getL n S.L = some (.cl cs)) (h0 : 0 ≤ j) (hj : cs[j.toNat]? = some c) (hs : PlainIx i := by exact fun _ _ => rfl) :
    Ev X B (.Subscript a i pos) S c S :=
  fun F α H σ Q R k => wE.of (pe_ix ix_list pe_w pe_w hs) (ha F α H σ _ R fun F1 α1 v1 H1 R1 st1 r1 => hb F1 α1 H1 σ _ R1 fun F2 α2 v2 H2 R2 st2 r2 => by
    obtain ⟨hm, rfl⟩ := r1
    cases r2
    obtain ⟨_, _, vs, e1, rs⟩ := R2.live n _ (getL_mem hl)
    obtain ⟨v, hv, rv⟩ := rs.get hj
    have en : α2 n = α1 n := st2.nm n hm
    refine ⟨α1 n, vs, j, v, rfl, rfl, by rw [← en]; exact SqL.of e1, ?_, k F2 α2 v H2 R2 (st1.trans st2 Sub.refl) rv⟩
    unfold atI ixN
    rw [if_pos h0, if_pos (show j < (vs.length : Int) from by have := (List.getElem?_eq_some_iff.mp hv).1; omega)]
    exact hv)
end
end Nz
namespace Nz
open PySem PySem.Spec PyProof.Rows L2
section
variable {τ : Type} {e : τ → D} {P : List (Nat × LO)} {xss : List (List τ)} {n b : Nat}
theorem boOf_nest (hP : belowB b P = true) (hn : n < b) : boOf (P ++ nest n b e xss) (ceL b xss.length) = some (xss.map (eL e)) :=
  boOf_ce fun i x h => getL_nest (fun z => by have := belowB_ok hP z; omega) hn h
theorem setL_inL : ∀ {xss : List (List τ)} {b i : Nat} {y : List τ}, i < xss.length → setL (b + i) (.fl (y.map e)) (inL e b xss) = inL e b (xss.set i y)
  | x :: r, b, 0, y, _ => by
    show (if b + 0 = b then (b, LO.fl (y.map e)) :: inL e (b + 1) r else _) = _
    rw [if_pos (Nat.add_zero b)]; rfl
  | x :: r, b, i + 1, y, h => by
    show (if b + (i + 1) = b then _ else (b, LO.fl (x.map e)) :: setL (b + (i + 1)) (.fl (y.map e)) (inL e (b + 1) r)) = _
    rw [if_neg (by omega), show b + (i + 1) = b + 1 + i by omega, setL_inL (by simpa using h)]; rfl
theorem setL_nestI {i : Nat} {y : List τ} (hP : belowB b P = true) (hn : n < b) (hi : i < xss.length) : setL (b + i) (.fl (y.map e)) (P ++ nest n b e xss) = P ++ nest n b e (xss.set i y) := by
  rw [setL_appR (fun z => by have := belowB_ok hP z; omega)]
  show P ++ (if b + i = n then _ else (n, LO.cl (ceL b xss.length)) :: setL (b + i) (.fl (y.map e)) (inL e b xss)) = P ++ ((n, LO.cl (ceL b (xss.set i y).length)) :: inL e b (xss.set i y))
  rw [if_neg (by omega), setL_inL hi, List.length_set]
theorem perm_mv {β : Type} (P N : List β) (x : β) : (P ++ N ++ [x]).Perm ((P ++ [x]) ++ N) := by
  rw [List.append_assoc, List.append_assoc]
  exact List.Perm.append_left P List.perm_append_comm
theorem perm_mv2 {β : Type} (P N : List β) (x : β) : (P ++ N ++ [x]).Perm (P ++ x :: N) := by
  have := perm_mv P N x
  rwa [List.append_assoc P [x] N] at this
theorem fresh_nest {m : Nat} (hP : m ∉ names P) (h1 : m ≠ n) (h2 : m < b) : m ∉ names (P ++ nest n b e xss) := fun z => by
  rw [names_app, List.mem_append, names_nest] at z
  rcases z with z | z | z
  · exact hP z
  · exact h1 z
  · omega
end
end Nz
namespace Nz
open PySem PySem.Spec PyProof.Rows L2
end Nz
namespace Nz
open PySem PySem.Spec PyProof.Rows L2
end Nz
namespace Nz
open PySem PySem.Spec PyProof.Rows L2
section
variable {K : Frag} {mg : Mg} {B : Bd} {F : Hp} {α : Nat → Addr} {H : Hp} {σ : L2.St} {S : Nz.S} {ρ' : List (Option Ce)}
/-- all that lives is frozen -/
theorem Rel.freezeAll (R : Rel K mg B F α H σ S) (h : LeCs S.L S.ρ ρ') : Rel K mg B (lendN F H α S.L) α H σ ⟨ρ', []⟩ :=
  ⟨R.lendN_sub, R.bF.trans R.lendN_same, fun b o e => by
    unfold lendN at e
    by_cases z : lentN α S.L b
    · obtain ⟨n, u, h1, _, rfl⟩ := z
      exact .inr (R.live n u h1).2.1
    · rw [if_neg z] at e; exact R.nF b o e, R.frame, List.nodup_nil, fun n m h => absurd h (by simp [names]), fun n o h => absurd h (by simp), R.lendN_slots h R.slots, fun n a h hn => absurd hn (by simp [names])⟩
end
section
variable {X : Cx} {B : Bd} {S S1 : Nz.S} {K : Out → Prop} {sts : List Stmt} {ρ ρ' : List (Option Ce)} {τ : Type} {enc : τ → D} {xss : List (List τ)} {n b : Nat} {e o i a : Expr} {p p2 pos : Pos} {d : D} {P : List (Nat × LO)}
theorem exs_freezeAll (hf : LeCs S.L S.ρ ρ') (h : Exs X B sts ⟨ρ', []⟩ K) : Exs X B sts S K := fun F α H σ D R oo => h _ α H σ D (R.freezeAll hf) (oo.mono R.lendN_same)
end
end Nz
namespace Nz
open PySem PySem.Spec PyProof.Rows L2
end Nz
namespace Nz
open PySem PySem.Spec PyProof.Rows L2
def a0N (α : Nat → Addr) (n b : Nat) : Nat → Addr := fun k => if k = 0 then α n else α (b + (k - 1))
def fpN (α : Nat → Addr) (n b len : Nat) : Addr → Prop := fun c => c = α n ∨ ∃ i, i < len ∧ c = α (b + i)
section
variable {K : Frag} {mg : Mg} {B : Bd} {F F' : Hp} {α α' : Nat → Addr} {H H' : Hp} {σ σ' : L2.St} {ρ ρ' : List (Option Ce)} {τ : Type} {e : τ → D} {xss yss : List (List τ)} {n b : Nat} {P : List (Nat × LO)} {L0 : List (Nat × LO)}
theorem flOnly_mem : ∀ {P : List (Nat × LO)} {k : Nat} {o : LO}, flOnly P = true → (k, o) ∈ P → ∃ ds, o = .fl ds
  | (m, .fl ds) :: r, k, o, h, hk => by
    rcases List.mem_cons.mp hk with z | z
    · cases z; exact ⟨ds, rfl⟩
    · exact flOnly_mem (P := r) h z
  | (_, .cl _) :: _, _, _, h, _ => by cases h
  | (_, .ins _ _) :: _, _, _, h, _ => by cases h
  | (_, .dT _) :: _, _, _, h, _ => by cases h
  | (_, .dK _) :: _, _, _, h, _ => by cases h
theorem a0N_in (i : Nat) : a0N α n b (1 + i) = α (b + i) := by
  unfold a0N
  rw [if_neg (by omega), show 1 + i - 1 = i by omega]
theorem Rel.callNest (R : Rel K mg B F α H σ ⟨ρ, P ++ nest n b e xss⟩) (hs : SlR K mg F (a0N α n b) (nest 0 1 e xss) ρ' σ') :
    Rel K mg (bdOf F H (fpN α n b xss.length) (a0N α n b) L0) F (a0N α n b) H σ' ⟨ρ', nest 0 1 e xss⟩ := by
  have hmO : (n, LO.cl (ceL b xss.length)) ∈ P ++ nest n b e xss := List.mem_append_right _ List.mem_cons_self
  have hmI : ∀ i x, xss[i]? = some x → (b + i, LO.fl (x.map e)) ∈ P ++ nest n b e xss := fun i x h => List.mem_append_right _ (List.mem_cons_of_mem _ (mem_inL.mpr ⟨i, x, h, rfl, rfl⟩))
  have hI : ∀ i, i < xss.length → ∃ x, xss[i]? = some x := fun i hi => ⟨_, List.getElem?_eq_getElem hi⟩
  have nd : (names (P ++ nest n b e xss)).Nodup := R.nd
  have hnb : n ∉ names (inL e b xss) := fun z => by
    rw [names_app, List.nodup_append] at nd
    exact (List.nodup_cons.mp (show (n :: names (inL e b xss)).Nodup from nd.2.1)).1 z
  -- the address of each name
  have adr : ∀ k, k ∈ names (nest 0 1 e xss) → ∃ m, m ∈ names (P ++ nest n b e xss) ∧ a0N α n b k = α m ∧ (k = 0 ↔ m = n) ∧ (k ≠ 0 → m = b + (k - 1)) := fun k hk => by
    rcases names_nest.mp hk with z | z
    · subst z
      exact ⟨n, mem_names hmO, by unfold a0N; rw [if_pos rfl], by simp, fun q => absurd rfl q⟩
    · obtain ⟨x, hx⟩ := hI (k - 1) (by omega)
      refine ⟨b + (k - 1), mem_names (hmI _ x hx), by unfold a0N; rw [if_neg (by omega)], ⟨fun q => by omega, fun q => ?_⟩, fun _ => rfl⟩
      exact absurd (names_inL.mpr (by omega)) (q ▸ hnb)
  refine ⟨R.sub, Same.refl _, fun c o h => .inl h, fun c o h _ => h, ?_, fun k m hk hm q => ?_, fun k o hk => ?_, hs, fun k a h hk => ?_⟩
  · show (0 :: names (inL e 1 xss)).Nodup
    refine List.nodup_cons.mpr ⟨fun z => by have := names_inL.mp z; omega, ?_⟩
    have : ∀ (xss : List (List τ)) (b : Nat), (names (inL e b xss)).Nodup := by
      intro xss
      induction xss with
      | nil => intro b; exact List.nodup_nil
      | cons x r ih => intro b; exact List.nodup_cons.mpr ⟨fun z => by have z : b + 1 ≤ b ∧ b < b + 1 + r.length := names_inL.mp z; omega, ih (b + 1)⟩
    exact this xss 1
  · obtain ⟨k', h1, e1, i1, j1⟩ := adr k hk
    obtain ⟨m', h2, e2, i2, j2⟩ := adr m hm
    rw [e1, e2] at q
    have hq := R.inj _ _ h1 h2 q
    by_cases z : k = 0
    · rw [z]; exact (i2.mpr (by rw [← hq]; exact i1.mp z)).symm
    · have z2 : m ≠ 0 := fun w => z (i1.mpr (by rw [hq]; exact i2.mp w))
      have := j1 z; have := j2 z2; omega
  · have hk' : k ∈ names (nest 0 1 e xss) := mem_names hk
    rcases List.mem_cons.mp hk with z | z
    · cases z
      obtain ⟨f0, _, vs, e1, rs⟩ := R.live n _ hmO
      obtain ⟨hvl, hvg⟩ := crels_ceL rs
      have e0 : a0N α n b 0 = α n := by unfold a0N; rw [if_pos rfl]
      rw [e0]
      refine ⟨f0, .inr (.inl rfl), vs, e1, ?_⟩
      have hc := crels_ceL_of (K := K) (mg := mg) (F := F) (α := a0N α n b) (L := nest 0 1 e xss) (k := xss.length) (b := 1) fun i hi => names_nest.mpr (.inr (by omega))
      have eus : vs = (List.range xss.length).map fun i => V.ref (a0N α n b (1 + i)) := by
        apply List.ext_getElem?
        intro i
        by_cases hi : i < xss.length
        · rw [(hvg i hi).1, List.getElem?_map, List.getElem?_range hi]
          show _ = some (V.ref (a0N α n b (1 + i)))
          rw [a0N_in]
        · rw [List.getElem?_eq_none (by omega), List.getElem?_eq_none (by simp; omega)]
      rw [eus]; exact hc
    · obtain ⟨i, x, hx, rfl, rfl⟩ := mem_inL.mp z
      obtain ⟨f0, _, vs, e1, rs⟩ := R.live _ _ (hmI i x hx)
      rw [a0N_in]
      exact ⟨f0, .inr (.inr ⟨i, (List.getElem?_eq_some_iff.mp hx).1, rfl⟩), vs, e1, rs⟩
  · have h : (if k < 100 then some (a0N α n b k) else none) = some a := h
    split at h
    · exact Option.some.inj h
    · cases h
/-- behind the call -/
theorem Rel.backNest (R : Rel K mg B F α H σ ⟨ρ, P ++ nest n b e xss⟩) (hP : flOnly P = true) (hl : yss.length = xss.length) (h99 : xss.length < 99) (R' : Rel K mg (bdOf F H (fpN α n b xss.length) (a0N α n b) L0) F' α' H' σ' ⟨ρ', nest 0 1 e yss⟩) :
    Rel K mg B F' α H' σ ⟨ρ, P ++ nest n b e yss⟩ ∧ Same F F' := by
  have hF : Same F F' := R'.bF
  have hmO : (n, LO.cl (ceL b xss.length)) ∈ P ++ nest n b e xss := List.mem_append_right _ List.mem_cons_self
  have hI : ∀ i, i < xss.length → ∃ x, (b + i, LO.fl (List.map e x)) ∈ P ++ nest n b e xss := fun i hi => ⟨_, List.mem_append_right _ (List.mem_cons_of_mem _ (mem_inL.mpr ⟨i, _, List.getElem?_eq_getElem hi, rfl, rfl⟩))⟩
  have hnm : ∀ k, k ∈ names (P ++ nest n b e yss) ↔ k ∈ names (P ++ nest n b e xss) := fun k => by rw [names_app, names_app, List.mem_append, List.mem_append, names_nest, names_nest, hl]
  have hfp : ∀ c, fpN α n b xss.length c → B.H0 c = none ∨ B.fp c := fun c h => by
    rcases h with z | ⟨i, hi, z⟩
    · rw [z]; exact (R.live n _ hmO).2.1
    · obtain ⟨x, hx⟩ := hI i hi
      rw [z]; exact (R.live _ _ hx).2.1
  have h0 : α' 0 = α n := by
    have := R'.fix 0 (a0N α n b 0) rfl (names_nest.mpr (.inl rfl))
    rw [this]; unfold a0N; rw [if_pos rfl]
  have h1 : ∀ i, i < xss.length → α' (1 + i) = α (b + i) := fun i hi => by
    have := R'.fix (1 + i) (a0N α n b (1 + i)) (show (if 1 + i < 100 then some (a0N α n b (1 + i)) else none) = _ by rw [if_pos (by omega)]) (names_nest.mpr (.inr (by omega)))
    rw [this, a0N_in]
  have st : Stp F α (P ++ nest n b e xss) F' α := ⟨hF, fun _ _ => rfl⟩
  refine ⟨⟨R'.sub, R.bF.trans hF, fun c o h => ?_, fun c o h nf => R'.frame c o (R.frame c o h nf) (fun z => ?_), ?_, fun a c ha hc => R.inj a c ((hnm a).mp ha) ((hnm c).mp hc), fun k o hk => ?_, R.slots.step st fun k hk => (hnm k).mpr hk, fun k a h hk => R.fix k a h ((hnm k).mp hk)⟩, hF⟩
  · rcases R'.nF c o h with z | z | z
    · exact R.nF c o z
    · by_cases w : B.fp c
      · exact .inr (.inr w)
      · refine .inr (.inl ?_)
        have z : H c = none := z
        cases q : B.H0 c with
        | none => rfl
        | some u => rw [R.frame c u q w] at z; cases z
    · exact .inr (hfp c z)
  · rcases hfp c z with w | w
    · rw [w] at h; cases h
    · exact nf w
  · have nd : (names (P ++ nest n b e xss)).Nodup := R.nd
    have en : names (P ++ nest n b e yss) = names (P ++ nest n b e xss) := by
      have : ∀ (xss yss : List (List τ)) (b : Nat), yss.length = xss.length → names (inL e b yss) = names (inL e b xss) := by
        intro xss
        induction xss with
        | nil => intro yss b h; cases yss with | nil => rfl | cons _ _ => simp at h
        | cons x r ih => intro yss b h; cases yss with | nil => simp at h | cons y s => show b :: names (inL e (b + 1) s) = b :: names (inL e (b + 1) r); rw [ih s (b + 1) (by simpa using h)]
      rw [names_app, names_app]
      show _ ++ (n :: names (inL e b yss)) = _ ++ (n :: names (inL e b xss))
      rw [this xss yss b hl]
    show (names (P ++ nest n b e yss)).Nodup
    rw [en]; exact nd
  · rcases List.mem_append.mp hk with hk | hk
    · -- what stands beside
      have hkm : (k, o) ∈ P ++ nest n b e xss := List.mem_append_left _ hk
      obtain ⟨g0, g1, g2⟩ := R.live k o hkm
      have nd : (names (P ++ nest n b e xss)).Nodup := R.nd
      rw [names_app, List.nodup_append] at nd
      have hnf : ¬ fpN α n b xss.length (α k) := fun z => by
        rcases z with z | ⟨i, hi, z⟩
        · have := R.inj _ _ (mem_names hkm) (mem_names hmO) z
          exact nd.2.2 k (mem_names hk) n List.mem_cons_self this
        · obtain ⟨x, hx⟩ := hI i hi
          have := R.inj _ _ (mem_names hkm) (mem_names hx) z
          exact nd.2.2 k (mem_names hk) (b + i) (names_nest.mpr (.inr (by omega))) this
      have ho : ∃ ds, o = .fl ds := flOnly_mem hP hk
      obtain ⟨ds, rfl⟩ := ho
      obtain ⟨vs, e1, rs⟩ := g2
      refine ⟨?_, g1, vs, R'.frame _ _ e1 hnf, rs.mono hF⟩
      cases q : F' (α k) with
      | none => rfl
      | some u =>
        rcases R'.nF _ _ q with z | z | z
        · have z : F (α k) = some u := z
          rw [g0] at z; cases z
        · have z : H (α k) = none := z
          rw [e1] at z; cases z
        · exact absurd z hnf
    · rcases List.mem_cons.mp hk with z | z
      · cases z
        obtain ⟨g0, _, vs, e1, rs⟩ := R'.live 0 _ List.mem_cons_self
        obtain ⟨hvl, hvg⟩ := crels_ceL rs
        rw [h0] at g0 e1
        refine ⟨g0, (R.live n _ hmO).2.1, vs, e1, ?_⟩
        have hc := crels_ceL_of (K := K) (mg := mg) (F := F') (α := α) (L := P ++ nest n b e yss) (k := yss.length) (b := b) fun i hi => by rw [names_app]; exact List.mem_append_right _ (names_nest.mpr (.inr (by omega)))
        have eus : vs = (List.range yss.length).map fun i => V.ref (α (b + i)) := by
          apply List.ext_getElem?
          intro i
          by_cases hi : i < yss.length
          · rw [(hvg i hi).1, List.getElem?_map, List.getElem?_range hi]
            show _ = some (V.ref (α (b + i)))
            rw [h1 i (by omega)]
          · rw [List.getElem?_eq_none (by omega), List.getElem?_eq_none (by simp; omega)]
        rw [eus]; exact hc
      · obtain ⟨i, y, hy, rfl, rfl⟩ := mem_inL.mp z
        have hi : i < xss.length := by have := (List.getElem?_eq_some_iff.mp hy).1; omega
        obtain ⟨g0, _, vs, e1, rs⟩ := R'.live (1 + i) _ (List.mem_cons_of_mem _ (mem_inL.mpr ⟨i, y, hy, rfl, rfl⟩))
        rw [h1 i hi] at g0 e1
        obtain ⟨x, hx⟩ := hI i hi
        exact ⟨g0, (R.live _ _ hx).2.1, vs, e1, rs⟩
theorem slots_renN : ∀ {cs : List Ce} {vs : List V}, adsOk n cs = true → CRels K mg F α L0 cs vs → SlR K mg F (a0N α n b) (nest 0 1 e xss) ((cs.map (renC n)).map some) (vs.map some)
  | [], _, _, .nil => .nil
  | .fr d :: cs, _, h, .cons r rs => .so (c := .fr d) r (slots_renN (show adsOk n cs = true from h) rs)
  | .ad m :: cs, _, h, .cons r rs => by
    unfold adsOk at h
    rw [Bool.and_eq_true] at h
    have hmn : m = n := by simpa using h.1
    exact .so (c := .ad 0) ⟨names_nest.mpr (.inl rfl), by rw [r.2, hmn]; rfl⟩ (slots_renN h.2 rs)
  | .xv _ :: _, _, h, .cons _ _ => absurd h (by simp [adsOk])
end
section
variable {X : Cx} {B : Bd} {ρ : List (Option Ce)} {τ : Type} {enc : τ → D} {xss yss : List (List τ)} {n b : Nat} {P : List (Nat × LO)} {e : Expr} {es : List Expr} {pos p : Pos} {d : D} {x : Str} {fd : FuncData} {ps : List Str} {k : Nat} {sp : SpN} {f : Addr}
/-- f(xs, ..), xs a list of lists that live: f changes the inner ones -/
theorem ev_callLN {cs : List Ce} (F : FnOk X.prog X.w X.K X.mg X.base CX0 k f fd ps (SpOf X.K X.mg sp)) (hr : Room k X.A) (hm : X.mg x = some (.ref f)) (hk : PySem.W.keepIn X.K (.ref f) = true) (hb : Binds X.K fd ps [])
    (ha : Ea X B (e :: es) ⟨ρ, P ++ nest n b enc xss⟩ cs ⟨ρ, P ++ nest n b enc xss⟩) (hok : adsOk n cs = true) (hP : flOnly P = true) (hl : yss.length = xss.length) (h99 : xss.length < 99) (hs : ∀ Kc : Ce → List (Nat × LO) → Prop, Kc (.fr d) (nest 0 1 enc yss) → sp (cs.map (renC n)) (nest 0 1 enc xss) Kc) (hg : Gl X x) (hdb : (x == ("__debug__" : Str)) = false := by decide)
    (he : starEach (e :: es) X.env = (false, eval e X.env) :: starEach es X.env := by rfl) (hpl : (backTo pos (starEach es X.env)).any (·.1) = false := by rfl) : Ev X B (.Call (.Name x p) (e :: es) [] pos) ⟨ρ, P ++ nest n b enc xss⟩ (.fr d) ⟨ρ, P ++ nest n b enc yss⟩ :=
  fun F0 α H σ Q R k => wE.of (pe_call F hr hg hm hk hb .nil pass0 pa_w hdb he hpl) (ha F0 α H σ _ R fun F1 α1 vs H1 R1 st1 r1 => by
    rw [List.append_nil]
    refine ⟨F1, a0N α1 n b, nest 0 1 enc xss, _, fpN α1 n b xss.length, R1.callNest (slots_renN hok r1), hs _ fun F' α' v H' ρ' σ' R' r' => ?_⟩
    obtain ⟨Rb, sF⟩ := R1.backNest hP hl h99 R'
    exact k F' α1 v H' Rb (st1.trans ⟨sF, fun _ _ => rfl⟩ Sub.refl) r')
end
end Nz
namespace Nz
open PySem PySem.Spec PyProof.Rows L2
section
variable {X : Cx} {B : Bd} {ρ : List (Option Ce)} {K : Out → Prop} {τ : Type} {enc : τ → D} {xss : List (List τ)} {n b : Nat} {P : List (Nat × LO)} {e o i a : Expr} {p pos : Pos} {d : D}
theorem getL_al {iv : Int} (hP : belowB b P = true) (hnb : n < b) (hi0 : 0 ≤ iv) (hi1 : iv < xss.length) : getL (b + iv.toNat) (P ++ nest n b enc xss) = some (.fl ((xss.getD iv.toNat default).map enc)) := by
  have hlt : iv.toNat < xss.length := by omega
  have hx : xss[iv.toNat]? = some (xss.getD iv.toNat default) := by
    rw [List.getD_eq_getElem?_getD, List.getElem?_eq_getElem hlt]; rfl
  exact getL_nest (fun z => by have := belowB_ok hP z; omega) hnb hx
theorem ev_al {iv : Int} (ho : Ev X B o ⟨ρ, P ++ nest n b enc xss⟩ (.ad n) ⟨ρ, P ++ nest n b enc xss⟩) (hi : Ev X B i ⟨ρ, P ++ nest n b enc xss⟩ (.fr (.int iv)) ⟨ρ, P ++ nest n b enc xss⟩) (hn : getL n (P ++ nest n b enc xss) = some (.cl (ceL b xss.length))) (hi0 : 0 ≤ iv) (hi1 : iv < xss.length) (hs : PlainIx i := by exact fun _ _ => rfl) :
    Ev X B (.Subscript o i pos) ⟨ρ, P ++ nest n b enc xss⟩ (.ad (b + iv.toNat)) ⟨ρ, P ++ nest n b enc xss⟩ :=
  ev_ixC ho hi hn hi0 (ceL_get (by omega)) hs
/-- v[j] = y, v the inner list number i -/
theorem ex_setAl {iv jv : Int} (y : τ) (hy : d = enc y) (hP : belowB b P = true) (hnb : n < b) (hi0 : 0 ≤ iv) (hi1 : iv < xss.length) (hj0 : 0 ≤ jv) (hj1 : jv < (xss.getD iv.toNat default).length)
    (he : Ev X B e ⟨ρ, P ++ nest n b enc xss⟩ (.fr d) ⟨ρ, P ++ nest n b enc xss⟩) (ho : Ev X B o ⟨ρ, P ++ nest n b enc xss⟩ (.ad (b + iv.toNat)) ⟨ρ, P ++ nest n b enc xss⟩) (ha : Ev X B a ⟨ρ, P ++ nest n b enc xss⟩ (.fr (.int jv)) ⟨ρ, P ++ nest n b enc xss⟩)
    (k : K (.nx ⟨ρ, P ++ nest n b enc (xss.set iv.toNat ((xss.getD iv.toNat default).set jv.toNat y))⟩))
    (hs : swapsWithSole [.Subscript o a p] e pos.line X.env = pure false := by rfl) (hw : swappedStores [.Subscript o a p] e X.env = pure none := by rfl)
    (h2 : (assignEach [.Subscript o a p] X.env).map (·.2) = [assign (.Subscript o a p) X.env] := by rfl)
    (hsub : ∀ v, assign (.Subscript o a p) X.env v = (do
      let ov ← holding [v] (eval o X.env)
      let iv ← holding [v, ov] (eval a X.env)
      standAt p
      holding [v, ov, iv] (setItem ov iv v)
      release [v, ov, iv] []) := by intro _; rfl) : Ex X B (.Assign [.Subscript o a p] e pos) ⟨ρ, P ++ nest n b enc xss⟩ K := by
  subst hy
  have hlt : iv.toNat < xss.length := by omega
  refine ex_setI (b + iv.toNat) he ho ha (getL_al hP hnb hi0 hi1) hj0 (by rw [List.length_map]; exact hj1) ?_ hs hw h2 hsub
  have e1 : setL (b + iv.toNat) (.fl (((xss.getD iv.toNat default).map enc).set jv.toNat (enc y))) (P ++ nest n b enc xss) = P ++ nest n b enc (xss.set iv.toNat ((xss.getD iv.toNat default).set jv.toNat y)) := by
    rw [← setL_nestI hP hnb hlt, List.map_set]
  show K (.nx ⟨ρ, setL (b + iv.toNat) _ (P ++ nest n b enc xss)⟩)
  rw [e1]; exact k
end
end Nz
set_option maxRecDepth 100000
set_option maxHeartbeats 4000000
namespace My
open PySem PySem.Spec PyProof.Rows L2 Nz
def top (i : Nat) : Stmt := PySem.Challenge.pw_neverlate_k14_first_fault_of_releases.main.body.getD i (.Pass ⟨0, 0, 0, 0⟩)
local macro_rules | `(tactic| walk_at "pad") => `(tactic| decide)
local macro_rules | `(tactic| walk_at "okd") => `(tactic| first | exact okD_int (by omega) | exact okD_str (by omega))
local macro_rules | `(tactic| walk_at "intt") => `(tactic| fail)
local macro_rules | `(tactic| walk_at "rep") => `(tactic| omega)
local macro_rules | `(tactic| walk_at "sdI") => `(tactic| omega)
local macro_rules | `(tactic| walk_at "sdN") => `(tactic| first | omega | (simp only [List.length_set]; omega))
local macro_rules | `(tactic| walk_at "lnl") => `(tactic| fail)
local macro_rules | `(tactic| walk_at "ext") => `(tactic| omega)
local macro_rules | `(tactic| walk_at "lcm") => `(tactic| omega)
local macro_rules | `(tactic| walk_at "fdivw") => `(tactic| exact fdivW_of (by omega) (by omega))
local macro_rules | `(tactic| walk_at "str") => `(tactic| (apply small_log; omega))
local macro_rules | `(tactic| walk_at "scan") => `(tactic| (unfold PySem.scanBound; omega))
local macro_rules | `(tactic| walk_at "mulw") => `(tactic| first | exact mulW_of (by omega) | with_reducible assumption)
local macro_rules | `(tactic| walk_at "divw") => `(tactic| first | exact divW_of (by omega) | with_reducible assumption)
local macro_rules | `(tactic| walk_at "some") => `(tactic| first | assumption | exact some_ofW (by assumption) | exact some_of (by assumption) | exact some_of2 (by assumption) | exact some_of3 (by assumption) | exact some_of4 (by assumption) | exact some_of5 (by assumption) | (simp_all; done))
local macro_rules | `(tactic| walk_at "mem") => `(tactic| first | assumption | exact minL_mem (by walk_at "ne") | exact maxL_mem (by walk_at "ne"))
local macro_rules | `(tactic| walk_at "sd") => `(tactic| first | omega | (have hyy := seq_range (by assumption); omega) | (have hyy := rng_lt (by assumption); omega) | (simp only [List.length_append, List.length_map, List.length_cons, List.length_nil, List.length_range, List.length_replicate] at *; omega) | decide | with_reducible assumption | exact Int.emod_nonneg _ (by omega) | exact Int.emod_lt_of_pos _ (by omega) | (constructor <;> omega) | (refine ⟨?_, ?_⟩ <;> omega))
local macro_rules | `(tactic| walk_at "mul") => `(tactic| first | exact Or.inl ⟨by omega, by omega⟩ | (have hyy := seq_range (by assumption); exact Or.inl ⟨by omega, by omega⟩) | exact Or.inr ⟨by omega, by omega⟩ | with_reducible assumption)
local macro_rules | `(tactic| walk_at "ne") => `(tactic| first | assumption | (intro h; subst h; contradiction) | (intro h; simp only [h, List.isEmpty_nil, not_true_eq_false] at *; done) | (intro h; have := congrArg List.length h; simp only [List.length_map, List.length_range, List.length_nil, List.length_append, List.length_cons] at this; omega) | (simp; done) | (intro h; simp [h] at *; done) | (intro h; simp [h] at *; omega))
local macro_rules | `(tactic| walk_at "pre") => `(tactic| first | omega | with_reducible assumption | (simp only [List.length_map]; omega) | (refine ⟨?_, ?_⟩ <;> first | omega | with_reducible assumption) | (refine ⟨?_, ?_, ?_⟩ <;> first | omega | with_reducible assumption) | (refine ⟨?_, ?_, ?_, ?_⟩ <;> first | omega | with_reducible assumption) | (have hyy := seq_range (by assumption); (repeat' apply And.intro) <;> omega))
structure Task where
  name : Str
  kinds : List (Str × Int × Int)
  ways : List (Str × Str × Int)
  deriving Inhabited
def fTask (t : Task) : List (Str × D) := [("name", D.str t.name), ("kinds", (eU (eT3 D.str D.int D.int)) t.kinds), ("ways", (eU (eT3 D.str D.str D.int)) t.ways)]
abbrev eTask (t : Task) : D := .obj "Task" (fTask t)
structure System where
  tasks : List Task
  table : List Int
  deriving Inhabited
def fSystem (t : System) : List (Str × D) := [("tasks", (eU eTask) t.tasks), ("table", (eU D.int) t.table)]
abbrev eSystem (t : System) : D := .obj "System" (fSystem t)
abbrev s_law_row : Stmt := top 34
abbrev s_law_numbers : Stmt := top 35
abbrev s_is_integer : Stmt := top 21
abbrev s_is_name : Stmt := top 22
abbrev s_is_kind : Stmt := top 23
abbrev s_is_way : Stmt := top 24
abbrev s_are_different : Stmt := top 25
abbrev s_are_kinds : Stmt := top 26
abbrev s_are_ways : Stmt := top 27
abbrev s_Task_init__ : Stmt := inClass (top 31) 0
abbrev s_Task_kind_number : Stmt := inClass (top 31) 3
abbrev s_Task_kind : Stmt := inClass (top 31) 7
abbrev s_law_names : Stmt := top 36
abbrev s_law_kinds : Stmt := top 37
abbrev s_law_ways : Stmt := top 38
abbrev s_is_table : Stmt := top 28
abbrev s_are_task_names : Stmt := top 29
abbrev s_System_init__ : Stmt := inClass (top 32) 0
abbrev s_Task_ways_from : Stmt := inClass (top 31) 6
abbrev s_follows : Stmt := top 9
abbrev s_is_legal_at : Stmt := top 11
abbrev s_check_releasesx : Stmt := top 10
abbrev s_check_releases : Stmt := top 10
abbrev s_law_known : Stmt := top 40
abbrev s_law_good : Stmt := top 41
abbrev s_law_fault : Stmt := top 42
abbrev s_law_coursen : Stmt := top 39
abbrev s_law_spoil : Stmt := top 43
abbrev s_law : Stmt := top 44
abbrev se_s_InvalidReleases : Stmt := inClass (top 7) 0
structure TX (P : Program) (K : Frag) (mg : Mg) where
  n_ValueError : mg "ValueError" = none
  n_abs : mg "abs" = none
  n_all : mg "all" = none
  n_any : mg "any" = none
  n_bool : mg "bool" = none
  n_enumerate : mg "enumerate" = none
  n_int : mg "int" = none
  n_isinstance : mg "isinstance" = none
  n_len : mg "len" = none
  n_list : mg "list" = none
  n_max : mg "max" = none
  n_range : mg "range" = none
  n_set : mg "set" = none
  n_str : mg "str" = none
  n_tuple : mg "tuple" = none
  n_zip : mg "zip" = none
  t_LONGEST_NAME : Tok
  c_LONGEST_NAME : mg "LONGEST_NAME" = some (.int 12 t_LONGEST_NAME)
  t_LONGEST_TABLE : Tok
  c_LONGEST_TABLE : mg "LONGEST_TABLE" = some (.int 1001 t_LONGEST_TABLE)
  t_MOST_CAPACITY : Tok
  c_MOST_CAPACITY : mg "MOST_CAPACITY" = some (.int 1000000 t_MOST_CAPACITY)
  t_MOST_KINDS : Tok
  c_MOST_KINDS : mg "MOST_KINDS" = some (.int 8 t_MOST_KINDS)
  t_MOST_TASKS : Tok
  c_MOST_TASKS : mg "MOST_TASKS" = some (.int 6 t_MOST_TASKS)
  t_MOST_UNITS : Tok
  c_MOST_UNITS : mg "MOST_UNITS" = some (.int 1000 t_MOST_UNITS)
  t_MOST_WAYS : Tok
  c_MOST_WAYS : mg "MOST_WAYS" = some (.int 16 t_MOST_WAYS)
  t_NAME_CHARACTERS : Tok
  c_NAME_CHARACTERS : mg "NAME_CHARACTERS" = some (.str "abcdefghijklmnopqrstuvwxyz0123456789" t_NAME_CHARACTERS)
  C_System : Addr
  q_System : mg "System" = some (.ref C_System)
  cl_System : Cls K C_System
  na_System_tasks : NoAttr K C_System "tasks"
  na_System_table : NoAttr K C_System "table"
  C_Task : Addr
  q_Task : mg "Task" = some (.ref C_Task)
  cl_Task : Cls K C_Task
  na_Task_name : NoAttr K C_Task "name"
  na_Task_kinds : NoAttr K C_Task "kinds"
  na_Task_ways : NoAttr K C_Task "ways"
  C_InvalidReleases : Addr
  q_InvalidReleases : mg "InvalidReleases" = some (.ref C_InvalidReleases)
  C_NeverlateError : Addr
  q_NeverlateError : mg "NeverlateError" = some (.ref C_NeverlateError)
  C_UnknownName : Addr
  q_UnknownName : mg "UnknownName" = some (.ref C_UnknownName)
  xc_InvalidReleases : ExcC K C_InvalidReleases
  fI_InvalidReleases : Addr
  fd_InvalidReleases : FuncData
  se_InvalidReleases : SupE K C_InvalidReleases fI_InvalidReleases
  si_InvalidReleases : SupI P K mg C_InvalidReleases fI_InvalidReleases fd_InvalidReleases ["self", "task_number", "release_number", "__class__"] ["self", "task_number", "release_number"] se_s_InvalidReleases
  eb_InvalidReleases : Binds K fd_InvalidReleases ["self", "task_number", "release_number"] []
  xd_InvalidReleases : XfC K C_InvalidReleases
  nf_InvalidReleases_task_number : PySem.W.findIn K (.ref C_InvalidReleases) "task_number" = some none
  nf_InvalidReleases_release_number : PySem.W.findIn K (.ref C_InvalidReleases) "release_number" = some none
  ex_InvalidReleases_InvalidReleases : PySem.W.exmOne K (.ref C_InvalidReleases) (.ref C_InvalidReleases) = some true
  ki_InvalidReleases_NeverlateError : PySem.W.kitOne K (.ref C_InvalidReleases) (.ref C_NeverlateError) = some true
  ki_InvalidReleases_UnknownName : PySem.W.kitOne K (.ref C_InvalidReleases) (.ref C_UnknownName) = some false
  kb_InvalidReleases_ValueError : PySem.W.kitOne K (.ref C_InvalidReleases) (.type "ValueError") = some true
  a_law_row : Addr
  d_law_row : FuncData
  F_law_row : Fun K "_law_row" "_law_row" s_law_row a_law_row d_law_row
  k_law_row : PySem.W.keepIn K (.ref a_law_row) = true
  m_law_row : mg "_law_row" = some (.ref a_law_row)
  b_law_row : Binds K d_law_row ["cell", "many"] []
  a_law_numbers : Addr
  d_law_numbers : FuncData
  F_law_numbers : Fun K "_law_numbers" "_law_numbers" s_law_numbers a_law_numbers d_law_numbers
  k_law_numbers : PySem.W.keepIn K (.ref a_law_numbers) = true
  m_law_numbers : mg "_law_numbers" = some (.ref a_law_numbers)
  b_law_numbers : Binds K d_law_numbers ["script", "many"] []
  a_is_integer : Addr
  d_is_integer : FuncData
  F_is_integer : Fun K "is_integer" "is_integer" s_is_integer a_is_integer d_is_integer
  k_is_integer : PySem.W.keepIn K (.ref a_is_integer) = true
  m_is_integer : mg "is_integer" = some (.ref a_is_integer)
  b_is_integer : Binds K d_is_integer ["value", "low", "high"] []
  a_is_name : Addr
  d_is_name : FuncData
  F_is_name : Fun K "is_name" "is_name" s_is_name a_is_name d_is_name
  k_is_name : PySem.W.keepIn K (.ref a_is_name) = true
  m_is_name : mg "is_name" = some (.ref a_is_name)
  b_is_name : Binds K d_is_name ["value"] []
  a_is_kind : Addr
  d_is_kind : FuncData
  F_is_kind : Fun K "is_kind" "is_kind" s_is_kind a_is_kind d_is_kind
  k_is_kind : PySem.W.keepIn K (.ref a_is_kind) = true
  m_is_kind : mg "is_kind" = some (.ref a_is_kind)
  b_is_kind : Binds K d_is_kind ["value"] []
  a_is_way : Addr
  d_is_way : FuncData
  F_is_way : Fun K "is_way" "is_way" s_is_way a_is_way d_is_way
  k_is_way : PySem.W.keepIn K (.ref a_is_way) = true
  m_is_way : mg "is_way" = some (.ref a_is_way)
  b_is_way : Binds K d_is_way ["value", "kind_names"] []
  a_are_different : Addr
  d_are_different : FuncData
  F_are_different : Fun K "are_different" "are_different" s_are_different a_are_different d_are_different
  k_are_different : PySem.W.keepIn K (.ref a_are_different) = true
  m_are_different : mg "are_different" = some (.ref a_are_different)
  b_are_different : Binds K d_are_different ["names"] []
  a_are_kinds : Addr
  d_are_kinds : FuncData
  F_are_kinds : Fun K "are_kinds" "are_kinds" s_are_kinds a_are_kinds d_are_kinds
  k_are_kinds : PySem.W.keepIn K (.ref a_are_kinds) = true
  m_are_kinds : mg "are_kinds" = some (.ref a_are_kinds)
  b_are_kinds : Binds K d_are_kinds ["kinds"] []
  a_are_ways : Addr
  d_are_ways : FuncData
  F_are_ways : Fun K "are_ways" "are_ways" s_are_ways a_are_ways d_are_ways
  k_are_ways : PySem.W.keepIn K (.ref a_are_ways) = true
  m_are_ways : mg "are_ways" = some (.ref a_are_ways)
  b_are_ways : Binds K d_are_ways ["ways", "kinds"] []
  a_Task_init__ : Addr
  d_Task_init__ : FuncData
  F_Task_init__ : Fun K "__init__" "Task.__init__" s_Task_init__ a_Task_init__ d_Task_init__
  k_Task_init__ : PySem.W.keepIn K (.ref a_Task_init__) = true
  mk_Task_init__ : Mk K C_Task a_Task_init__
  kb_Task_init___1_kinds_ways : KBn K d_Task_init__ ["self", "name", "kinds", "ways"] (1 + 1) ["kinds", "ways"] (fun us ws => us ++ ws) (fun vs zs => vs ++ zs)
  a_Task_kind_number : Addr
  d_Task_kind_number : FuncData
  F_Task_kind_number : Fun K "kind_number" "Task.kind_number" s_Task_kind_number a_Task_kind_number d_Task_kind_number
  k_Task_kind_number : PySem.W.keepIn K (.ref a_Task_kind_number) = true
  me_Task_kind_number : Meth K C_Task "kind_number" a_Task_kind_number
  b_Task_kind_number : Binds K d_Task_kind_number ["self", "kind_name"] []
  a_Task_kind : Addr
  d_Task_kind : FuncData
  F_Task_kind : Fun K "_kind" "Task._kind" s_Task_kind a_Task_kind d_Task_kind
  k_Task_kind : PySem.W.keepIn K (.ref a_Task_kind) = true
  me_Task_kind : Meth K C_Task "_kind" a_Task_kind
  b_Task_kind : Binds K d_Task_kind ["self", "kind_name"] []
  a_law_names : Addr
  d_law_names : FuncData
  F_law_names : Fun K "_law_names" "_law_names" s_law_names a_law_names d_law_names
  k_law_names : PySem.W.keepIn K (.ref a_law_names) = true
  m_law_names : mg "_law_names" = some (.ref a_law_names)
  b_law_names : Binds K d_law_names ["number", "many"] []
  a_law_kinds : Addr
  d_law_kinds : FuncData
  F_law_kinds : Fun K "_law_kinds" "_law_kinds" s_law_kinds a_law_kinds d_law_kinds
  k_law_kinds : PySem.W.keepIn K (.ref a_law_kinds) = true
  m_law_kinds : mg "_law_kinds" = some (.ref a_law_kinds)
  b_law_kinds : Binds K d_law_kinds ["numbers", "at"] []
  a_law_ways : Addr
  d_law_ways : FuncData
  F_law_ways : Fun K "_law_ways" "_law_ways" s_law_ways a_law_ways d_law_ways
  k_law_ways : PySem.W.keepIn K (.ref a_law_ways) = true
  m_law_ways : mg "_law_ways" = some (.ref a_law_ways)
  b_law_ways : Binds K d_law_ways ["numbers", "at", "kinds"] []
  a_is_table : Addr
  d_is_table : FuncData
  F_is_table : Fun K "is_table" "is_table" s_is_table a_is_table d_is_table
  k_is_table : PySem.W.keepIn K (.ref a_is_table) = true
  m_is_table : mg "is_table" = some (.ref a_is_table)
  b_is_table : Binds K d_is_table ["capacities"] []
  a_are_task_names : Addr
  d_are_task_names : FuncData
  F_are_task_names : Fun K "are_task_names" "are_task_names" s_are_task_names a_are_task_names d_are_task_names
  k_are_task_names : PySem.W.keepIn K (.ref a_are_task_names) = true
  m_are_task_names : mg "are_task_names" = some (.ref a_are_task_names)
  b_are_task_names : Binds K d_are_task_names ["names"] []
  a_System_init__ : Addr
  d_System_init__ : FuncData
  F_System_init__ : Fun K "__init__" "System.__init__" s_System_init__ a_System_init__ d_System_init__
  k_System_init__ : PySem.W.keepIn K (.ref a_System_init__) = true
  mk_System_init__ : Mk K C_System a_System_init__
  kb_System_init___1_table : KBn K d_System_init__ ["self", "tasks", "table"] (1 + 1) ["table"] (fun us ws => us ++ ws) (fun vs zs => vs ++ zs)
  a_Task_ways_from : Addr
  d_Task_ways_from : FuncData
  F_Task_ways_from : Fun K "ways_from" "Task.ways_from" s_Task_ways_from a_Task_ways_from d_Task_ways_from
  k_Task_ways_from : PySem.W.keepIn K (.ref a_Task_ways_from) = true
  me_Task_ways_from : Meth K C_Task "ways_from" a_Task_ways_from
  b_Task_ways_from : Binds K d_Task_ways_from ["self", "kind_name"] []
  a_follows : Addr
  d_follows : FuncData
  F_follows : Fun K "follows" "follows" s_follows a_follows d_follows
  k_follows : PySem.W.keepIn K (.ref a_follows) = true
  m_follows : mg "follows" = some (.ref a_follows)
  b_follows : Binds K d_follows ["task", "first", "second"] []
  a_is_legal_at : Addr
  d_is_legal_at : FuncData
  F_is_legal_at : Fun K "_is_legal_at" "_is_legal_at" s_is_legal_at a_is_legal_at d_is_legal_at
  k_is_legal_at : PySem.W.keepIn K (.ref a_is_legal_at) = true
  m_is_legal_at : mg "_is_legal_at" = some (.ref a_is_legal_at)
  b_is_legal_at : Binds K d_is_legal_at ["task", "releases", "number"] []
  a_check_releasesx : Addr
  d_check_releasesx : FuncData
  F_check_releasesx : Fun K "check_releases" "check_releases" s_check_releasesx a_check_releasesx d_check_releasesx
  k_check_releasesx : PySem.W.keepIn K (.ref a_check_releasesx) = true
  m_check_releasesx : mg "check_releases" = some (.ref a_check_releasesx)
  b_check_releasesx : Binds K d_check_releasesx ["system", "releases"] []
  a_check_releases : Addr
  d_check_releases : FuncData
  F_check_releases : Fun K "check_releases" "check_releases" s_check_releases a_check_releases d_check_releases
  k_check_releases : PySem.W.keepIn K (.ref a_check_releases) = true
  m_check_releases : mg "check_releases" = some (.ref a_check_releases)
  b_check_releases : Binds K d_check_releases ["system", "releases"] []
  a_law_known : Addr
  d_law_known : FuncData
  F_law_known : Fun K "_law_known" "_law_known" s_law_known a_law_known d_law_known
  k_law_known : PySem.W.keepIn K (.ref a_law_known) = true
  m_law_known : mg "_law_known" = some (.ref a_law_known)
  b_law_known : Binds K d_law_known ["kinds", "name"] []
  a_law_good : Addr
  d_law_good : FuncData
  F_law_good : Fun K "_law_good" "_law_good" s_law_good a_law_good d_law_good
  k_law_good : PySem.W.keepIn K (.ref a_law_good) = true
  m_law_good : mg "_law_good" = some (.ref a_law_good)
  b_law_good : Binds K d_law_good ["kinds", "ways", "course", "place"] []
  a_law_fault : Addr
  d_law_fault : FuncData
  F_law_fault : Fun K "_law_fault" "_law_fault" s_law_fault a_law_fault d_law_fault
  k_law_fault : PySem.W.keepIn K (.ref a_law_fault) = true
  m_law_fault : mg "_law_fault" = some (.ref a_law_fault)
  b_law_fault : Binds K d_law_fault ["parts", "courses"] []
  a_law_coursen : Addr
  d_law_coursen : FuncData
  F_law_coursen : Fun K "_law_course" "_law_course" s_law_coursen a_law_coursen d_law_coursen
  k_law_coursen : PySem.W.keepIn K (.ref a_law_coursen) = true
  m_law_coursen : mg "_law_course" = some (.ref a_law_coursen)
  b_law_coursen : Binds K d_law_coursen ["numbers", "at", "kinds", "ways", "many"] []
  a_law_spoil : Addr
  d_law_spoil : FuncData
  F_law_spoil : Fun K "_law_spoil" "_law_spoil" s_law_spoil a_law_spoil d_law_spoil
  k_law_spoil : PySem.W.keepIn K (.ref a_law_spoil) = true
  m_law_spoil : mg "_law_spoil" = some (.ref a_law_spoil)
  b_law_spoil : Binds K d_law_spoil ["numbers", "at", "courses"] []
  a_law : Addr
  d_law : FuncData
  F_law : Fun K "law" "law" s_law a_law d_law
  k_law : PySem.W.keepIn K (.ref a_law) = true
  m_law : mg "law" = some (.ref a_law)
  b_law : Binds K d_law ["script"] []
  e_law : ∀ (s : Shared) (v : Value), BindsTo s d_law ⟨[v], []⟩ [("script", v)]
section
variable {P : Program} {w : World} {K : Frag} {mg : Mg} {base : Heap}
theorem oi_InvalidReleases (T : TX P K mg) : FnOk P w K mg base CX0 1 T.fI_InvalidReleases T.fd_InvalidReleases ["self", "task_number", "release_number"] (spE T.C_InvalidReleases (fs2 "task_number" "release_number") 2) := sup2_ok T.si_InvalidReleases T.se_InvalidReleases.ox rfl T.nf_InvalidReleases_task_number T.nf_InvalidReleases_release_number (.con (.var (i := 2) rfl (by decide) (by decide) rfl rfl rfl (.con (.var (i := 1) rfl (by decide) (by decide) rfl rfl rfl (.con .nil))))) (by rw [sizeLine_eq]; decide)
def m_law_row_l0 (cell : Int) (zs0 : (List Int) × Int) (zy0 : Nat) : (List Int) × Int :=
  if (((10 : Int) ^ ((18 : Int)).toNat) ≤ (if cell < 0 then -cell else cell)) then ((zs0.1 ++ [(zs0.2 % (1009 : Int))]), (zs0.2 / (1009 : Int))) else let mixed : Int := (((zs0.2 * (48271 : Int)) + ((((0 : Int) + (zy0 : Int)) + (1 : Int)) * (69621 : Int))) % (2147483647 : Int))
  let mixed : Int := (((mixed * (16807 : Int)) + ((271 : Int) * (((0 : Int) + (zy0 : Int)) + (3 : Int)))) % (2147483629 : Int))
  ((zs0.1 ++ [(mixed % (1009 : Int))]), zs0.2)
def m_law_row (cell : Int) (many : Int) : List Int :=
  let rest1 : Int := (if cell < 0 then -cell else cell)
  ((List.range (many).toNat).foldl (m_law_row_l0 cell) (([] : List Int), rest1)).1
theorem len_row (cell many : Int) : (m_law_row cell many).length = many.toNat := by
  have key : ∀ (n : Nat) (xs : List Nat) (s : List Int × Int), ((xs.foldl (m_law_row_l0 cell) s).1).length = s.1.length + xs.length := by
    intro _ xs
    induction xs with
    | nil => intro s; rfl
    | cons x r ih =>
      intro s
      rw [List.foldl_cons, ih]
      have : ((m_law_row_l0 cell s x).1).length = s.1.length + 1 := by
        unfold m_law_row_l0
        split <;> split <;> simp
      rw [this, List.length_cons]; omega
  have := key 0 (List.range (many).toNat) (([] : List Int), (if cell < 0 then -cell else cell))
  unfold m_law_row
  simpa using this
theorem mem_row (cell many : Int) : ∀ x ∈ m_law_row cell many, 0 ≤ x ∧ x ≤ 1008 := by
  have key : ∀ (xs : List Nat) (s : List Int × Int), (∀ x ∈ s.1, 0 ≤ x ∧ x ≤ 1008) → ∀ x ∈ ((xs.foldl (m_law_row_l0 cell) s).1), 0 ≤ x ∧ x ≤ 1008 := by
    intro xs
    induction xs with
    | nil => intro s h; exact h
    | cons y r ih =>
      intro s h
      rw [List.foldl_cons]
      refine ih _ ?_
      have app : ∀ (v : Int), 0 ≤ v ∧ v ≤ 1008 → ∀ x ∈ s.1 ++ [v], 0 ≤ x ∧ x ≤ 1008 := fun v hv x hx => by
        rcases List.mem_append.mp hx with hx | hx
        · exact h x hx
        · rw [List.mem_singleton.mp hx]; exact hv
      unfold m_law_row_l0
      split <;> split <;> exact app _ (by omega)
  unfold m_law_row
  exact key _ _ (fun x hx => absurd hx (by simp))
theorem sc_law_row : FnScope ["cell", "many", "row", "rest", "k", "mixed"] ["cell", "many"] (defScope s_law_row) := ⟨rfl, rfl, rfl, by decide +kernel, rfl, by decide +kernel, by decide +kernel⟩
def sp_law_row : SpN := fun zcs zL zKc => ∃ cell : Int, ∃ many : Int, zcs = [.fr (D.int cell), .fr (D.int many)] ∧ zL = [] ∧ (0 ≤ many ∧ many ≤ 1001) ∧ ∀ zL', zKc (.fr ((eL D.int) (m_law_row cell many))) zL'
theorem ok_law_row (T : TX P K mg) : FnOk P w K mg base CX0 1 T.a_law_row T.d_law_row ["cell", "many"] (SpOf K mg sp_law_row) := by
  refine T.F_law_row.okN sc_law_row (fun zcs zL zKc zh => by obtain ⟨cell, many, rfl, _⟩ := zh; rfl) fun zcdv zA zout zst zH zE zB zcs zL zKc zhr zh => ?_
  obtain ⟨cell, many, rfl, rfl, hpre, zk⟩ := zh
  have nd := sc_law_row.nd
  have hSL := sizeLine_eq
  show Exs _ _ _ ⟨[some (.fr (D.int cell)), some (.fr (D.int many)), none, none, none, none], []⟩ _
  refine exs_cons (ex_set 2 (ev_lstN 100 (enc := D.int) ([] : List Int) ea_nil rfl (by simp only [List.length_cons, List.length_nil]; decide) (by simp [names]) (by decide)) ?_ nd rfl (.inl rfl))
  show Exs _ _ _ ⟨[some (.fr (D.int cell)), some (.fr (D.int many)), some (.ad 100), none, none, none], [(100, .fl ((([] : List Int)).map D.int))]⟩ _
  refine exs_cons (ex_set 3 (ev_callB (ds := [D.int cell]) c_abs (ea_cons (ev_var 0 rfl (.inl rfl) rfl) ea_nil) (by exact rfl) T.n_abs (by decide +kernel)) ?_ nd rfl (.inl rfl))
  show Exs _ _ _ ⟨[some (.fr (D.int cell)), some (.fr (D.int many)), some (.ad 100), some (.fr (D.int (if cell < 0 then -cell else cell))), none, none], [(100, .fl ((([] : List Int)).map D.int))]⟩ _
  generalize zg_rest : (if cell < 0 then -cell else cell) = rest
  show Exs _ _ _ ⟨[some (.fr (D.int cell)), some (.fr (D.int many)), some (.ad 100), some (.fr (D.int rest)), none, none], [(100, .fl ((([] : List Int)).map D.int))]⟩ _
  refine exs_cons (ex_forF (enc := (fun i : Nat => D.int ((0 : Int) + (i : Int)))) (fun (zs0 : (List Int) × Int) => (⟨[some (.fr (D.int cell)), some (.fr (D.int many)), some (.ad 100), some (.fr (D.int zs0.2)), none, none], [(100, .fl ((zs0.1).map D.int))]⟩ : Nz.S)) (m_law_row_l0 cell) (([] : List Int), rest) (fun (zi0 : Nat) (zs0 : (List Int) × Int) => zs0.1.length ≤ zi0) (src_range1 (ea_cons (ev_var 1 rfl (.inl rfl) rfl) ea_nil) (by exact rfl) T.n_range (by walk_at "sd") (by walk_at "sd")) ⟨⟨.inr rfl, .inr rfl, .inr rfl, .inr rfl, .inl rfl, .inl rfl, trivial⟩, rfl⟩ (by simp) ?_ ?_ PassesOwn.never rfl)
  · intro zi0 zy0 zs0 zhy0 zq0
    skip
    have hi := (List.getElem?_eq_some_iff.mp zhy0).1
    simp only [List.length_range] at hi
    refine ⟨⟨[some (.fr (D.int cell)), some (.fr (D.int many)), some (.ad 100), some (.fr (D.int zs0.2)), some (.fr (D.int ((0 : Int) + (zy0 : Int)))), none], [(100, .fl ((zs0.1).map D.int))]⟩, (eg_name 4 nd rfl (.inl rfl)), ?_⟩
    refine exs_one (ex_ifP bd_d (et_cmp o_ge (ev_callB (ds := [D.int cell]) c_abs (ea_cons (ev_var 0 rfl (.inl rfl) rfl) ea_nil) (by exact rfl) T.n_abs (by decide +kernel)) (ev_bin (o_pow (by unfold CPow; decide)) ev_int ev_int) (nomark _)) (fun (zh1 : (((10 : Int) ^ ((18 : Int)).toNat) ≤ (if cell < 0 then -cell else cell))) => ?_) (fun (zh1 : ¬ (((10 : Int) ^ ((18 : Int)).toNat) ≤ (if cell < 0 then -cell else cell))) => ?_))
    · skip
      refine exs_cons (ex_expr (ev_appendT (n := 100) (enc := D.int) (xs := zs0.1) (xs0 := zs0.1) (zs0.2 % (1009 : Int)) rfl rfl rfl (by walk_at "sd") (ev_var 2 rfl (.inl rfl) rfl) (ev_bin (o_mod (by walk_at "sd")) (ev_var 3 rfl (.inl rfl) rfl) ev_int)) ?_)
      show Exs _ _ _ ⟨[some (.fr (D.int cell)), some (.fr (D.int many)), some (.ad 100), some (.fr (D.int zs0.2)), some (.fr (D.int ((0 : Int) + (zy0 : Int)))), none], [(100, .fl (((zs0.1 ++ [(zs0.2 % (1009 : Int))])).map D.int))]⟩ _
      refine exs_one (ex_set 3 (ev_bin (o_div (by walk_at "sd") (by walk_at "sd")) (ev_var 3 rfl (.inl rfl) rfl) ev_int) ?_ nd rfl (.inl rfl))
      have est : (m_law_row_l0 cell) zs0 zy0 = ((zs0.1 ++ [(zs0.2 % (1009 : Int))]), (zs0.2 / (1009 : Int))) := by simp only [m_law_row_l0, not_true_eq_false, not_false_eq_true, ↓reduceIte, ↓if_pos zh1]
      show Le _ _ ∧ _
      try rw [est]
      exact ⟨⟨⟨.inr rfl, .inr rfl, .inr rfl, .inr rfl, .inl rfl, .inl rfl, trivial⟩, rfl⟩, (by simp; omega)⟩
    · skip
      refine exs_cons (ex_set 5 (ev_bin (o_mod (by walk_at "sd")) (ev_bin o_add (ev_bin (o_mul (by walk_at "mul")) (ev_var 3 rfl (.inl rfl) rfl) ev_int) (ev_bin (o_mul (by walk_at "mul")) (ev_bin o_add (ev_var 4 rfl (.inl rfl) rfl) ev_int) ev_int)) ev_int) ?_ nd rfl (.inl rfl))
      show Exs _ _ _ ⟨[some (.fr (D.int cell)), some (.fr (D.int many)), some (.ad 100), some (.fr (D.int zs0.2)), some (.fr (D.int ((0 : Int) + (zy0 : Int)))), some (.fr (D.int (((zs0.2 * (48271 : Int)) + ((((0 : Int) + (zy0 : Int)) + (1 : Int)) * (69621 : Int))) % (2147483647 : Int))))], [(100, .fl ((zs0.1).map D.int))]⟩ _
      generalize zg_mixed : (((zs0.2 * (48271 : Int)) + ((((0 : Int) + (zy0 : Int)) + (1 : Int)) * (69621 : Int))) % (2147483647 : Int)) = mixed
      show Exs _ _ _ ⟨[some (.fr (D.int cell)), some (.fr (D.int many)), some (.ad 100), some (.fr (D.int zs0.2)), some (.fr (D.int ((0 : Int) + (zy0 : Int)))), some (.fr (D.int mixed))], [(100, .fl ((zs0.1).map D.int))]⟩ _
      refine exs_cons (ex_set 5 (ev_bin (o_mod (by walk_at "sd")) (ev_bin o_add (ev_bin (o_mul (by walk_at "mul")) (ev_var 5 rfl (.inl rfl) rfl) ev_int) (ev_bin (o_mul (by walk_at "mul")) ev_int (ev_bin o_add (ev_var 4 rfl (.inl rfl) rfl) ev_int))) ev_int) ?_ nd rfl (.inl rfl))
      show Exs _ _ _ ⟨[some (.fr (D.int cell)), some (.fr (D.int many)), some (.ad 100), some (.fr (D.int zs0.2)), some (.fr (D.int ((0 : Int) + (zy0 : Int)))), some (.fr (D.int (((mixed * (16807 : Int)) + ((271 : Int) * (((0 : Int) + (zy0 : Int)) + (3 : Int)))) % (2147483629 : Int))))], [(100, .fl ((zs0.1).map D.int))]⟩ _
      generalize zg_mixed1 : (((mixed * (16807 : Int)) + ((271 : Int) * (((0 : Int) + (zy0 : Int)) + (3 : Int)))) % (2147483629 : Int)) = mixed1
      show Exs _ _ _ ⟨[some (.fr (D.int cell)), some (.fr (D.int many)), some (.ad 100), some (.fr (D.int zs0.2)), some (.fr (D.int ((0 : Int) + (zy0 : Int)))), some (.fr (D.int mixed1))], [(100, .fl ((zs0.1).map D.int))]⟩ _
      refine exs_one (ex_expr (ev_appendT (n := 100) (enc := D.int) (xs := zs0.1) (xs0 := zs0.1) (mixed1 % (1009 : Int)) rfl rfl rfl (by walk_at "sd") (ev_var 2 rfl (.inl rfl) rfl) (ev_bin (o_mod (by walk_at "sd")) (ev_var 5 rfl (.inl rfl) rfl) ev_int)) ?_)
      have est : (m_law_row_l0 cell) zs0 zy0 = ((zs0.1 ++ [(mixed1 % (1009 : Int))]), zs0.2) := by subst zg_mixed1; subst zg_mixed; simp only [m_law_row_l0, not_true_eq_false, not_false_eq_true, ↓reduceIte, ↓if_neg zh1]
      show Le _ _ ∧ _
      try rw [est]
      exact ⟨⟨⟨.inr rfl, .inr rfl, .inr rfl, .inr rfl, .inl rfl, .inl rfl, trivial⟩, rfl⟩, (by simp; omega)⟩
  · intro zq0
    show Exs _ _ _ ⟨[some (.fr (D.int cell)), some (.fr (D.int many)), some (.ad 100), some (.fr (D.int (((List.range (many).toNat).foldl (m_law_row_l0 cell) (([] : List Int), rest)).2))), none, none], [(100, .fl ((((List.range (many).toNat).foldl (m_law_row_l0 cell) (([] : List Int), rest)).1).map D.int))]⟩ _
    refine exs_freezeT 100 (xs := ((List.range (many).toNat).foldl (m_law_row_l0 cell) (([] : List Int), rest)).1) (enc := D.int) (by exact rfl) ?_
    show Exs _ _ _ ⟨[some (.fr (D.int cell)), some (.fr (D.int many)), some (.fr ((eL D.int) (((List.range (many).toNat).foldl (m_law_row_l0 cell) (([] : List Int), rest)).1))), some (.fr (D.int (((List.range (many).toNat).foldl (m_law_row_l0 cell) (([] : List Int), rest)).2))), none, none], []⟩ _
    refine exs_one (ex_ret (ev_var 2 rfl (.inl rfl) rfl) ?_)
    have efin : m_law_row cell many = ((List.range (many).toNat).foldl (m_law_row_l0 cell) (([] : List Int), rest)).1 := by subst zg_rest; simp only [m_law_row, not_true_eq_false, not_false_eq_true, ↓reduceIte]
    rw [efin] at zk
    exact zk _
def m_law_numbers_l1 (zs1 : (List Int)) (zy1 : Int) : (List Int) :=
  (zs1 ++ [zy1])
def m_law_numbers_l0 (each : Int) (zs0 : (List Int)) (zy0 : Int) : (List Int) :=
  ((m_law_row zy0 each).foldl (m_law_numbers_l1) zs0)
def m_law_numbers_c2 (many : Int) (zs0 : (List Int)) : Bool := (decide ((zs0.length : Int) < many))
def m_law_numbers_w2 (many : Int) (zs0 : (List Int)) : (List Int) :=
  (zs0 ++ [(0 : Int)])
def m_law_numbers (script : List Int) (many : Int) : List Int :=
  let cells1 : List Int := (slcD script none (some (63 : Int)))
  let each1 : Int := ((1 : Int) + (many / (if (cells1.length : Int) > (1 : Int) then (cells1.length : Int) else (1 : Int))))
  (slcD (iterW (m_law_numbers_c2 many) (m_law_numbers_w2 many) ((many).toNat) (cells1.foldl (m_law_numbers_l0 each1) ([] : List Int))) none (some many))
theorem cut63_len (xs : List Int) : (slcD xs none (some (63 : Int))).length ≤ 63 := by
  unfold slcD
  rw [List.length_take, HT.sIx_none, show (63 : Int) = ((63 : Nat) : Int) from rfl, HT.sIx_nat]
  omega
theorem fold_app (xs s : List Int) : xs.foldl m_law_numbers_l1 s = s ++ xs := by
  induction xs generalizing s with
  | nil => simp
  | cons x r ih => rw [List.foldl_cons, ih]; unfold m_law_numbers_l1; simp
theorem fill_eq (many : Int) : ∀ (n : Nat) (s : List Int), (many - (s.length : Int)).toNat ≤ n → iterW (m_law_numbers_c2 many) (m_law_numbers_w2 many) n s = s ++ List.replicate (many - (s.length : Int)).toNat 0
  | 0, s, h => by
    have e : (many - (s.length : Int)).toNat = 0 := by omega
    rw [e]; simp [iterW]
  | n + 1, s, h => by
    unfold iterW
    by_cases hc : (s.length : Int) < many
    · have e : (many - (s.length : Int)).toNat = (many - ((s ++ [(0 : Int)]).length : Int)).toNat + 1 := by
        simp only [List.length_append, List.length_cons, List.length_nil]; omega
      rw [if_pos (by simpa [m_law_numbers_c2] using hc)]
      show iterW _ _ n (s ++ [(0 : Int)]) = _
      rw [fill_eq many n _ (by simp only [List.length_append, List.length_cons, List.length_nil] at e ⊢; omega), e, List.replicate_succ, List.append_assoc]
      rfl
    · have e : (many - (s.length : Int)).toNat = 0 := by omega
      rw [if_neg (by simpa [m_law_numbers_c2] using hc), e]; simp
theorem numbers_facts (script : List Int) (many : Int) (h0 : 0 ≤ many) : (m_law_numbers script many).length = many.toNat ∧ ∀ x ∈ m_law_numbers script many, 0 ≤ x ∧ x ≤ 1008 := by
  have key : ∀ (each : Int) (xs s : List Int), (∀ x ∈ s, 0 ≤ x ∧ x ≤ 1008) → ∀ x ∈ xs.foldl (m_law_numbers_l0 each) s, 0 ≤ x ∧ x ≤ 1008 := by
    intro each xs
    induction xs with
    | nil => intro s h; exact h
    | cons y r ih =>
      intro s h
      rw [List.foldl_cons]
      refine ih _ fun x hx => ?_
      unfold m_law_numbers_l0 at hx
      rw [fold_app] at hx
      rcases List.mem_append.mp hx with hx | hx
      · exact h x hx
      · exact mem_row _ _ x hx
  unfold m_law_numbers
  dsimp only
  generalize hS : (slcD script none (some (63 : Int))).foldl _ _ = S
  have hm : ∀ x ∈ S, 0 ≤ x ∧ x ≤ 1008 := by rw [← hS]; exact key _ _ _ (fun x hx => absurd hx (by simp))
  rw [fill_eq many _ S (by omega)]
  unfold slcD
  rw [HT.sIx_none, List.drop_zero]
  have hl : (S ++ List.replicate (many - (S.length : Int)).toNat (0 : Int)).length = S.length + (many - (S.length : Int)).toNat := by simp
  have e1 : HT.sIx (S ++ List.replicate (many - (S.length : Int)).toNat (0 : Int)).length (S ++ List.replicate (many - (S.length : Int)).toNat (0 : Int)).length (some many) = many.toNat := by
    obtain ⟨n, rfl⟩ := Int.eq_ofNat_of_zero_le h0
    rw [HT.sIx_nat, hl]
    omega
  rw [e1]
  refine ⟨by rw [List.length_take, hl]; omega, fun x hx => ?_⟩
  have hx := List.mem_of_mem_take hx
  rcases List.mem_append.mp hx with hx | hx
  · exact hm x hx
  · rw [(List.mem_replicate.mp hx).2]; omega
theorem getD_bound {xs : List Int} (h : ∀ x ∈ xs, 0 ≤ x ∧ x ≤ 1008) (i : Nat) : 0 ≤ xs.getD i default ∧ xs.getD i default ≤ 1008 := by
  rw [List.getD_eq_getElem?_getD]
  cases e : xs[i]? with
  | none => exact ⟨Int.le_refl _, by decide⟩
  | some v => exact h v (List.mem_of_getElem? e)
theorem sc_law_numbers : FnScope ["script", "many", "cells", "each", "numbers", "cell", "number"] ["script", "many"] (defScope s_law_numbers) := ⟨rfl, rfl, rfl, by decide +kernel, rfl, by decide +kernel, by decide +kernel⟩
def sp_law_numbers : SpN := fun zcs zL zKc => ∃ script : List Int, ∃ many : Int, zcs = [.fr ((eL D.int) script), .fr (D.int many)] ∧ zL = [] ∧ (script.length ≤ 63 ∧ 0 ≤ many ∧ many ≤ 1000) ∧ ∀ zL', zKc (.fr ((eL D.int) (m_law_numbers script many))) zL'
theorem ok_law_numbers (T : TX P K mg) : FnOk P w K mg base CX0 2 T.a_law_numbers T.d_law_numbers ["script", "many"] (SpOf K mg sp_law_numbers) := by
  have O_law_row := ok_law_row (P := P) (w := w) (base := base) T
  refine T.F_law_numbers.okN sc_law_numbers (fun zcs zL zKc zh => by obtain ⟨script, many, rfl, _⟩ := zh; rfl) fun zcdv zA zout zst zH zE zB zcs zL zKc zhr zh => ?_
  obtain ⟨script, many, rfl, rfl, hpre, zk⟩ := zh
  have nd := sc_law_numbers.nd
  have hSL := sizeLine_eq
  show Exs _ _ _ ⟨[some (.fr ((eL D.int) script)), some (.fr (D.int many)), none, none, none, none, none], []⟩ _
  refine exs_cons (ex_set 2 (ev_sliceT (enc := D.int) (xs := script) (by exact rfl) (ev_var 0 rfl (.inl rfl) rfl) eo_none (eo_some ev_int)) ?_ nd rfl (.inl rfl))
  show Exs _ _ _ ⟨[some (.fr ((eL D.int) script)), some (.fr (D.int many)), some (.fr ((eL D.int) (slcD script none (some (63 : Int))))), none, none, none, none], []⟩ _
  generalize zg_cells : (slcD script none (some (63 : Int))) = cells
  show Exs _ _ _ ⟨[some (.fr ((eL D.int) script)), some (.fr (D.int many)), some (.fr ((eL D.int) cells)), none, none, none, none], []⟩ _
  have hcl : cells.length ≤ 63 := by rw [← zg_cells]; exact cut63_len script
  refine exs_cons (ex_set 3 (ev_bin o_add ev_int (ev_bin (o_div (by walk_at "sd") (by walk_at "sd")) (ev_var 1 rfl (.inl rfl) rfl) (ev_callB (ds := [D.int (1 : Int), D.int (cells.length : Int)]) (c_max2 rfl) (ea_cons ev_int (ea_cons (ev_len (ln_L (xs := cells) (enc := D.int) (by exact rfl)) (ev_var 2 rfl (.inl rfl) rfl) (by exact rfl) T.n_len) ea_nil)) (by exact rfl) T.n_max (by decide +kernel)))) ?_ nd rfl (.inl rfl))
  show Exs _ _ _ ⟨[some (.fr ((eL D.int) script)), some (.fr (D.int many)), some (.fr ((eL D.int) cells)), some (.fr (D.int ((1 : Int) + (many / (if (cells.length : Int) > (1 : Int) then (cells.length : Int) else (1 : Int)))))), none, none, none], []⟩ _
  generalize zg_each : ((1 : Int) + (many / (if (cells.length : Int) > (1 : Int) then (cells.length : Int) else (1 : Int)))) = each
  show Exs _ _ _ ⟨[some (.fr ((eL D.int) script)), some (.fr (D.int many)), some (.fr ((eL D.int) cells)), some (.fr (D.int each)), none, none, none], []⟩ _
  have heach : 1 ≤ each ∧ each ≤ 1001 := by rw [← zg_each]; split <;> (constructor <;> first | omega | (have := Int.ediv_le_self (cells.length : Int) hpre.2.1; have := Int.ediv_nonneg hpre.2.1 (show (0:Int) ≤ (cells.length : Int) by omega); omega))
  refine exs_cons (ex_set 4 (ev_lstN 100 (enc := D.int) ([] : List Int) ea_nil rfl (by simp only [List.length_cons, List.length_nil]; decide) (by simp [names]) (by decide)) ?_ nd rfl (.inl rfl))
  show Exs _ _ _ ⟨[some (.fr ((eL D.int) script)), some (.fr (D.int many)), some (.fr ((eL D.int) cells)), some (.fr (D.int each)), some (.ad 100), none, none], [(100, .fl ((([] : List Int)).map D.int))]⟩ _
  refine exs_cons (ex_forF (enc := D.int) (fun (zs0 : (List Int)) => (⟨[some (.fr ((eL D.int) script)), some (.fr (D.int many)), some (.fr ((eL D.int) cells)), some (.fr (D.int each)), some (.ad 100), none, none], [(100, .fl ((zs0).map D.int))]⟩ : Nz.S)) (m_law_numbers_l0 each) ([] : List Int) (fun (zi0 : Nat) (zs0 : (List Int)) => zs0.length ≤ 1001 * zi0) (src_listT (ev_var 2 rfl (.inl rfl) rfl)) ⟨⟨.inr rfl, .inr rfl, .inr rfl, .inr rfl, .inr rfl, .inl rfl, .inl rfl, trivial⟩, rfl⟩ (by simp) ?_ ?_ PassesOwn.never rfl)
  · intro zi0 zy0 zs0 zhy0 zq0
    skip
    have hi := (List.getElem?_eq_some_iff.mp zhy0).1
    have hrl := len_row zy0 each
    refine ⟨⟨[some (.fr ((eL D.int) script)), some (.fr (D.int many)), some (.fr ((eL D.int) cells)), some (.fr (D.int each)), some (.ad 100), some (.fr (D.int zy0)), none], [(100, .fl ((zs0).map D.int))]⟩, (eg_name 5 nd rfl (.inl rfl)), ?_⟩
    refine exs_one (ex_forF (enc := D.int) (fun (zs1 : (List Int)) => (⟨[some (.fr ((eL D.int) script)), some (.fr (D.int many)), some (.fr ((eL D.int) cells)), some (.fr (D.int each)), some (.ad 100), some (.fr (D.int zy0)), none], [(100, .fl ((zs1).map D.int))]⟩ : Nz.S)) (m_law_numbers_l1) zs0 (fun (zi1 : Nat) (zs1 : (List Int)) => zs1.length ≤ 1001 * zi0 + zi1) (src_listT (ev_call (ds := [D.int zy0, D.int each]) (ds' := []) (dvs := []) (dfs := []) O_law_row (zhr.mono (by decide)) T.m_law_row T.k_law_row T.b_law_row .nil (fun _ => .nil) (ea_cons (ev_var 5 rfl (.inl rfl) rfl) (ea_cons (ev_var 3 rfl (.inl rfl) rfl) ea_nil)) (fun _ zkk => ⟨zy0, each, rfl, rfl, (by walk_at "pre"), zkk⟩) (by exact rfl))) ⟨⟨.inr rfl, .inr rfl, .inr rfl, .inr rfl, .inr rfl, .inr rfl, .inl rfl, trivial⟩, rfl⟩ (by omega) ?_ ?_ PassesOwn.never rfl)
    · intro zi1 zy1 zs1 zhy1 zq1
      skip
      have hi1 := (List.getElem?_eq_some_iff.mp zhy1).1
      refine ⟨⟨[some (.fr ((eL D.int) script)), some (.fr (D.int many)), some (.fr ((eL D.int) cells)), some (.fr (D.int each)), some (.ad 100), some (.fr (D.int zy0)), some (.fr (D.int zy1))], [(100, .fl ((zs1).map D.int))]⟩, (eg_name 6 nd rfl (.inl rfl)), ?_⟩
      refine exs_one (ex_expr (ev_appendT (n := 100) (enc := D.int) (xs := zs1) (xs0 := zs1) zy1 rfl rfl rfl (by walk_at "sd") (ev_var 4 rfl (.inl rfl) rfl) (ev_var 6 rfl (.inl rfl) rfl)) ?_)
      have est : (m_law_numbers_l1) zs1 zy1 = (zs1 ++ [zy1]) := by simp only [m_law_numbers_l1, not_true_eq_false, not_false_eq_true, ↓reduceIte]
      show Le _ _ ∧ _
      try rw [est]
      exact ⟨⟨⟨.inr rfl, .inr rfl, .inr rfl, .inr rfl, .inr rfl, .inr rfl, .inl rfl, trivial⟩, rfl⟩, (by simp; omega)⟩
    · intro zq1
      have est : (m_law_numbers_l0 each) zs0 zy0 = ((m_law_row zy0 each).foldl (m_law_numbers_l1) zs0) := by simp only [m_law_numbers_l0, not_true_eq_false, not_false_eq_true, ↓reduceIte]
      show Le _ _ ∧ _
      try rw [est]
      exact ⟨⟨⟨.inr rfl, .inr rfl, .inr rfl, .inr rfl, .inr rfl, .inl rfl, .inl rfl, trivial⟩, rfl⟩, (by omega)⟩
  · intro zq0
    show Exs _ _ _ ⟨[some (.fr ((eL D.int) script)), some (.fr (D.int many)), some (.fr ((eL D.int) cells)), some (.fr (D.int each)), some (.ad 100), none, none], [(100, .fl (((cells.foldl (m_law_numbers_l0 each) ([] : List Int))).map D.int))]⟩ _
    refine exs_cons (ex_whileF (fun (zs0 : (List Int)) => (⟨[some (.fr ((eL D.int) script)), some (.fr (D.int many)), some (.fr ((eL D.int) cells)), some (.fr (D.int each)), some (.ad 100), none, none], [(100, .fl ((zs0).map D.int))]⟩ : Nz.S)) (m_law_numbers_c2 many) (m_law_numbers_w2 many) (cells.foldl (m_law_numbers_l0 each) ([] : List Int)) ((many).toNat) (fun (zs0 : (List Int)) => zs0.length ≤ 100000) (fun (zs0 : (List Int)) => (many - (zs0.length : Int)).toNat) ⟨⟨.inr rfl, .inr rfl, .inr rfl, .inr rfl, .inr rfl, .inl rfl, .inl rfl, trivial⟩, rfl⟩ (by omega) (by walk_at "sd") ?_ ?_ ?_ ?_ PassesOwn.never)
    · intro zs0 zq0 zhc0
      simp only [m_law_numbers_c2, decide_eq_true_eq] at zhc0
      simp only [m_law_numbers_w2, List.length_append, List.length_cons, List.length_nil]
      exact ⟨by omega, by omega⟩
    · intro zs0 zq0
      exact (et_cmp o_lt (ev_len (ln_L (xs := zs0) (enc := D.int) (by exact rfl)) (ev_var 4 rfl (.inl rfl) rfl) (by exact rfl) T.n_len) (ev_var 1 rfl (.inl rfl) rfl) (nomark _))
    · intro zs0 zq0 zhc0
      simp only [m_law_numbers_c2, decide_eq_true_eq] at zhc0
      show Exs _ _ _ ⟨[some (.fr ((eL D.int) script)), some (.fr (D.int many)), some (.fr ((eL D.int) cells)), some (.fr (D.int each)), some (.ad 100), none, none], [(100, .fl ((zs0).map D.int))]⟩ _
      refine exs_one (ex_expr (ev_appendT (n := 100) (enc := D.int) (xs := zs0) (xs0 := zs0) (0 : Int) rfl rfl rfl (by walk_at "sd") (ev_var 4 rfl (.inl rfl) rfl) ev_int) ?_)
      have est : (m_law_numbers_w2 many) zs0 = (zs0 ++ [(0 : Int)]) := by simp only [m_law_numbers_w2, ↓reduceIte]
      show Le _ _ ∧ _
      rw [est]
      exact ⟨⟨⟨.inr rfl, .inr rfl, .inr rfl, .inr rfl, .inr rfl, .inl rfl, .inl rfl, trivial⟩, rfl⟩, trivial⟩
    · intro zq0 zhc0
      show Exs _ _ _ ⟨[some (.fr ((eL D.int) script)), some (.fr (D.int many)), some (.fr ((eL D.int) cells)), some (.fr (D.int each)), some (.ad 100), none, none], [(100, .fl (((iterW (m_law_numbers_c2 many) (m_law_numbers_w2 many) ((many).toNat) (cells.foldl (m_law_numbers_l0 each) ([] : List Int)))).map D.int))]⟩ _
      refine exs_one (ex_ret (ev_sliceT (enc := D.int) (xs := (iterW (m_law_numbers_c2 many) (m_law_numbers_w2 many) ((many).toNat) (cells.foldl (m_law_numbers_l0 each) ([] : List Int)))) (by exact rfl) (ev_var 4 rfl (.inl rfl) rfl) eo_none (eo_some (ev_var 1 rfl (.inl rfl) rfl))) ?_)
      have efin : m_law_numbers script many = (slcD (iterW (m_law_numbers_c2 many) (m_law_numbers_w2 many) ((many).toNat) (cells.foldl (m_law_numbers_l0 each) ([] : List Int))) none (some many)) := by subst zg_each; subst zg_cells; simp only [m_law_numbers, not_true_eq_false, not_false_eq_true, ↓reduceIte]
      rw [efin] at zk
      exact zk _
def m_is_integer (value : Int) (low : Int) (high : Int) : Bool :=
  (true && ((!false) && ((decide (low ≤ value)) && (decide (value ≤ high)))))
theorem sc_is_integer : FnScope ["value", "low", "high"] ["value", "low", "high"] (defScope s_is_integer) := ⟨rfl, rfl, rfl, by decide +kernel, rfl, by decide +kernel, by decide +kernel⟩
def sp_is_integer : SpN := fun zcs zL zKc => ∃ value : Int, ∃ low : Int, ∃ high : Int, zcs = [.fr (D.int value), .fr (D.int low), .fr (D.int high)] ∧ zL = [] ∧ (True) ∧ ∀ zL', zKc (.fr (D.bl (m_is_integer value low high))) zL'
theorem ok_is_integer (T : TX P K mg) : FnOk P w K mg base CX0 1 T.a_is_integer T.d_is_integer ["value", "low", "high"] (SpOf K mg sp_is_integer) := by
  refine T.F_is_integer.okN sc_is_integer (fun zcs zL zKc zh => by obtain ⟨value, low, high, rfl, _⟩ := zh; rfl) fun zcdv zA zout zst zH zE zB zcs zL zKc zhr zh => ?_
  obtain ⟨value, low, high, rfl, rfl, hpre, zk⟩ := zh
  have nd := sc_is_integer.nd
  have hSL := sizeLine_eq
  show Exs _ _ _ ⟨[some (.fr (D.int value)), some (.fr (D.int low)), some (.fr (D.int high))], []⟩ _
  refine exs_one (ex_ret (ev_andP Iff.rfl (ev_isi (T := "int") (b := true) (ev_var 0 rfl (.inl rfl) rfl) rfl (by decide) (by exact rfl) T.n_isinstance (by exact rfl) T.n_int (by decide +kernel)) (fun zhp => (ev_andP (bd_not Iff.rfl) (ev_not (ev_isi (T := "bool") (b := false) (ev_var 0 rfl (.inl rfl) rfl) rfl (by decide) (by exact rfl) T.n_isinstance (by exact rfl) T.n_bool (by decide +kernel))) (fun zhp => (ev_one (ev_chain bd_d o_le o_le (ev_var 1 rfl (.inl rfl) rfl) (ev_var 0 rfl (.inl rfl) rfl) (fun zhp => (ev_var 2 rfl (.inl rfl) rfl)))))))) ?_)
  have efin : m_is_integer value low high = (true && ((!false) && ((decide (low ≤ value)) && (decide (value ≤ high))))) := by simp only [m_is_integer, not_true_eq_false, not_false_eq_true, ↓reduceIte]
  rw [efin] at zk
  exact zk _
def m_is_name (value : Str) : Bool :=
  if ((¬ (true = true)) ∨ (¬ (((1 : Int) ≤ (value.length : Int)) ∧ ((value.length : Int) ≤ (12 : Int))))) then false else (((chs value).map (fun zc2 : Str => (inS zc2 (Str.ofString "abcdefghijklmnopqrstuvwxyz0123456789")))).all fun b => b)
theorem chs_len (z : Str) : (chs z).length = z.length := by unfold chs; rw [List.length_map, Array.length_toList]; rfl
theorem sc_is_name : FnScope ["value", "character"] ["value"] (defScope s_is_name) := ⟨rfl, rfl, rfl, by decide +kernel, rfl, by decide +kernel, by decide +kernel⟩
def sp_is_name : SpN := fun zcs zL zKc => ∃ value : Str, zcs = [.fr (D.str value)] ∧ zL = [] ∧ (value.length ≤ 1000) ∧ ∀ zL', zKc (.fr (D.bl (m_is_name value))) zL'
theorem ok_is_name (T : TX P K mg) : FnOk P w K mg base CX0 1 T.a_is_name T.d_is_name ["value"] (SpOf K mg sp_is_name) := by
  refine T.F_is_name.okN sc_is_name (fun zcs zL zKc zh => by obtain ⟨value, rfl, _⟩ := zh; rfl) fun zcdv zA zout zst zH zE zB zcs zL zKc zhr zh => ?_
  obtain ⟨value, rfl, rfl, hpre, zk⟩ := zh
  have nd := sc_is_name.nd
  have hSL := sizeLine_eq
  have hch := chs_len value
  show Exs _ _ _ ⟨[some (.fr (D.str value)), none], []⟩ _
  refine exs_cons (ex_ifP (bd_or (bd_not Iff.rfl) (bd_not (bd_and bd_d bd_d))) (Ew.et (ew_orP (bd_not Iff.rfl) (et_not (et_val (ev_isi (T := "str") (b := true) (ev_var 0 rfl (.inl rfl) rfl) rfl (by decide) (by exact rfl) T.n_isinstance (by exact rfl) T.n_str (by decide +kernel)))) (fun zhp => (ew_or1 (et_not (et_chain bd_d o_le o_le ev_int (ev_len (.s (by walk_at "sd")) (ev_var 0 rfl (.inl rfl) rfl) (by exact rfl) T.n_len) (fun zhp => (ev_gi rfl T.c_LONGEST_NAME)))))))) (fun (zh1 : ((¬ (true = true)) ∨ (¬ (((1 : Int) ≤ (value.length : Int)) ∧ ((value.length : Int) ≤ (12 : Int)))))) => ?_) (fun (zh1 : ¬ ((¬ (true = true)) ∨ (¬ (((1 : Int) ≤ (value.length : Int)) ∧ ((value.length : Int) ≤ (12 : Int)))))) => ?_))
  · skip
    refine exs_one (ex_ret ev_bl ?_)
    have efin : m_is_name value = false := by simp only [m_is_name, not_true_eq_false, not_false_eq_true, ↓reduceIte, ↓if_pos zh1]
    rw [efin] at zk
    exact zk _
  · skip
    refine exs_nil ?_
    show Exs _ _ _ ⟨[some (.fr (D.str value)), none], []⟩ _
    refine exs_one (ex_ret (ev_callB (ds := [(eL D.bl) ((chs value).map (fun zc1 : Str => (inS zc1 (Str.ofString "abcdefghijklmnopqrstuvwxyz0123456789"))))]) (c_all (bs := ((chs value).map (fun zc1 : Str => (inS zc1 (Str.ofString "abcdefghijklmnopqrstuvwxyz0123456789"))))) rfl) (ea_cons (ev_lcM (enc2 := D.bl) 199 (fun zc1 : Str => (inS zc1 (Str.ofString "abcdefghijklmnopqrstuvwxyz0123456789"))) _ rfl nd (blkOk_by (N := ["value", "character"]) (sc := defScope s_is_name) (own := [(("character" : Str), 1)]) (by decide +kernel)) (src_str (ev_var 0 rfl (.inl rfl) rfl)) (by simp [names]) (by decide) (by walk_at "sd") (fun _ zc1 _ zhyzc1 _ _ _ _ _ => (eg_nameC 1 nd rfl (.inl rfl) (by decide) (.inr rfl))) (fun _ zc1 _ zhyzc1 _ _ _ _ _ => (ev_cmp o_inS (ev_var 1 rfl (.inl rfl) rfl) (ev_gs rfl T.c_NAME_CHARACTERS) (by rfl)))) ea_nil) (by exact rfl) T.n_all (by decide +kernel)) ?_)
    have efin : m_is_name value = (((chs value).map (fun zc1 : Str => (inS zc1 (Str.ofString "abcdefghijklmnopqrstuvwxyz0123456789")))).all fun b => b) := by simp only [m_is_name, not_true_eq_false, not_false_eq_true, ↓reduceIte, ↓if_neg zh1]
    rw [efin] at zk
    exact zk _
def m_is_kind (value : Str × Int × Int) : Bool :=
  if ((¬ (true = true)) ∨ (¬ ((3 : Int) = (3 : Int)))) then false else ((m_is_name value.1) && ((m_is_integer value.2.1 (1 : Int) (1000 : Int)) && (m_is_integer value.2.2 (1 : Int) (1000 : Int))))
theorem sc_is_kind : FnScope ["value", "name", "cost", "deadline"] ["value"] (defScope s_is_kind) := ⟨rfl, rfl, rfl, by decide +kernel, rfl, by decide +kernel, by decide +kernel⟩
def sp_is_kind : SpN := fun zcs zL zKc => ∃ value : Str × Int × Int, zcs = [.fr ((eT3 D.str D.int D.int) value)] ∧ zL = [] ∧ (value.1.length ≤ 1000) ∧ ∀ zL', zKc (.fr (D.bl (m_is_kind value))) zL'
theorem ok_is_kind (T : TX P K mg) : FnOk P w K mg base CX0 2 T.a_is_kind T.d_is_kind ["value"] (SpOf K mg sp_is_kind) := by
  have O_is_integer := ok_is_integer (P := P) (w := w) (base := base) T
  have O_is_name := ok_is_name (P := P) (w := w) (base := base) T
  refine T.F_is_kind.okN sc_is_kind (fun zcs zL zKc zh => by obtain ⟨value, rfl, _⟩ := zh; rfl) fun zcdv zA zout zst zH zE zB zcs zL zKc zhr zh => ?_
  obtain ⟨value, rfl, rfl, hpre, zk⟩ := zh
  have nd := sc_is_kind.nd
  have hSL := sizeLine_eq
  show Exs _ _ _ ⟨[some (.fr ((eT3 D.str D.int D.int) value)), none, none, none], []⟩ _
  refine exs_cons (ex_ifP (bd_or (bd_not Iff.rfl) bd_n) (Ew.et (ew_orP (bd_not Iff.rfl) (et_not (et_val (ev_isi (T := "tuple") (b := true) (ev_var 0 rfl (.inl rfl) rfl) rfl (by decide) (by exact rfl) T.n_isinstance (by exact rfl) T.n_tuple (by decide +kernel)))) (fun zhp => (ew_or1 (et_cmp o_nei (ev_len .t (ev_var 0 rfl (.inl rfl) rfl) (by exact rfl) T.n_len) ev_int (nomark _)))))) (fun (zh1 : ((¬ (true = true)) ∨ (¬ ((3 : Int) = (3 : Int))))) => ?_) (fun (zh1 : ¬ ((¬ (true = true)) ∨ (¬ ((3 : Int) = (3 : Int))))) => ?_))
  · skip
    refine exs_one (ex_ret ev_bl ?_)
    have efin : m_is_kind value = false := by simp only [m_is_kind, not_true_eq_false, not_false_eq_true, ↓reduceIte, ↓if_pos zh1]
    rw [efin] at zk
    exact zk _
  · skip
    refine exs_nil ?_
    show Exs _ _ _ ⟨[some (.fr ((eT3 D.str D.int D.int) value)), none, none, none], []⟩ _
    refine exs_cons (ex_asg (ev_var 0 rfl (.inl rfl) rfl) (eg_tup rfl (egs_cons (eg_name 1 nd rfl (.inl rfl)) (egs_cons (eg_name 2 nd rfl (.inl rfl)) (egs_cons (eg_name 3 nd rfl (.inl rfl)) egs_nil)))) ?_)
    show Exs _ _ _ ⟨[some (.fr ((eT3 D.str D.int D.int) value)), some (.fr (D.str value.1)), some (.fr (D.int value.2.1)), some (.fr (D.int value.2.2))], []⟩ _
    refine exs_one (ex_ret (ev_andP Iff.rfl (ev_call (ds := [D.str value.1]) (ds' := []) (dvs := []) (dfs := []) O_is_name (zhr.mono (by decide)) T.m_is_name T.k_is_name T.b_is_name .nil (fun _ => .nil) (ea_cons (ev_var 1 rfl (.inl rfl) rfl) ea_nil) (fun _ zkk => ⟨value.1, rfl, rfl, (by walk_at "pre"), zkk⟩) (by exact rfl)) (fun zhp => (ev_andP Iff.rfl (ev_call (ds := [D.int value.2.1, D.int (1 : Int), D.int (1000 : Int)]) (ds' := []) (dvs := []) (dfs := []) O_is_integer (zhr.mono (by decide)) T.m_is_integer T.k_is_integer T.b_is_integer .nil (fun _ => .nil) (ea_cons (ev_var 2 rfl (.inl rfl) rfl) (ea_cons ev_int (ea_cons (ev_gi rfl T.c_MOST_UNITS) ea_nil))) (fun _ zkk => ⟨value.2.1, (1 : Int), (1000 : Int), rfl, rfl, trivial, zkk⟩) (by exact rfl)) (fun zhp => (ev_one (ev_call (ds := [D.int value.2.2, D.int (1 : Int), D.int (1000 : Int)]) (ds' := []) (dvs := []) (dfs := []) O_is_integer (zhr.mono (by decide)) T.m_is_integer T.k_is_integer T.b_is_integer .nil (fun _ => .nil) (ea_cons (ev_var 3 rfl (.inl rfl) rfl) (ea_cons ev_int (ea_cons (ev_gi rfl T.c_MOST_UNITS) ea_nil))) (fun _ zkk => ⟨value.2.2, (1 : Int), (1000 : Int), rfl, rfl, trivial, zkk⟩) (by exact rfl))))))) ?_)
    have efin : m_is_kind value = ((m_is_name value.1) && ((m_is_integer value.2.1 (1 : Int) (1000 : Int)) && (m_is_integer value.2.2 (1 : Int) (1000 : Int)))) := by simp only [m_is_kind, not_true_eq_false, not_false_eq_true, ↓reduceIte, ↓if_neg zh1]
    rw [efin] at zk
    exact zk _
def m_is_way (value : Str × Str × Int) (kind_names : List Str) : Bool :=
  if ((¬ (true = true)) ∨ (¬ ((3 : Int) = (3 : Int)))) then false else ((decide (value.1 ∈ kind_names)) && ((decide (value.2.1 ∈ kind_names)) && (m_is_integer value.2.2 (1 : Int) (1000 : Int))))
theorem sc_is_way : FnScope ["value", "kind_names", "source", "target", "distance"] ["value", "kind_names"] (defScope s_is_way) := ⟨rfl, rfl, rfl, by decide +kernel, rfl, by decide +kernel, by decide +kernel⟩
def sp_is_way : SpN := fun zcs zL zKc => ∃ value : Str × Str × Int, ∃ kind_names : List Str, zcs = [.fr ((eT3 D.str D.str D.int) value), .fr ((eL D.str) kind_names)] ∧ zL = [] ∧ (True) ∧ ∀ zL', zKc (.fr (D.bl (m_is_way value kind_names))) zL'
theorem ok_is_way (T : TX P K mg) : FnOk P w K mg base CX0 2 T.a_is_way T.d_is_way ["value", "kind_names"] (SpOf K mg sp_is_way) := by
  have O_is_integer := ok_is_integer (P := P) (w := w) (base := base) T
  refine T.F_is_way.okN sc_is_way (fun zcs zL zKc zh => by obtain ⟨value, kind_names, rfl, _⟩ := zh; rfl) fun zcdv zA zout zst zH zE zB zcs zL zKc zhr zh => ?_
  obtain ⟨value, kind_names, rfl, rfl, hpre, zk⟩ := zh
  have nd := sc_is_way.nd
  have hSL := sizeLine_eq
  show Exs _ _ _ ⟨[some (.fr ((eT3 D.str D.str D.int) value)), some (.fr ((eL D.str) kind_names)), none, none, none], []⟩ _
  refine exs_cons (ex_ifP (bd_or (bd_not Iff.rfl) bd_n) (Ew.et (ew_orP (bd_not Iff.rfl) (et_not (et_val (ev_isi (T := "tuple") (b := true) (ev_var 0 rfl (.inl rfl) rfl) rfl (by decide) (by exact rfl) T.n_isinstance (by exact rfl) T.n_tuple (by decide +kernel)))) (fun zhp => (ew_or1 (et_cmp o_nei (ev_len .t (ev_var 0 rfl (.inl rfl) rfl) (by exact rfl) T.n_len) ev_int (nomark _)))))) (fun (zh1 : ((¬ (true = true)) ∨ (¬ ((3 : Int) = (3 : Int))))) => ?_) (fun (zh1 : ¬ ((¬ (true = true)) ∨ (¬ ((3 : Int) = (3 : Int))))) => ?_))
  · skip
    refine exs_one (ex_ret ev_bl ?_)
    have efin : m_is_way value kind_names = false := by simp only [m_is_way, not_true_eq_false, not_false_eq_true, ↓reduceIte, ↓if_pos zh1]
    rw [efin] at zk
    exact zk _
  · skip
    refine exs_nil ?_
    show Exs _ _ _ ⟨[some (.fr ((eT3 D.str D.str D.int) value)), some (.fr ((eL D.str) kind_names)), none, none, none], []⟩ _
    refine exs_cons (ex_asg (ev_var 0 rfl (.inl rfl) rfl) (eg_tup rfl (egs_cons (eg_name 2 nd rfl (.inl rfl)) (egs_cons (eg_name 3 nd rfl (.inl rfl)) (egs_cons (eg_name 4 nd rfl (.inl rfl)) egs_nil)))) ?_)
    show Exs _ _ _ ⟨[some (.fr ((eT3 D.str D.str D.int) value)), some (.fr ((eL D.str) kind_names)), some (.fr (D.str value.1)), some (.fr (D.str value.2.1)), some (.fr (D.int value.2.2))], []⟩ _
    refine exs_one (ex_ret (ev_andP bd_d (ev_cmp (o_inL (e := D.str) (x := value.1) (ys := kind_names) zhr.units ee_str) (ev_var 2 rfl (.inl rfl) rfl) (ev_var 1 rfl (.inl rfl) rfl) (by rfl)) (fun zhp => (ev_andP bd_d (ev_cmp (o_inL (e := D.str) (x := value.2.1) (ys := kind_names) zhr.units ee_str) (ev_var 3 rfl (.inl rfl) rfl) (ev_var 1 rfl (.inl rfl) rfl) (by rfl)) (fun zhp => (ev_one (ev_call (ds := [D.int value.2.2, D.int (1 : Int), D.int (1000 : Int)]) (ds' := []) (dvs := []) (dfs := []) O_is_integer (zhr.mono (by decide)) T.m_is_integer T.k_is_integer T.b_is_integer .nil (fun _ => .nil) (ea_cons (ev_var 4 rfl (.inl rfl) rfl) (ea_cons ev_int (ea_cons (ev_gi rfl T.c_MOST_UNITS) ea_nil))) (fun _ zkk => ⟨value.2.2, (1 : Int), (1000 : Int), rfl, rfl, trivial, zkk⟩) (by exact rfl))))))) ?_)
    have efin : m_is_way value kind_names = ((decide (value.1 ∈ kind_names)) && ((decide (value.2.1 ∈ kind_names)) && (m_is_integer value.2.2 (1 : Int) (1000 : Int)))) := by simp only [m_is_way, not_true_eq_false, not_false_eq_true, ↓reduceIte, ↓if_neg zh1]
    rw [efin] at zk
    exact zk _
def m_are_different (names_ : List Str) : Bool :=
  (decide (((cntS names_ names_.length : Nat) : Int) = (names_.length : Int)))
theorem sc_are_different : FnScope ["names"] ["names"] (defScope s_are_different) := ⟨rfl, rfl, rfl, by decide +kernel, rfl, by decide +kernel, by decide +kernel⟩
def sp_are_different : SpN := fun zcs zL zKc => ∃ names_ : List Str, zcs = [.fr ((eL D.str) names_)] ∧ zL = [] ∧ (names_.length ≤ 1000) ∧ ∀ zL', zKc (.fr (D.bl (m_are_different names_))) zL'
theorem ok_are_different (T : TX P K mg) : FnOk P w K mg base CX0 1 T.a_are_different T.d_are_different ["names"] (SpOf K mg sp_are_different) := by
  refine T.F_are_different.okN sc_are_different (fun zcs zL zKc zh => by obtain ⟨names_, rfl, _⟩ := zh; rfl) fun zcdv zA zout zst zH zE zB zcs zL zKc zhr zh => ?_
  obtain ⟨names_, rfl, rfl, hpre, zk⟩ := zh
  have nd := sc_are_different.nd
  have hSL := sizeLine_eq
  show Exs _ _ _ ⟨[some (.fr ((eL D.str) names_))], []⟩ _
  refine exs_one (ex_ret (ev_cmp o_eqi (ev_lenSet (xs := names_) rfl (by exact rfl) T.n_len (by exact rfl) T.n_set (by walk_at "scan") (ev_var 0 rfl (.inl rfl) rfl)) (ev_len (ln_L (xs := names_) (enc := D.str) (by exact rfl)) (ev_var 0 rfl (.inl rfl) rfl) (by exact rfl) T.n_len) (nomark _)) ?_)
  have efin : m_are_different names_ = (decide (((cntS names_ names_.length : Nat) : Int) = (names_.length : Int))) := by simp only [m_are_different, not_true_eq_false, not_false_eq_true, ↓reduceIte]
  rw [efin] at zk
  exact zk _
def m_are_kinds (kinds : List (Str × Int × Int)) : Bool :=
  if (¬ (((1 : Int) ≤ (kinds.length : Int)) ∧ ((kinds.length : Int) ≤ (8 : Int)))) then false else (((kinds.map (fun zc4 : Str × Int × Int => (m_is_kind zc4))).all fun b => b) && (m_are_different (kinds.map (fun zc6 : Str × Int × Int => zc6.1))))
set_option hygiene false in
local macro_rules | `(tactic| walk_at "pre") => `(tactic| first | exact hpre.1 _ (List.mem_of_getElem? (by assumption)) | fail)
theorem sc_are_kinds : FnScope ["kinds", "kind"] ["kinds"] (defScope s_are_kinds) := ⟨rfl, rfl, rfl, by decide +kernel, rfl, by decide +kernel, by decide +kernel⟩
def sp_are_kinds : SpN := fun zcs zL zKc => ∃ kinds : List (Str × Int × Int), zcs = [.fr ((eL (eT3 D.str D.int D.int)) kinds)] ∧ zL = [] ∧ ((∀ k ∈ kinds, k.1.length ≤ 1000) ∧ kinds.length ≤ 1000) ∧ ∀ zL', zKc (.fr (D.bl (m_are_kinds kinds))) zL'
theorem ok_are_kinds (T : TX P K mg) : FnOk P w K mg base CX0 3 T.a_are_kinds T.d_are_kinds ["kinds"] (SpOf K mg sp_are_kinds) := by
  have O_are_different := ok_are_different (P := P) (w := w) (base := base) T
  have O_is_kind := ok_is_kind (P := P) (w := w) (base := base) T
  refine T.F_are_kinds.okN sc_are_kinds (fun zcs zL zKc zh => by obtain ⟨kinds, rfl, _⟩ := zh; rfl) fun zcdv zA zout zst zH zE zB zcs zL zKc zhr zh => ?_
  obtain ⟨kinds, rfl, rfl, hpre, zk⟩ := zh
  have nd := sc_are_kinds.nd
  have hSL := sizeLine_eq
  show Exs _ _ _ ⟨[some (.fr ((eL (eT3 D.str D.int D.int)) kinds)), none], []⟩ _
  refine exs_cons (ex_ifP (bd_not (bd_and bd_d bd_d)) (et_not (et_chain bd_d o_le o_le ev_int (ev_len (ln_L (xs := kinds) (enc := (eT3 D.str D.int D.int)) (by exact rfl)) (ev_var 0 rfl (.inl rfl) rfl) (by exact rfl) T.n_len) (fun zhp => (ev_gi rfl T.c_MOST_KINDS)))) (fun (zh1 : (¬ (((1 : Int) ≤ (kinds.length : Int)) ∧ ((kinds.length : Int) ≤ (8 : Int))))) => ?_) (fun (zh1 : ¬ (¬ (((1 : Int) ≤ (kinds.length : Int)) ∧ ((kinds.length : Int) ≤ (8 : Int))))) => ?_))
  · skip
    refine exs_one (ex_ret ev_bl ?_)
    have efin : m_are_kinds kinds = false := by first | (simp only [m_are_kinds, not_true_eq_false, not_false_eq_true, ↓reduceIte, ↓if_pos zh1]; done) | (first | exact absurd rfl zh1)
    rw [efin] at zk
    exact zk _
  · skip
    refine exs_nil ?_
    show Exs _ _ _ ⟨[some (.fr ((eL (eT3 D.str D.int D.int)) kinds)), none], []⟩ _
    refine exs_one (ex_ret (ev_andP Iff.rfl (ev_callB (ds := [(eL D.bl) (kinds.map (fun zc1 : Str × Int × Int => (m_is_kind zc1)))]) (c_all (bs := (kinds.map (fun zc1 : Str × Int × Int => (m_is_kind zc1)))) rfl) (ea_cons (ev_lcM (enc2 := D.bl) 199 (fun zc1 : Str × Int × Int => (m_is_kind zc1)) _ rfl nd (blkOk_by (N := ["kinds", "kind"]) (sc := defScope s_are_kinds) (own := [(("kind" : Str), 1)]) (by decide +kernel)) (src_listT (ev_var 0 rfl (.inl rfl) rfl)) (by simp [names]) (by decide) (by walk_at "sd") (fun _ zc1 _ zhyzc1 _ _ _ _ _ => (eg_nameC 1 nd rfl (.inl rfl) (by decide) (.inr rfl))) (fun _ zc1 _ zhyzc1 _ _ _ _ _ => (ev_call (ds := [(eT3 D.str D.int D.int) zc1]) (ds' := []) (dvs := []) (dfs := []) O_is_kind (zhr.mono (by decide)) T.m_is_kind T.k_is_kind T.b_is_kind .nil (fun _ => .nil) (ea_cons (ev_var 1 rfl (.inl rfl) rfl) ea_nil) (fun _ zkk => ⟨zc1, rfl, rfl, (by walk_at "pre"), zkk⟩) (by exact rfl)))) ea_nil) (by exact rfl) T.n_all (by decide +kernel)) (fun zhp => (ev_one (ev_call (ds := [(eL D.str) (kinds.map (fun zc3 : Str × Int × Int => zc3.1))]) (ds' := []) (dvs := []) (dfs := []) O_are_different (zhr.mono (by decide)) T.m_are_different T.k_are_different T.b_are_different .nil (fun _ => .nil) (ea_cons (ev_lcM (enc2 := D.str) 199 (fun zc3 : Str × Int × Int => zc3.1) _ rfl nd (blkOk_by (N := ["kinds", "kind"]) (sc := defScope s_are_kinds) (own := [(("kind" : Str), 1)]) (by decide +kernel)) (src_listT (ev_var 0 rfl (.inl rfl) rfl)) (by simp [names]) (by decide) (by walk_at "sd") (fun _ zc3 _ zhyzc3 _ _ _ _ _ => (eg_nameC 1 nd rfl (.inl rfl) (by decide) (.inr rfl))) (fun _ zc3 _ zhyzc3 _ _ _ _ _ => (ev_ix (.t (d := D.str zc3.1) rfl) (ev_var 1 rfl (.inl rfl) rfl) ev_int))) ea_nil) (fun _ zkk => ⟨(kinds.map (fun zc3 : Str × Int × Int => zc3.1)), rfl, rfl, (by walk_at "pre"), zkk⟩) (by exact rfl))))) ?_)
    have efin : m_are_kinds kinds = (((kinds.map (fun zc1 : Str × Int × Int => (m_is_kind zc1))).all fun b => b) && (m_are_different (kinds.map (fun zc3 : Str × Int × Int => zc3.1)))) := by simp only [m_are_kinds, not_true_eq_false, not_false_eq_true, ↓reduceIte, ↓if_neg zh1]
    rw [efin] at zk
    exact zk _
def m_are_ways (ways : List (Str × Str × Int)) (kinds : List (Str × Int × Int)) : Bool :=
  if ((16 : Int) < (ways.length : Int)) then false else let kind_names1 : List Str := (kinds.map (fun zc3 : Str × Int × Int => zc3.1))
  ((ways.map (fun zc4 : Str × Str × Int => (m_is_way zc4 kind_names1))).all fun b => b)
theorem sc_are_ways : FnScope ["ways", "kinds", "kind_names", "kind", "way"] ["ways", "kinds"] (defScope s_are_ways) := ⟨rfl, rfl, rfl, by decide +kernel, rfl, by decide +kernel, by decide +kernel⟩
def sp_are_ways : SpN := fun zcs zL zKc => ∃ ways : List (Str × Str × Int), ∃ kinds : List (Str × Int × Int), zcs = [.fr ((eL (eT3 D.str D.str D.int)) ways), .fr ((eL (eT3 D.str D.int D.int)) kinds)] ∧ zL = [] ∧ (ways.length ≤ 1000 ∧ kinds.length ≤ 1000) ∧ ∀ zL', zKc (.fr (D.bl (m_are_ways ways kinds))) zL'
theorem ok_are_ways (T : TX P K mg) : FnOk P w K mg base CX0 3 T.a_are_ways T.d_are_ways ["ways", "kinds"] (SpOf K mg sp_are_ways) := by
  have O_is_way := ok_is_way (P := P) (w := w) (base := base) T
  refine T.F_are_ways.okN sc_are_ways (fun zcs zL zKc zh => by obtain ⟨ways, kinds, rfl, _⟩ := zh; rfl) fun zcdv zA zout zst zH zE zB zcs zL zKc zhr zh => ?_
  obtain ⟨ways, kinds, rfl, rfl, hpre, zk⟩ := zh
  have nd := sc_are_ways.nd
  have hSL := sizeLine_eq
  show Exs _ _ _ ⟨[some (.fr ((eL (eT3 D.str D.str D.int)) ways)), some (.fr ((eL (eT3 D.str D.int D.int)) kinds)), none, none, none], []⟩ _
  refine exs_cons (ex_ifP bd_d (et_cmp o_gt (ev_len (ln_L (xs := ways) (enc := (eT3 D.str D.str D.int)) (by exact rfl)) (ev_var 0 rfl (.inl rfl) rfl) (by exact rfl) T.n_len) (ev_gi rfl T.c_MOST_WAYS) (nomark _)) (fun (zh1 : ((16 : Int) < (ways.length : Int))) => ?_) (fun (zh1 : ¬ ((16 : Int) < (ways.length : Int))) => ?_))
  · skip
    refine exs_one (ex_ret ev_bl ?_)
    have efin : m_are_ways ways kinds = false := by simp only [m_are_ways, not_true_eq_false, not_false_eq_true, ↓reduceIte, ↓if_pos zh1]
    rw [efin] at zk
    exact zk _
  · skip
    refine exs_nil ?_
    show Exs _ _ _ ⟨[some (.fr ((eL (eT3 D.str D.str D.int)) ways)), some (.fr ((eL (eT3 D.str D.int D.int)) kinds)), none, none, none], []⟩ _
    refine exs_cons (ex_set 2 (ev_lcM (enc2 := D.str) 199 (fun zc1 : Str × Int × Int => zc1.1) _ rfl nd (blkOk_by (N := ["ways", "kinds", "kind_names", "kind", "way"]) (sc := defScope s_are_ways) (own := [(("kind" : Str), 3)]) (by decide +kernel)) (src_listT (ev_var 1 rfl (.inl rfl) rfl)) (by simp [names]) (by decide) (by walk_at "sd") (fun _ zc1 _ zhyzc1 _ _ _ _ _ => (eg_nameC 3 nd rfl (.inl rfl) (by decide) (.inr rfl))) (fun _ zc1 _ zhyzc1 _ _ _ _ _ => (ev_ix (.t (d := D.str zc1.1) rfl) (ev_var 3 rfl (.inl rfl) rfl) ev_int))) ?_ nd rfl (.inr rfl))
    show Exs _ _ _ ⟨[some (.fr ((eL (eT3 D.str D.str D.int)) ways)), some (.fr ((eL (eT3 D.str D.int D.int)) kinds)), some (.fr ((eL D.str) (kinds.map (fun zc1 : Str × Int × Int => zc1.1)))), none, none], []⟩ _
    generalize zg_kind_names : (kinds.map (fun zc1 : Str × Int × Int => zc1.1)) = kind_names
    show Exs _ _ _ ⟨[some (.fr ((eL (eT3 D.str D.str D.int)) ways)), some (.fr ((eL (eT3 D.str D.int D.int)) kinds)), some (.fr ((eL D.str) kind_names)), none, none], []⟩ _
    refine exs_one (ex_ret (ev_callB (ds := [(eL D.bl) (ways.map (fun zc2 : Str × Str × Int => (m_is_way zc2 kind_names)))]) (c_all (bs := (ways.map (fun zc2 : Str × Str × Int => (m_is_way zc2 kind_names)))) rfl) (ea_cons (ev_lcM (enc2 := D.bl) 199 (fun zc2 : Str × Str × Int => (m_is_way zc2 kind_names)) _ rfl nd (blkOk_by (N := ["ways", "kinds", "kind_names", "kind", "way"]) (sc := defScope s_are_ways) (own := [(("way" : Str), 4)]) (by decide +kernel)) (src_listT (ev_var 0 rfl (.inl rfl) rfl)) (by simp [names]) (by decide) (by walk_at "sd") (fun _ zc2 _ zhyzc2 _ _ _ _ _ => (eg_nameC 4 nd rfl (.inl rfl) (by decide) (.inr rfl))) (fun _ zc2 _ zhyzc2 _ _ _ _ _ => (ev_call (ds := [(eT3 D.str D.str D.int) zc2, (eL D.str) kind_names]) (ds' := []) (dvs := []) (dfs := []) O_is_way (zhr.mono (by decide)) T.m_is_way T.k_is_way T.b_is_way .nil (fun _ => .nil) (ea_cons (ev_var 4 rfl (.inl rfl) rfl) (ea_cons (ev_var 2 rfl (.inr (.inl rfl)) rfl) ea_nil)) (fun _ zkk => ⟨zc2, kind_names, rfl, rfl, trivial, zkk⟩) (by exact rfl)))) ea_nil) (by exact rfl) T.n_all (by decide +kernel)) ?_)
    have efin : m_are_ways ways kinds = ((ways.map (fun zc2 : Str × Str × Int => (m_is_way zc2 kind_names))).all fun b => b) := by subst zg_kind_names; simp only [m_are_ways, not_true_eq_false, not_false_eq_true, ↓reduceIte, ↓if_neg zh1]
    rw [efin] at zk
    exact zk _
def m_Task_init__ (name : Str) (kinds : List (Str × Int × Int)) (ways : List (Str × Str × Int)) : Task :=
  if (¬ ((m_is_name name) = true)) then default else if (¬ ((m_are_kinds kinds) = true)) then default else if (¬ ((m_are_ways ways kinds) = true)) then default else ({ name := name, kinds := kinds, ways := ways } : Task)
set_option hygiene false in
local macro_rules | `(tactic| walk_at "pre") => `(tactic| first | exact hpre.1 | exact ⟨hpre.2.2.1, hpre.2.2.2.1⟩ | exact ⟨hpre.2.2.2.2.2.1, hpre.2.2.2.1⟩ | fail)
def Task.ok (t : Task) : Prop := m_are_kinds t.kinds = true ∧ m_are_ways t.ways t.kinds = true
theorem Task.ok.k1 {t : Task} (h : t.ok) : 1 ≤ t.kinds.length ∧ t.kinds.length ≤ 8 := by
  have q := h.1
  unfold m_are_kinds at q
  split at q
  · cases q
  · rename_i z; exact ⟨by have := Classical.not_not.mp z; omega, by have := Classical.not_not.mp z; omega⟩
theorem Task.ok.w1 {t : Task} (h : t.ok) : t.ways.length ≤ 16 := by
  have q := h.2
  unfold m_are_ways at q
  split at q
  · cases q
  · rename_i z; omega
theorem Task.ok.wn {t : Task} (h : t.ok) : ∀ w ∈ t.ways, w.1 ∈ t.kinds.map (·.1) ∧ w.2.1 ∈ t.kinds.map (·.1) := by
  have q := h.2
  unfold m_are_ways at q
  split at q
  · cases q
  · intro w hw
    have q1 := List.all_eq_true.mp q _ (List.mem_map.mpr ⟨w, hw, rfl⟩)
    unfold m_is_way at q1
    split at q1
    · cases q1
    · rw [Bool.and_eq_true, Bool.and_eq_true] at q1
      exact ⟨of_decide_eq_true q1.1, of_decide_eq_true q1.2.1⟩
theorem sc_Task_init__ : FnScope ["self", "name", "kinds", "ways"] ["self", "name", "kinds", "ways"] (defScope s_Task_init__) := ⟨rfl, rfl, rfl, by decide +kernel, rfl, by decide +kernel, by decide +kernel⟩
def sp_Task_init__ : SpN := fun zcs zL zKc => ∃ name : Str, ∃ kinds : List (Str × Int × Int), ∃ ways : List (Str × Str × Int), zcs = [.ad 0, .fr (D.str name), .fr ((eL (eT3 D.str D.int D.int)) kinds), .fr ((eL (eT3 D.str D.str D.int)) ways)] ∧ zL = [(0, .ins "Task" [])] ∧ (name.length ≤ 1000 ∧ m_is_name name = true ∧ (∀ k ∈ kinds, k.1.length ≤ 1000) ∧ kinds.length ≤ 1000 ∧ m_are_kinds kinds = true ∧ ways.length ≤ 1000 ∧ m_are_ways ways kinds = true) ∧ zKc (.fr .non) [(0, .ins "Task" ((fTask (m_Task_init__ name kinds ways)).map fun p => (p.1, Ce.fr p.2)))]
theorem ok_Task_init__ (T : TX P K mg) : FnOk P w K mg base CX0 4 T.a_Task_init__ T.d_Task_init__ ["self", "name", "kinds", "ways"] (SpOf K mg sp_Task_init__) := by
  have O_are_kinds := ok_are_kinds (P := P) (w := w) (base := base) T
  have O_are_ways := ok_are_ways (P := P) (w := w) (base := base) T
  have O_is_name := ok_is_name (P := P) (w := w) (base := base) T
  refine T.F_Task_init__.okN sc_Task_init__ (fun zcs zL zKc zh => by obtain ⟨name, kinds, ways, rfl, _⟩ := zh; rfl) fun zcdv zA zout zst zH zE zB zcs zL zKc zhr zh => ?_
  obtain ⟨name, kinds, ways, rfl, rfl, hpre, zk⟩ := zh
  have nd := sc_Task_init__.nd
  have hSL := sizeLine_eq
  show Exs _ _ _ ⟨[some (.ad 0), some (.fr (D.str name)), some (.fr ((eL (eT3 D.str D.int D.int)) kinds)), some (.fr ((eL (eT3 D.str D.str D.int)) ways))], [(0, .ins "Task" [])]⟩ _
  refine exs_cons (ex_ifP (bd_not Iff.rfl) (et_not (et_val (ev_call (ds := [D.str name]) (ds' := []) (dvs := []) (dfs := []) O_is_name (zhr.mono (by decide)) T.m_is_name T.k_is_name T.b_is_name .nil (fun _ => .nil) (ea_cons (ev_var 1 rfl (.inl rfl) rfl) ea_nil) (fun _ zkk => ⟨name, rfl, rfl, (by walk_at "pre"), zkk⟩) (by exact rfl)))) (fun (zh1 : (¬ ((m_is_name name) = true))) => ?_) (fun (zh1 : ¬ (¬ ((m_is_name name) = true))) => ?_))
  · skip
    first | exact absurd hpre.2.1 zh1 | exact absurd hpre.2.2.2.2.1 zh2 | exact absurd hpre.2.2.2.2.2.2 zh3
  · skip
    refine exs_nil ?_
    show Exs _ _ _ ⟨[some (.ad 0), some (.fr (D.str name)), some (.fr ((eL (eT3 D.str D.int D.int)) kinds)), some (.fr ((eL (eT3 D.str D.str D.int)) ways))], [(0, .ins "Task" [])]⟩ _
    refine exs_cons (ex_ifP (bd_not Iff.rfl) (et_not (et_val (ev_call (ds := [(eL (eT3 D.str D.int D.int)) kinds]) (ds' := []) (dvs := []) (dfs := []) O_are_kinds (zhr.mono (by decide)) T.m_are_kinds T.k_are_kinds T.b_are_kinds .nil (fun _ => .nil) (ea_cons (ev_var 2 rfl (.inl rfl) rfl) ea_nil) (fun _ zkk => ⟨kinds, rfl, rfl, (by walk_at "pre"), zkk⟩) (by exact rfl)))) (fun (zh2 : (¬ ((m_are_kinds kinds) = true))) => ?_) (fun (zh2 : ¬ (¬ ((m_are_kinds kinds) = true))) => ?_))
    · skip
      first | exact absurd hpre.2.1 zh1 | exact absurd hpre.2.2.2.2.1 zh2 | exact absurd hpre.2.2.2.2.2.2 zh3
    · skip
      refine exs_nil ?_
      show Exs _ _ _ ⟨[some (.ad 0), some (.fr (D.str name)), some (.fr ((eL (eT3 D.str D.int D.int)) kinds)), some (.fr ((eL (eT3 D.str D.str D.int)) ways))], [(0, .ins "Task" [])]⟩ _
      refine exs_cons (ex_ifP (bd_not Iff.rfl) (et_not (et_val (ev_call (ds := [(eL (eT3 D.str D.str D.int)) ways, (eL (eT3 D.str D.int D.int)) kinds]) (ds' := []) (dvs := []) (dfs := []) O_are_ways (zhr.mono (by decide)) T.m_are_ways T.k_are_ways T.b_are_ways .nil (fun _ => .nil) (ea_cons (ev_var 3 rfl (.inl rfl) rfl) (ea_cons (ev_var 2 rfl (.inl rfl) rfl) ea_nil)) (fun _ zkk => ⟨ways, kinds, rfl, rfl, (by walk_at "pre"), zkk⟩) (by exact rfl)))) (fun (zh3 : (¬ ((m_are_ways ways kinds) = true))) => ?_) (fun (zh3 : ¬ (¬ ((m_are_ways ways kinds) = true))) => ?_))
      · skip
        first | exact absurd hpre.2.1 zh1 | exact absurd hpre.2.2.2.2.1 zh2 | exact absurd hpre.2.2.2.2.2.2 zh3
      · skip
        refine exs_nil ?_
        show Exs _ _ _ ⟨[some (.ad 0), some (.fr (D.str name)), some (.fr ((eL (eT3 D.str D.int D.int)) kinds)), some (.fr ((eL (eT3 D.str D.str D.int)) ways))], [(0, .ins "Task" [])]⟩ _
        refine exs_cons (ex_fld (c := "Task") (n := 0) (d := D.str name) T.q_Task T.cl_Task T.na_Task_name (ev_var 1 rfl (.inl rfl) rfl) (ev_var 0 rfl (.inl rfl) rfl) rfl (by first | decide | (simp only [List.length_cons, List.length_nil]; decide)) ?_)
        show Exs _ _ _ ⟨[some (.ad 0), some (.fr (D.str name)), some (.fr ((eL (eT3 D.str D.int D.int)) kinds)), some (.fr ((eL (eT3 D.str D.str D.int)) ways))], [(0, .ins "Task" [("name", (.fr (D.str name)))])]⟩ _
        refine exs_cons (ex_fld (c := "Task") (n := 0) (d := (eU (eT3 D.str D.int D.int)) kinds) T.q_Task T.cl_Task T.na_Task_kinds (ev_callTy (ds := [(eL (eT3 D.str D.int D.int)) kinds]) c_tuple (ea_cons (ev_var 2 rfl (.inl rfl) rfl) ea_nil) (by exact rfl) T.n_tuple (by decide +kernel)) (ev_var 0 rfl (.inl rfl) rfl) rfl (by first | decide | (simp only [List.length_cons, List.length_nil]; decide)) ?_)
        show Exs _ _ _ ⟨[some (.ad 0), some (.fr (D.str name)), some (.fr ((eL (eT3 D.str D.int D.int)) kinds)), some (.fr ((eL (eT3 D.str D.str D.int)) ways))], [(0, .ins "Task" [("name", (.fr (D.str name))), ("kinds", (.fr ((eU (eT3 D.str D.int D.int)) kinds)))])]⟩ _
        refine exs_one (ex_fld (c := "Task") (n := 0) (d := (eU (eT3 D.str D.str D.int)) ways) T.q_Task T.cl_Task T.na_Task_ways (ev_callTy (ds := [(eL (eT3 D.str D.str D.int)) ways]) c_tuple (ea_cons (ev_var 3 rfl (.inl rfl) rfl) ea_nil) (by exact rfl) T.n_tuple (by decide +kernel)) (ev_var 0 rfl (.inl rfl) rfl) rfl (by first | decide | (simp only [List.length_cons, List.length_nil]; decide)) ?_)
        have efin : m_Task_init__ name kinds ways = ({ name := name, kinds := kinds, ways := ways } : Task) := by simp only [m_Task_init__, not_true_eq_false, not_false_eq_true, ↓reduceIte, ↓if_neg zh1, ↓if_neg zh2, ↓if_neg zh3]
        rw [efin] at zk
        exact zk
def m_Task_kind_number_l0 (kind_name : Str) (zs0 : Unit) (zy0 : Int × (Str × Int × Int)) : Except Int (Unit) :=
  if (zy0.2.1 = kind_name) then .error zy0.1 else .ok ()
def m_Task_kind_number (self : Task) (kind_name : Str) : Int :=
  match (runE (m_Task_kind_number_l0 kind_name) (enL 0 self.kinds) ()) with | .error r => r | .ok zs0 => default
theorem enum_at {kn : Str} : ∀ {ks : List (Str × Int × Int)} {i : Nat}, kn ∈ ks.map (·.1) → ∃ j : Nat, runE (m_Task_kind_number_l0 kn) (enL i ks) () = .error ((i + j : Nat) : Int) ∧ j < ks.length ∧ (∃ c, ks[j]? = some c ∧ c.1 = kn) ∧ ∀ m, m < j → ∀ c, ks[m]? = some c → c.1 ≠ kn
  | [], i, h => absurd h (by simp)
  | k :: ks, i, h => by
    by_cases e : k.1 = kn
    · refine ⟨0, ?_, by simp, ⟨k, rfl, e⟩, fun m hm => absurd hm (by omega)⟩
      rw [show enL i (k :: ks) = ((i : Int), k) :: enL (i + 1) ks from rfl, runE_cons, show m_Task_kind_number_l0 kn () ((i : Int), k) = .error (i : Int) from by unfold m_Task_kind_number_l0; rw [if_pos e]]
      rfl
    · obtain ⟨j, h1, h2, h3, h4⟩ := enum_at (ks := ks) (i := i + 1) (by
        rcases List.mem_cons.mp (show kn ∈ k.1 :: ks.map (·.1) from h) with q | q
        · exact absurd q.symm e
        · exact q)
      refine ⟨j + 1, ?_, by simp; omega, h3, fun m hm c hc => ?_⟩
      · rw [show enL i (k :: ks) = ((i : Int), k) :: enL (i + 1) ks from rfl, runE_cons, show m_Task_kind_number_l0 kn () ((i : Int), k) = .ok () from by unfold m_Task_kind_number_l0; rw [if_neg e]]
        dsimp only
        rw [h1, show i + 1 + j = i + (j + 1) by omega]
      · cases m with
        | zero => cases hc; exact e
        | succ m => exact h4 m (by omega) c hc
theorem enum_found {kn : Str} {ks : List (Str × Int × Int)} {u : Unit} (h : kn ∈ ks.map (·.1)) (q : runE (m_Task_kind_number_l0 kn) (enL 0 ks) () = .ok u) : False := by
  obtain ⟨j, e, _⟩ := enum_at (i := 0) h
  rw [e] at q; cases q
theorem kind_number_spec {t : Task} {kn : Str} (h : kn ∈ t.kinds.map (·.1)) : ∃ j : Nat, m_Task_kind_number t kn = (j : Int) ∧ j < t.kinds.length ∧ (∃ c, t.kinds[j]? = some c ∧ c.1 = kn) ∧ ∀ m, m < j → ∀ c, t.kinds[m]? = some c → c.1 ≠ kn := by
  obtain ⟨j, e, r⟩ := enum_at (i := 0) h
  refine ⟨j, ?_, r⟩
  unfold m_Task_kind_number
  rw [e, Nat.zero_add]
theorem sc_Task_kind_number : FnScope ["self", "kind_name", "number", "kind"] ["self", "kind_name"] (defScope s_Task_kind_number) := ⟨rfl, rfl, rfl, by decide +kernel, rfl, by decide +kernel, by decide +kernel⟩
def sp_Task_kind_number : SpN := fun zcs zL zKc => ∃ self : Task, ∃ kind_name : Str, zcs = [.fr (eTask self), .fr (D.str kind_name)] ∧ zL = [] ∧ (self.ok ∧ kind_name ∈ self.kinds.map (·.1)) ∧ ∀ zL', zKc (.fr (D.int (m_Task_kind_number self kind_name))) zL'
theorem ok_Task_kind_number (T : TX P K mg) : FnOk P w K mg base CX0 1 T.a_Task_kind_number T.d_Task_kind_number ["self", "kind_name"] (SpOf K mg sp_Task_kind_number) := by
  refine T.F_Task_kind_number.okN sc_Task_kind_number (fun zcs zL zKc zh => by obtain ⟨self, kind_name, rfl, _⟩ := zh; rfl) fun zcdv zA zout zst zH zE zB zcs zL zKc zhr zh => ?_
  obtain ⟨self, kind_name, rfl, rfl, hpre, zk⟩ := zh
  have nd := sc_Task_kind_number.nd
  have hSL := sizeLine_eq
  have hk1 := hpre.1.k1
  have hw1 := hpre.1.w1
  skip
  show Exs _ _ _ ⟨[some (.fr (eTask self)), some (.fr (D.str kind_name)), none, none], []⟩ _
  refine exs_cons (ex_forE (enc := (eT2 D.int (eT3 D.str D.int D.int))) (fun (zs0 : Unit) => (⟨[some (.fr (eTask self)), some (.fr (D.str kind_name)), none, none], []⟩ : Nz.S)) (m_Task_kind_number_l0 kind_name) () (fun (zi0 : Nat) (zs0 : Unit) => True) (fun r c S' => c = .fr (D.int r) ∧ True) (src_enumU (enc := (eT3 D.str D.int D.int)) (xs := self.kinds) (ea_cons (ev_fld (c := "Task") (fs := fTask self) T.q_Task T.cl_Task T.na_Task_kinds rfl (ev_var 0 rfl (.inl rfl) rfl)) ea_nil) (by exact rfl) T.n_enumerate) ⟨⟨.inr rfl, .inr rfl, .inl rfl, .inl rfl, trivial⟩, rfl⟩ trivial ?_ ?_ ?_ PassesOwn.never rfl)
  · intro zi0 zy0 zs0 zhy0 zrun0 zq0
    skip
    refine ⟨⟨[some (.fr (eTask self)), some (.fr (D.str kind_name)), some (.fr (D.int zy0.1)), some (.fr ((eT3 D.str D.int D.int) zy0.2))], []⟩, (eg_tup rfl (egs_cons (eg_name 2 nd rfl (.inl rfl)) (egs_cons (eg_name 3 nd rfl (.inl rfl)) egs_nil))), ?_⟩
    refine exs_one (ex_ifP bd_d (et_cmp o_eqs (ev_ix (.t (d := D.str zy0.2.1) rfl) (ev_var 3 rfl (.inl rfl) rfl) ev_int) (ev_var 1 rfl (.inl rfl) rfl) (nomark _)) (fun (zh1 : (zy0.2.1 = kind_name)) => ?_) (fun (zh1 : ¬ (zy0.2.1 = kind_name)) => ?_))
    · skip
      refine exs_one (ex_ret (ev_var 2 rfl (.inl rfl) rfl) ?_)
      have est : (m_Task_kind_number_l0 kind_name) zs0 zy0 = .error zy0.1 := by simp only [m_Task_kind_number_l0, not_true_eq_false, not_false_eq_true, ↓reduceIte, ↓if_pos zh1]
      exact ⟨_, est, rfl, trivial⟩
    · skip
      refine exs_nil ?_
      have est : (m_Task_kind_number_l0 kind_name) zs0 zy0 = .ok () := by simp only [m_Task_kind_number_l0, not_true_eq_false, not_false_eq_true, ↓reduceIte, ↓if_neg zh1]
      exact ⟨_, est, ⟨⟨.inr rfl, .inr rfl, .inl rfl, .inl rfl, trivial⟩, rfl⟩, trivial⟩
  · rintro zr zc zS zrun0 ⟨rfl, zhL⟩
    skip
    have zh2 := zrun0
    have efin : m_Task_kind_number self kind_name = zr := by simp only [m_Task_kind_number, not_true_eq_false, not_false_eq_true, ↓reduceIte, ↓zh2]
    rw [efin] at zk
    exact zk _
  · intro zs0 zrun0 zq0
    have zh3 := zrun0
    show Exs _ _ _ ⟨[some (.fr (eTask self)), some (.fr (D.str kind_name)), none, none], []⟩ _
    exfalso
    exact enum_found hpre.2 zrun0
def m_Task_kind (self : Task) (kind_name : Str) : Str × Int × Int :=
  (self.kinds.getD ((m_Task_kind_number self kind_name)).toNat default)
theorem sc_Task_kind : FnScope ["self", "kind_name"] ["self", "kind_name"] (defScope s_Task_kind) := ⟨rfl, rfl, rfl, by decide +kernel, rfl, by decide +kernel, by decide +kernel⟩
def sp_Task_kind : SpN := fun zcs zL zKc => ∃ self : Task, ∃ kind_name : Str, zcs = [.fr (eTask self), .fr (D.str kind_name)] ∧ zL = [] ∧ (self.ok ∧ kind_name ∈ self.kinds.map (·.1)) ∧ ∀ zL', zKc (.fr ((eT3 D.str D.int D.int) (m_Task_kind self kind_name))) zL'
theorem ok_Task_kind (T : TX P K mg) : FnOk P w K mg base CX0 2 T.a_Task_kind T.d_Task_kind ["self", "kind_name"] (SpOf K mg sp_Task_kind) := by
  have O_Task_kind_number := ok_Task_kind_number (P := P) (w := w) (base := base) T
  refine T.F_Task_kind.okN sc_Task_kind (fun zcs zL zKc zh => by obtain ⟨self, kind_name, rfl, _⟩ := zh; rfl) fun zcdv zA zout zst zH zE zB zcs zL zKc zhr zh => ?_
  obtain ⟨self, kind_name, rfl, rfl, hpre, zk⟩ := zh
  have nd := sc_Task_kind.nd
  have hSL := sizeLine_eq
  obtain ⟨zj, zj1, zj2, zj3, zj4⟩ := kind_number_spec hpre.2
  show Exs _ _ _ ⟨[some (.fr (eTask self)), some (.fr (D.str kind_name))], []⟩ _
  refine exs_one (ex_ret (ev_ix (ix_U (enc := (eT3 D.str D.int D.int)) (by walk_at "sd") (by walk_at "sd")) (ev_fld (c := "Task") (fs := fTask self) T.q_Task T.cl_Task T.na_Task_kinds rfl (ev_var 0 rfl (.inl rfl) rfl)) (ev_meth (c := "Task") (fs := fTask self) (ds := [D.str kind_name]) T.q_Task T.cl_Task T.me_Task_kind_number rfl O_Task_kind_number (zhr.mono (by decide)) T.b_Task_kind_number (ev_var 0 rfl (.inl rfl) rfl) (ea_cons (ev_var 1 rfl (.inl rfl) rfl) ea_nil) (fun _ zkk => ⟨self, kind_name, rfl, rfl, (by walk_at "pre"), zkk⟩))) ?_)
  have efin : m_Task_kind self kind_name = (self.kinds.getD ((m_Task_kind_number self kind_name)).toNat default) := by simp only [m_Task_kind, not_true_eq_false, not_false_eq_true, ↓reduceIte]
  rw [efin] at zk
  exact zk _
def m_law_names (number : Int) (many : Int) : List Str :=
  let letters1 : Str := (Str.ofString "abcdefghijklmnopqrstuvwxyz0123456789")
  let rest1 : Str := (Txt.join (Str.ofString "") ((List.range ((number % (12 : Int))).toNat).map (fun zc3 : Nat => (chA letters1 ((number + (((7 : Int) * ((0 : Int) + (zc3 : Int))) * ((0 : Int) + (zc3 : Int)))) % (36 : Int))))))
  let place1 : Int := ((number / (12 : Int)) % ((number % (12 : Int)) + (1 : Int)))
  ((List.range (many).toNat).map (fun zc4 : Nat => (((cutS rest1 none (some place1)) ++ (chA letters1 ((number + ((5 : Int) * ((0 : Int) + (zc4 : Int)))) % (36 : Int)))) ++ (cutS rest1 (some place1) none))))
theorem str_len_append (a b : Str) : (a ++ b).length = a.length + b.length := by
  show (a.cps ++ b.cps).size = _
  rw [Array.size_append]; rfl
theorem fold_snoc {τ μ : Type} (g : μ → τ) (f : List τ → μ → List τ) (hf : ∀ s y, f s y = s ++ [g y]) : ∀ (ys : List μ) (s : List τ), ys.foldl f s = s ++ ys.map g
  | [], s => by simp
  | y :: ys, s => by rw [List.foldl_cons, fold_snoc g f hf ys, hf]; simp
theorem cs_append (a b : Str) : (a ++ b).cps.toList = a.cps.toList ++ b.cps.toList := by
  show (a.cps ++ b.cps).toList = _
  rw [Array.toList_append]
theorem joinL_nil : ∀ ps : List (List Nat), TL.joinL [] ps = ps.flatten
  | [] => rfl
  | [p] => by simp [TL.joinL]
  | p :: q :: r => by
    show p ++ ([] ++ TL.joinL [] (q :: r)) = _
    rw [joinL_nil (q :: r)]; simp
theorem cs_join0 (ys : List Str) : (Txt.join (Str.ofString "") ys).cps.toList = (ys.map fun y => y.cps.toList).flatten := by
  rw [TL.join_eq]
  have h := TL.tl_join (Str.ofString "") ys
  rw [show TL.tl (Str.ofString "") = [] by decide +kernel, joinL_nil] at h
  exact h
theorem join0_len (ys : List Str) (h : ∀ y ∈ ys, y.length = 1) : (Txt.join (Str.ofString "") ys).length = ys.length := by
  show (Txt.join (Str.ofString "") ys).cps.size = _
  rw [← Array.length_toList, cs_join0]
  induction ys with
  | nil => rfl
  | cons y r ih =>
    rw [List.map_cons, List.flatten_cons, List.length_append, ih fun z hz => h z (List.mem_cons_of_mem _ hz), List.length_cons]
    have : y.cps.toList.length = 1 := by rw [Array.length_toList]; exact h y List.mem_cons_self
    omega
theorem cut_len (z : Str) (a b : Option Int) : (cutS z a b).length ≤ z.length := by
  unfold cutS
  show (List.toArray _).size ≤ z.cps.size
  rw [List.size_toArray, List.length_take, List.length_drop, Array.length_toList]
  omega
theorem chA_len (z : Str) (i : Int) : (chA z i).length = 1 := rfl
theorem join_room (ys : List Str) (h1 : ys.length ≤ 100) (h : ∀ y ∈ ys, y.length = 1) : (ys.map (·.length)).sum + ys.length * (Str.ofString "").length ≤ 16777216 := by
  have : ∀ ys : List Str, (∀ y ∈ ys, y.length = 1) → (ys.map (·.length)).sum = ys.length := by
    intro ys
    induction ys with
    | nil => intro _; rfl
    | cons y r ih => intro h; rw [List.map_cons, List.sum_cons, ih fun z hz => h z (List.mem_cons_of_mem _ hz), h y List.mem_cons_self, List.length_cons]; omega
  rw [this ys h, show (Str.ofString "").length = 0 by decide +kernel]; omega
set_option hygiene false in
local macro_rules | `(tactic| walk_at "join") => `(tactic| first | (exact join_room _ (by rw [List.length_map, List.length_range]; omega) (fun y hy => by obtain ⟨i, _, rfl⟩ := List.mem_map.mp hy; rfl)) | fail)
set_option hygiene false in
local macro_rules | `(tactic| walk_at "sd") => `(tactic| first | (simp only [str_len_append, chA_len]; have h1 := cut_len rest none (some place); have h2 := cut_len rest (some place) none; omega) | fail)
theorem sc_law_names : FnScope ["number", "many", "letters", "size", "rest", "place", "k"] ["number", "many"] (defScope s_law_names) := ⟨rfl, rfl, rfl, by decide +kernel, rfl, by decide +kernel, by decide +kernel⟩
def sp_law_names : SpN := fun zcs zL zKc => ∃ number : Int, ∃ many : Int, zcs = [.fr (D.int number), .fr (D.int many)] ∧ zL = [] ∧ (0 ≤ number ∧ number ≤ 1008 ∧ 0 ≤ many ∧ many ≤ 8) ∧ ∀ zL', zKc (.fr ((eL D.str) (m_law_names number many))) zL'
theorem ok_law_names (T : TX P K mg) : FnOk P w K mg base CX0 1 T.a_law_names T.d_law_names ["number", "many"] (SpOf K mg sp_law_names) := by
  refine T.F_law_names.okN sc_law_names (fun zcs zL zKc zh => by obtain ⟨number, many, rfl, _⟩ := zh; rfl) fun zcdv zA zout zst zH zE zB zcs zL zKc zhr zh => ?_
  obtain ⟨number, many, rfl, rfl, hpre, zk⟩ := zh
  have nd := sc_law_names.nd
  have hSL := sizeLine_eq
  show Exs _ _ _ ⟨[some (.fr (D.int number)), some (.fr (D.int many)), none, none, none, none, none], []⟩ _
  refine exs_cons (ex_set 2 ev_str ?_ nd rfl (.inr rfl))
  show Exs _ _ _ ⟨[some (.fr (D.int number)), some (.fr (D.int many)), some (.fr (D.str (Str.ofString "abcdefghijklmnopqrstuvwxyz0123456789"))), none, none, none, none], []⟩ _
  generalize zg_letters : (Str.ofString "abcdefghijklmnopqrstuvwxyz0123456789") = letters
  show Exs _ _ _ ⟨[some (.fr (D.int number)), some (.fr (D.int many)), some (.fr (D.str letters)), none, none, none, none], []⟩ _
  have hll : letters.length = 36 := by rw [← zg_letters]; decide +kernel
  refine exs_cons (ex_set 3 (ev_bin (o_mod (by walk_at "sd")) (ev_var 0 rfl (.inr (.inl rfl)) rfl) ev_int) ?_ nd rfl (.inl rfl))
  show Exs _ _ _ ⟨[some (.fr (D.int number)), some (.fr (D.int many)), some (.fr (D.str letters)), some (.fr (D.int (number % (12 : Int)))), none, none, none], []⟩ _
  refine exs_cons (ex_set 4 (ev_join (z := (Str.ofString "")) (ys := ((List.range ((number % (12 : Int))).toNat).map (fun zc1 : Nat => (chA letters ((number + (((7 : Int) * ((0 : Int) + (zc1 : Int))) * ((0 : Int) + (zc1 : Int)))) % (36 : Int)))))) ev_str (ev_lcM (enc2 := D.str) 199 (fun zc1 : Nat => (chA letters ((number + (((7 : Int) * ((0 : Int) + (zc1 : Int))) * ((0 : Int) + (zc1 : Int)))) % (36 : Int)))) _ rfl nd (blkOk_by (N := ["number", "many", "letters", "size", "rest", "place", "k"]) (sc := defScope s_law_names) (own := [(("k" : Str), 6)]) (by decide +kernel)) (src_range1 (ea_cons (ev_var 3 rfl (.inl rfl) rfl) ea_nil) (by exact rfl) T.n_range (by walk_at "sd") (by walk_at "sd")) (by simp [names]) (by decide) (by walk_at "sd") (fun _ zc1 _ zhyzc1 _ _ _ _ _ => (eg_nameC 6 nd rfl (.inl rfl) (by decide) (.inr rfl))) (fun _ zc1 _ zhyzc1 _ _ _ _ _ => (ev_ixS (ev_var 2 rfl (.inr (.inl rfl)) rfl) (ev_bin (o_mod (by walk_at "sd")) (ev_bin o_add (ev_var 0 rfl (.inr (.inl rfl)) rfl) (ev_bin (o_mul (by walk_at "mul")) (ev_bin (o_mul (by walk_at "mul")) ev_int (ev_var 6 rfl (.inl rfl) rfl)) (ev_var 6 rfl (.inl rfl) rfl))) ev_int) (by walk_at "sd") (by walk_at "sd") (by walk_at "sd")))) (by walk_at "join")) ?_ nd rfl (.inr rfl))
  show Exs _ _ _ ⟨[some (.fr (D.int number)), some (.fr (D.int many)), some (.fr (D.str letters)), some (.fr (D.int (number % (12 : Int)))), some (.fr (D.str (Txt.join (Str.ofString "") ((List.range ((number % (12 : Int))).toNat).map (fun zc1 : Nat => (chA letters ((number + (((7 : Int) * ((0 : Int) + (zc1 : Int))) * ((0 : Int) + (zc1 : Int)))) % (36 : Int)))))))), none, none], []⟩ _
  generalize zg_rest : (Txt.join (Str.ofString "") ((List.range ((number % (12 : Int))).toNat).map (fun zc1 : Nat => (chA letters ((number + (((7 : Int) * ((0 : Int) + (zc1 : Int))) * ((0 : Int) + (zc1 : Int)))) % (36 : Int)))))) = rest
  show Exs _ _ _ ⟨[some (.fr (D.int number)), some (.fr (D.int many)), some (.fr (D.str letters)), some (.fr (D.int (number % (12 : Int)))), some (.fr (D.str rest)), none, none], []⟩ _
  have hrl : rest.length ≤ 11 := by rw [← zg_rest, join0_len, List.length_map, List.length_range]; omega; intro y hy; obtain ⟨i, _, rfl⟩ := List.mem_map.mp hy; rfl
  refine exs_cons (ex_set 5 (ev_bin (o_mod (by walk_at "sd")) (ev_bin (o_div (by walk_at "sd") (by walk_at "sd")) (ev_var 0 rfl (.inr (.inl rfl)) rfl) ev_int) (ev_bin o_add (ev_var 3 rfl (.inl rfl) rfl) ev_int)) ?_ nd rfl (.inr rfl))
  show Exs _ _ _ ⟨[some (.fr (D.int number)), some (.fr (D.int many)), some (.fr (D.str letters)), some (.fr (D.int (number % (12 : Int)))), some (.fr (D.str rest)), some (.fr (D.int ((number / (12 : Int)) % ((number % (12 : Int)) + (1 : Int))))), none], []⟩ _
  generalize zg_place : ((number / (12 : Int)) % ((number % (12 : Int)) + (1 : Int))) = place
  show Exs _ _ _ ⟨[some (.fr (D.int number)), some (.fr (D.int many)), some (.fr (D.str letters)), some (.fr (D.int (number % (12 : Int)))), some (.fr (D.str rest)), some (.fr (D.int place)), none], []⟩ _
  refine exs_one (ex_ret (ev_lcM (enc2 := D.str) 199 (fun zc2 : Nat => (((cutS rest none (some place)) ++ (chA letters ((number + ((5 : Int) * ((0 : Int) + (zc2 : Int)))) % (36 : Int)))) ++ (cutS rest (some place) none))) _ rfl nd (blkOk_by (N := ["number", "many", "letters", "size", "rest", "place", "k"]) (sc := defScope s_law_names) (own := [(("k" : Str), 6)]) (by decide +kernel)) (src_range1 (ea_cons (ev_var 1 rfl (.inl rfl) rfl) ea_nil) (by exact rfl) T.n_range (by walk_at "sd") (by walk_at "sd")) (by simp [names]) (by decide) (by walk_at "sd") (fun _ zc2 _ zhyzc2 _ _ _ _ _ => (eg_nameC 6 nd rfl (.inl rfl) (by decide) (.inr rfl))) (fun _ zc2 _ zhyzc2 _ _ _ _ _ => (ev_bin (o_adds (by walk_at "sd")) (ev_bin (o_adds (by walk_at "sd")) (ev_sliceS (ev_var 4 rfl (.inr (.inl rfl)) rfl) eo_none (eo_some (ev_var 5 rfl (.inr (.inl rfl)) rfl)) (by walk_at "sd")) (ev_ixS (ev_var 2 rfl (.inr (.inl rfl)) rfl) (ev_bin (o_mod (by walk_at "sd")) (ev_bin o_add (ev_var 0 rfl (.inr (.inl rfl)) rfl) (ev_bin (o_mul (by walk_at "mul")) ev_int (ev_var 6 rfl (.inl rfl) rfl))) ev_int) (by walk_at "sd") (by walk_at "sd") (by walk_at "sd"))) (ev_sliceS (ev_var 4 rfl (.inr (.inl rfl)) rfl) (eo_some (ev_var 5 rfl (.inr (.inl rfl)) rfl)) eo_none (by walk_at "sd"))))) ?_)
  have efin : m_law_names number many = ((List.range (many).toNat).map (fun zc2 : Nat => (((cutS rest none (some place)) ++ (chA letters ((number + ((5 : Int) * ((0 : Int) + (zc2 : Int)))) % (36 : Int)))) ++ (cutS rest (some place) none)))) := by subst zg_place; subst zg_rest; subst zg_letters; simp only [m_law_names, not_true_eq_false, not_false_eq_true, ↓reduceIte]
  rw [efin] at zk
  exact zk _
def m_law_kinds_l0 (numbers : List Int) (at_ : Int) (names_ : List Str) (zs0 : (List (Str × Int × Int))) (zy0 : Nat) : (List (Str × Int × Int)) :=
  let cost : Int := ((1 : Int) + ((numbers.getD (((at_ + (2 : Int)) + ((2 : Int) * ((0 : Int) + (zy0 : Int))))).toNat default) % (4 : Int)))
  let deadline : Int := ((1 : Int) + ((numbers.getD (((at_ + (3 : Int)) + ((2 : Int) * ((0 : Int) + (zy0 : Int))))).toNat default) % (9 : Int)))
  let cost : Int := (if (((numbers.getD (at_).toNat default) % (5 : Int)) = (0 : Int)) then ((1 : Int) + ((numbers.getD (((at_ + (2 : Int)) + ((2 : Int) * ((0 : Int) + (zy0 : Int))))).toNat default) % (1000 : Int))) else cost)
  let deadline : Int := (if (((numbers.getD (at_).toNat default) % (5 : Int)) = (0 : Int)) then ((1 : Int) + ((numbers.getD (((at_ + (3 : Int)) + ((2 : Int) * ((0 : Int) + (zy0 : Int))))).toNat default) % (1000 : Int))) else deadline)
  (zs0 ++ [((names_.getD (((0 : Int) + (zy0 : Int))).toNat default), cost, deadline)])
def m_law_kinds (numbers : List Int) (at_ : Int) : List (Str × Int × Int) :=
  let many2 : Int := ((1 : Int) + ((numbers.getD (at_).toNat default) % (3 : Int)))
  let many2 : Int := (if ((((numbers.getD (at_).toNat default) / (3 : Int)) % (4 : Int)) = (0 : Int)) then ((1 : Int) + (((numbers.getD (at_).toNat default) / (12 : Int)) % (8 : Int))) else many2)
  let names_1 : List Str := (m_law_names (numbers.getD ((at_ + (1 : Int))).toNat default) many2)
  ((List.range (many2).toNat).foldl (m_law_kinds_l0 numbers at_ names_1) ([] : List (Str × Int × Int)))
theorem names_len (number many : Int) (h : 0 ≤ many) : (m_law_names number many).length = many.toNat := by
  unfold m_law_names
  dsimp only
  rw [List.length_map, List.length_range]
theorem sc_law_kinds : FnScope ["numbers", "at", "many", "names", "kinds", "k", "cost", "deadline"] ["numbers", "at"] (defScope s_law_kinds) := ⟨rfl, rfl, rfl, by decide +kernel, rfl, by decide +kernel, by decide +kernel⟩
def sp_law_kinds : SpN := fun zcs zL zKc => ∃ numbers : List Int, ∃ at_ : Int, zcs = [.fr ((eL D.int) numbers), .fr (D.int at_)] ∧ zL = [] ∧ (0 ≤ at_ ∧ at_ + 18 ≤ numbers.length ∧ (∀ x ∈ numbers, 0 ≤ x ∧ x ≤ 1008)) ∧ ∀ zL', zKc (.fr ((eL (eT3 D.str D.int D.int)) (m_law_kinds numbers at_))) zL'
theorem ok_law_kinds (T : TX P K mg) : FnOk P w K mg base CX0 2 T.a_law_kinds T.d_law_kinds ["numbers", "at"] (SpOf K mg sp_law_kinds) := by
  have O_law_names := ok_law_names (P := P) (w := w) (base := base) T
  refine T.F_law_kinds.okN sc_law_kinds (fun zcs zL zKc zh => by obtain ⟨numbers, at_, rfl, _⟩ := zh; rfl) fun zcdv zA zout zst zH zE zB zcs zL zKc zhr zh => ?_
  obtain ⟨numbers, at_, rfl, rfl, hpre, zk⟩ := zh
  have nd := sc_law_kinds.nd
  have hSL := sizeLine_eq
  have hb0 := getD_bound hpre.2.2 at_.toNat
  have hb1 := getD_bound hpre.2.2 (at_ + 1).toNat
  show Exs _ _ _ ⟨[some (.fr ((eL D.int) numbers)), some (.fr (D.int at_)), none, none, none, none, none, none], []⟩ _
  refine exs_cons (ex_set 2 (ev_bin o_add ev_int (ev_bin (o_mod (by walk_at "sd")) (ev_ix (ix_L (xs := numbers) (enc := D.int) (by exact rfl) (by walk_at "sd") (by walk_at "sd")) (ev_var 0 rfl (.inl rfl) rfl) (ev_var 1 rfl (.inl rfl) rfl)) ev_int)) ?_ nd rfl (.inl rfl))
  show Exs _ _ _ ⟨[some (.fr ((eL D.int) numbers)), some (.fr (D.int at_)), some (.fr (D.int ((1 : Int) + ((numbers.getD (at_).toNat default) % (3 : Int))))), none, none, none, none, none], []⟩ _
  generalize zg_many : ((1 : Int) + ((numbers.getD (at_).toNat default) % (3 : Int))) = many
  show Exs _ _ _ ⟨[some (.fr ((eL D.int) numbers)), some (.fr (D.int at_)), some (.fr (D.int many)), none, none, none, none, none], []⟩ _
  refine exs_cons (ex_join ⟨[some (.fr ((eL D.int) numbers)), some (.fr (D.int at_)), some (.fr (D.int (if ((((numbers.getD (at_).toNat default) / (3 : Int)) % (4 : Int)) = (0 : Int)) then ((1 : Int) + (((numbers.getD (at_).toNat default) / (12 : Int)) % (8 : Int))) else many))), none, none, none, none, none], []⟩ (ex_ifP bd_d (et_cmp o_eqi (ev_bin (o_mod (by walk_at "sd")) (ev_bin (o_div (by walk_at "sd") (by walk_at "sd")) (ev_ix (ix_L (xs := numbers) (enc := D.int) (by exact rfl) (by walk_at "sd") (by walk_at "sd")) (ev_var 0 rfl (.inl rfl) rfl) (ev_var 1 rfl (.inl rfl) rfl)) ev_int) ev_int) ev_int (nomark _)) (fun (zh1 : ((((numbers.getD (at_).toNat default) / (3 : Int)) % (4 : Int)) = (0 : Int))) => ?_) (fun (zh1 : ¬ ((((numbers.getD (at_).toNat default) / (3 : Int)) % (4 : Int)) = (0 : Int))) => ?_)) ?_)
  · skip
    refine exs_one (ex_set 2 (ev_bin o_add ev_int (ev_bin (o_mod (by walk_at "sd")) (ev_bin (o_div (by walk_at "sd") (by walk_at "sd")) (ev_ix (ix_L (xs := numbers) (enc := D.int) (by exact rfl) (by walk_at "sd") (by walk_at "sd")) (ev_var 0 rfl (.inl rfl) rfl) (ev_var 1 rfl (.inl rfl) rfl)) ev_int) ev_int)) ?_ nd rfl (.inl rfl))
    exact ⟨_, rfl, by simp only [if_pos zh1]; exact ⟨⟨.inr rfl, .inr rfl, .inr rfl, .inl rfl, .inl rfl, .inl rfl, .inl rfl, .inl rfl, trivial⟩, rfl⟩⟩
  · skip
    refine exs_nil ?_
    exact ⟨_, rfl, by simp only [if_neg zh1]; exact ⟨⟨.inr rfl, .inr rfl, .inr rfl, .inl rfl, .inl rfl, .inl rfl, .inl rfl, .inl rfl, trivial⟩, rfl⟩⟩
  · skip
    show Exs _ _ _ ⟨[some (.fr ((eL D.int) numbers)), some (.fr (D.int at_)), some (.fr (D.int (if ((((numbers.getD (at_).toNat default) / (3 : Int)) % (4 : Int)) = (0 : Int)) then ((1 : Int) + (((numbers.getD (at_).toNat default) / (12 : Int)) % (8 : Int))) else many))), none, none, none, none, none], []⟩ _
    generalize zg_many1 : (if ((((numbers.getD (at_).toNat default) / (3 : Int)) % (4 : Int)) = (0 : Int)) then ((1 : Int) + (((numbers.getD (at_).toNat default) / (12 : Int)) % (8 : Int))) else many) = many1
    show Exs _ _ _ ⟨[some (.fr ((eL D.int) numbers)), some (.fr (D.int at_)), some (.fr (D.int many1)), none, none, none, none, none], []⟩ _
    have hm2 : 1 ≤ many1 ∧ many1 ≤ 8 := by rw [← zg_many1]; split <;> omega
    show Exs _ _ _ ⟨[some (.fr ((eL D.int) numbers)), some (.fr (D.int at_)), some (.fr (D.int many1)), none, none, none, none, none], []⟩ _
    refine exs_cons (ex_set 3 (ev_call (ds := [D.int (numbers.getD ((at_ + (1 : Int))).toNat default), D.int many1]) (ds' := []) (dvs := []) (dfs := []) O_law_names (zhr.mono (by decide)) T.m_law_names T.k_law_names T.b_law_names .nil (fun _ => .nil) (ea_cons (ev_ix (ix_L (xs := numbers) (enc := D.int) (by exact rfl) (by walk_at "sd") (by walk_at "sd")) (ev_var 0 rfl (.inl rfl) rfl) (ev_bin o_add (ev_var 1 rfl (.inl rfl) rfl) ev_int)) (ea_cons (ev_var 2 rfl (.inl rfl) rfl) ea_nil)) (fun _ zkk => ⟨(numbers.getD ((at_ + (1 : Int))).toNat default), many1, rfl, rfl, (by walk_at "pre"), zkk⟩) (by exact rfl)) ?_ nd rfl (.inl rfl))
    show Exs _ _ _ ⟨[some (.fr ((eL D.int) numbers)), some (.fr (D.int at_)), some (.fr (D.int many1)), some (.fr ((eL D.str) (m_law_names (numbers.getD ((at_ + (1 : Int))).toNat default) many1))), none, none, none, none], []⟩ _
    generalize zg_names_ : (m_law_names (numbers.getD ((at_ + (1 : Int))).toNat default) many1) = names_
    show Exs _ _ _ ⟨[some (.fr ((eL D.int) numbers)), some (.fr (D.int at_)), some (.fr (D.int many1)), some (.fr ((eL D.str) names_)), none, none, none, none], []⟩ _
    have hnl := names_len (numbers.getD (at_ + 1).toNat default) many1 (by omega)
    rw [zg_names_] at hnl
    refine exs_cons (ex_set 4 (ev_lstN 100 (enc := (eT3 D.str D.int D.int)) ([] : List (Str × Int × Int)) ea_nil rfl (by simp only [List.length_cons, List.length_nil]; decide) (by simp [names]) (by decide)) ?_ nd rfl (.inl rfl))
    show Exs _ _ _ ⟨[some (.fr ((eL D.int) numbers)), some (.fr (D.int at_)), some (.fr (D.int many1)), some (.fr ((eL D.str) names_)), some (.ad 100), none, none, none], [(100, .fl ((([] : List (Str × Int × Int))).map (eT3 D.str D.int D.int)))]⟩ _
    refine exs_cons (ex_forF (enc := (fun i : Nat => D.int ((0 : Int) + (i : Int)))) (fun (zs0 : (List (Str × Int × Int))) => (⟨[some (.fr ((eL D.int) numbers)), some (.fr (D.int at_)), some (.fr (D.int many1)), some (.fr ((eL D.str) names_)), some (.ad 100), none, none, none], [(100, .fl ((zs0).map (eT3 D.str D.int D.int)))]⟩ : Nz.S)) (m_law_kinds_l0 numbers at_ names_) ([] : List (Str × Int × Int)) (fun (zi0 : Nat) (zs0 : (List (Str × Int × Int))) => zs0.length = zi0) (src_range1 (ea_cons (ev_var 2 rfl (.inl rfl) rfl) ea_nil) (by exact rfl) T.n_range (by walk_at "sd") (by walk_at "sd")) ⟨⟨.inr rfl, .inr rfl, .inr rfl, .inr rfl, .inr rfl, .inl rfl, .inl rfl, .inl rfl, trivial⟩, rfl⟩ (by simp) ?_ ?_ PassesOwn.never rfl)
    · intro zi0 zy0 zs0 zhy0 zq0
      skip
      have hy0 := seq_range zhy0
      refine ⟨⟨[some (.fr ((eL D.int) numbers)), some (.fr (D.int at_)), some (.fr (D.int many1)), some (.fr ((eL D.str) names_)), some (.ad 100), some (.fr (D.int ((0 : Int) + (zy0 : Int)))), none, none], [(100, .fl ((zs0).map (eT3 D.str D.int D.int)))]⟩, (eg_name 5 nd rfl (.inl rfl)), ?_⟩
      refine exs_cons (ex_set 6 (ev_bin o_add ev_int (ev_bin (o_mod (by walk_at "sd")) (ev_ix (ix_L (xs := numbers) (enc := D.int) (by exact rfl) (by walk_at "sd") (by walk_at "sd")) (ev_var 0 rfl (.inl rfl) rfl) (ev_bin o_add (ev_bin o_add (ev_var 1 rfl (.inl rfl) rfl) ev_int) (ev_bin (o_mul (by walk_at "mul")) ev_int (ev_var 5 rfl (.inl rfl) rfl)))) ev_int)) ?_ nd rfl (.inl rfl))
      show Exs _ _ _ ⟨[some (.fr ((eL D.int) numbers)), some (.fr (D.int at_)), some (.fr (D.int many1)), some (.fr ((eL D.str) names_)), some (.ad 100), some (.fr (D.int ((0 : Int) + (zy0 : Int)))), some (.fr (D.int ((1 : Int) + ((numbers.getD (((at_ + (2 : Int)) + ((2 : Int) * ((0 : Int) + (zy0 : Int))))).toNat default) % (4 : Int))))), none], [(100, .fl ((zs0).map (eT3 D.str D.int D.int)))]⟩ _
      generalize zg_cost : ((1 : Int) + ((numbers.getD (((at_ + (2 : Int)) + ((2 : Int) * ((0 : Int) + (zy0 : Int))))).toNat default) % (4 : Int))) = cost
      show Exs _ _ _ ⟨[some (.fr ((eL D.int) numbers)), some (.fr (D.int at_)), some (.fr (D.int many1)), some (.fr ((eL D.str) names_)), some (.ad 100), some (.fr (D.int ((0 : Int) + (zy0 : Int)))), some (.fr (D.int cost)), none], [(100, .fl ((zs0).map (eT3 D.str D.int D.int)))]⟩ _
      refine exs_cons (ex_set 7 (ev_bin o_add ev_int (ev_bin (o_mod (by walk_at "sd")) (ev_ix (ix_L (xs := numbers) (enc := D.int) (by exact rfl) (by walk_at "sd") (by walk_at "sd")) (ev_var 0 rfl (.inl rfl) rfl) (ev_bin o_add (ev_bin o_add (ev_var 1 rfl (.inl rfl) rfl) ev_int) (ev_bin (o_mul (by walk_at "mul")) ev_int (ev_var 5 rfl (.inl rfl) rfl)))) ev_int)) ?_ nd rfl (.inl rfl))
      show Exs _ _ _ ⟨[some (.fr ((eL D.int) numbers)), some (.fr (D.int at_)), some (.fr (D.int many1)), some (.fr ((eL D.str) names_)), some (.ad 100), some (.fr (D.int ((0 : Int) + (zy0 : Int)))), some (.fr (D.int cost)), some (.fr (D.int ((1 : Int) + ((numbers.getD (((at_ + (3 : Int)) + ((2 : Int) * ((0 : Int) + (zy0 : Int))))).toNat default) % (9 : Int)))))], [(100, .fl ((zs0).map (eT3 D.str D.int D.int)))]⟩ _
      generalize zg_deadline : ((1 : Int) + ((numbers.getD (((at_ + (3 : Int)) + ((2 : Int) * ((0 : Int) + (zy0 : Int))))).toNat default) % (9 : Int))) = deadline
      show Exs _ _ _ ⟨[some (.fr ((eL D.int) numbers)), some (.fr (D.int at_)), some (.fr (D.int many1)), some (.fr ((eL D.str) names_)), some (.ad 100), some (.fr (D.int ((0 : Int) + (zy0 : Int)))), some (.fr (D.int cost)), some (.fr (D.int deadline))], [(100, .fl ((zs0).map (eT3 D.str D.int D.int)))]⟩ _
      refine exs_cons (ex_join ⟨[some (.fr ((eL D.int) numbers)), some (.fr (D.int at_)), some (.fr (D.int many1)), some (.fr ((eL D.str) names_)), some (.ad 100), some (.fr (D.int ((0 : Int) + (zy0 : Int)))), some (.fr (D.int (if (((numbers.getD (at_).toNat default) % (5 : Int)) = (0 : Int)) then ((1 : Int) + ((numbers.getD (((at_ + (2 : Int)) + ((2 : Int) * ((0 : Int) + (zy0 : Int))))).toNat default) % (1000 : Int))) else cost))), some (.fr (D.int (if (((numbers.getD (at_).toNat default) % (5 : Int)) = (0 : Int)) then ((1 : Int) + ((numbers.getD (((at_ + (3 : Int)) + ((2 : Int) * ((0 : Int) + (zy0 : Int))))).toNat default) % (1000 : Int))) else deadline)))], [(100, .fl ((zs0).map (eT3 D.str D.int D.int)))]⟩ (ex_ifP bd_d (et_cmp o_eqi (ev_bin (o_mod (by walk_at "sd")) (ev_ix (ix_L (xs := numbers) (enc := D.int) (by exact rfl) (by walk_at "sd") (by walk_at "sd")) (ev_var 0 rfl (.inl rfl) rfl) (ev_var 1 rfl (.inl rfl) rfl)) ev_int) ev_int (nomark _)) (fun (zh2 : (((numbers.getD (at_).toNat default) % (5 : Int)) = (0 : Int))) => ?_) (fun (zh2 : ¬ (((numbers.getD (at_).toNat default) % (5 : Int)) = (0 : Int))) => ?_)) ?_)
      · skip
        refine exs_cons (ex_set 6 (ev_bin o_add ev_int (ev_bin (o_mod (by walk_at "sd")) (ev_ix (ix_L (xs := numbers) (enc := D.int) (by exact rfl) (by walk_at "sd") (by walk_at "sd")) (ev_var 0 rfl (.inl rfl) rfl) (ev_bin o_add (ev_bin o_add (ev_var 1 rfl (.inl rfl) rfl) ev_int) (ev_bin (o_mul (by walk_at "mul")) ev_int (ev_var 5 rfl (.inl rfl) rfl)))) ev_int)) ?_ nd rfl (.inl rfl))
        show Exs _ _ _ ⟨[some (.fr ((eL D.int) numbers)), some (.fr (D.int at_)), some (.fr (D.int many1)), some (.fr ((eL D.str) names_)), some (.ad 100), some (.fr (D.int ((0 : Int) + (zy0 : Int)))), some (.fr (D.int ((1 : Int) + ((numbers.getD (((at_ + (2 : Int)) + ((2 : Int) * ((0 : Int) + (zy0 : Int))))).toNat default) % (1000 : Int))))), some (.fr (D.int deadline))], [(100, .fl ((zs0).map (eT3 D.str D.int D.int)))]⟩ _
        refine exs_one (ex_set 7 (ev_bin o_add ev_int (ev_bin (o_mod (by walk_at "sd")) (ev_ix (ix_L (xs := numbers) (enc := D.int) (by exact rfl) (by walk_at "sd") (by walk_at "sd")) (ev_var 0 rfl (.inl rfl) rfl) (ev_bin o_add (ev_bin o_add (ev_var 1 rfl (.inl rfl) rfl) ev_int) (ev_bin (o_mul (by walk_at "mul")) ev_int (ev_var 5 rfl (.inl rfl) rfl)))) ev_int)) ?_ nd rfl (.inl rfl))
        exact ⟨_, rfl, by simp only [if_pos zh2]; exact ⟨⟨.inr rfl, .inr rfl, .inr rfl, .inr rfl, .inr rfl, .inr rfl, .inr rfl, .inr rfl, trivial⟩, rfl⟩⟩
      · skip
        refine exs_nil ?_
        exact ⟨_, rfl, by simp only [if_neg zh2]; exact ⟨⟨.inr rfl, .inr rfl, .inr rfl, .inr rfl, .inr rfl, .inr rfl, .inr rfl, .inr rfl, trivial⟩, rfl⟩⟩
      · skip
        show Exs _ _ _ ⟨[some (.fr ((eL D.int) numbers)), some (.fr (D.int at_)), some (.fr (D.int many1)), some (.fr ((eL D.str) names_)), some (.ad 100), some (.fr (D.int ((0 : Int) + (zy0 : Int)))), some (.fr (D.int (if (((numbers.getD (at_).toNat default) % (5 : Int)) = (0 : Int)) then ((1 : Int) + ((numbers.getD (((at_ + (2 : Int)) + ((2 : Int) * ((0 : Int) + (zy0 : Int))))).toNat default) % (1000 : Int))) else cost))), some (.fr (D.int (if (((numbers.getD (at_).toNat default) % (5 : Int)) = (0 : Int)) then ((1 : Int) + ((numbers.getD (((at_ + (3 : Int)) + ((2 : Int) * ((0 : Int) + (zy0 : Int))))).toNat default) % (1000 : Int))) else deadline)))], [(100, .fl ((zs0).map (eT3 D.str D.int D.int)))]⟩ _
        generalize zg_cost1 : (if (((numbers.getD (at_).toNat default) % (5 : Int)) = (0 : Int)) then ((1 : Int) + ((numbers.getD (((at_ + (2 : Int)) + ((2 : Int) * ((0 : Int) + (zy0 : Int))))).toNat default) % (1000 : Int))) else cost) = cost1
        show Exs _ _ _ ⟨[some (.fr ((eL D.int) numbers)), some (.fr (D.int at_)), some (.fr (D.int many1)), some (.fr ((eL D.str) names_)), some (.ad 100), some (.fr (D.int ((0 : Int) + (zy0 : Int)))), some (.fr (D.int cost1)), some (.fr (D.int (if (((numbers.getD (at_).toNat default) % (5 : Int)) = (0 : Int)) then ((1 : Int) + ((numbers.getD (((at_ + (3 : Int)) + ((2 : Int) * ((0 : Int) + (zy0 : Int))))).toNat default) % (1000 : Int))) else deadline)))], [(100, .fl ((zs0).map (eT3 D.str D.int D.int)))]⟩ _
        show Exs _ _ _ ⟨[some (.fr ((eL D.int) numbers)), some (.fr (D.int at_)), some (.fr (D.int many1)), some (.fr ((eL D.str) names_)), some (.ad 100), some (.fr (D.int ((0 : Int) + (zy0 : Int)))), some (.fr (D.int cost1)), some (.fr (D.int (if (((numbers.getD (at_).toNat default) % (5 : Int)) = (0 : Int)) then ((1 : Int) + ((numbers.getD (((at_ + (3 : Int)) + ((2 : Int) * ((0 : Int) + (zy0 : Int))))).toNat default) % (1000 : Int))) else deadline)))], [(100, .fl ((zs0).map (eT3 D.str D.int D.int)))]⟩ _
        generalize zg_deadline1 : (if (((numbers.getD (at_).toNat default) % (5 : Int)) = (0 : Int)) then ((1 : Int) + ((numbers.getD (((at_ + (3 : Int)) + ((2 : Int) * ((0 : Int) + (zy0 : Int))))).toNat default) % (1000 : Int))) else deadline) = deadline1
        show Exs _ _ _ ⟨[some (.fr ((eL D.int) numbers)), some (.fr (D.int at_)), some (.fr (D.int many1)), some (.fr ((eL D.str) names_)), some (.ad 100), some (.fr (D.int ((0 : Int) + (zy0 : Int)))), some (.fr (D.int cost1)), some (.fr (D.int deadline1))], [(100, .fl ((zs0).map (eT3 D.str D.int D.int)))]⟩ _
        show Exs _ _ _ ⟨[some (.fr ((eL D.int) numbers)), some (.fr (D.int at_)), some (.fr (D.int many1)), some (.fr ((eL D.str) names_)), some (.ad 100), some (.fr (D.int ((0 : Int) + (zy0 : Int)))), some (.fr (D.int cost1)), some (.fr (D.int deadline1))], [(100, .fl ((zs0).map (eT3 D.str D.int D.int)))]⟩ _
        refine exs_one (ex_expr (ev_appendT (n := 100) (enc := (eT3 D.str D.int D.int)) (xs := zs0) (xs0 := zs0) ((names_.getD (((0 : Int) + (zy0 : Int))).toNat default), cost1, deadline1) rfl rfl rfl (by walk_at "sd") (ev_var 4 rfl (.inl rfl) rfl) (ev_tup (ds := [D.str (names_.getD (((0 : Int) + (zy0 : Int))).toNat default), D.int cost1, D.int deadline1]) (ea_cons (ev_ix (ix_L (xs := names_) (enc := D.str) (by exact rfl) (by walk_at "sd") (by walk_at "sd")) (ev_var 3 rfl (.inl rfl) rfl) (ev_var 5 rfl (.inl rfl) rfl)) (ea_cons (ev_var 6 rfl (.inl rfl) rfl) (ea_cons (ev_var 7 rfl (.inl rfl) rfl) ea_nil))) (by simp only [List.length_cons, List.length_nil]; decide))) ?_)
        have est : (m_law_kinds_l0 numbers at_ names_) zs0 zy0 = (zs0 ++ [((names_.getD (((0 : Int) + (zy0 : Int))).toNat default), cost1, deadline1)]) := by subst zg_deadline1; subst zg_cost1; subst zg_deadline; subst zg_cost; simp only [m_law_kinds_l0, not_true_eq_false, not_false_eq_true, ↓reduceIte]
        show Le _ _ ∧ _
        try rw [est]
        exact ⟨⟨⟨.inr rfl, .inr rfl, .inr rfl, .inr rfl, .inr rfl, .inl rfl, .inl rfl, .inl rfl, trivial⟩, rfl⟩, (by simp; omega)⟩
    · intro zq0
      show Exs _ _ _ ⟨[some (.fr ((eL D.int) numbers)), some (.fr (D.int at_)), some (.fr (D.int many1)), some (.fr ((eL D.str) names_)), some (.ad 100), none, none, none], [(100, .fl ((((List.range (many1).toNat).foldl (m_law_kinds_l0 numbers at_ names_) ([] : List (Str × Int × Int)))).map (eT3 D.str D.int D.int)))]⟩ _
      refine exs_freezeT 100 (xs := ((List.range (many1).toNat).foldl (m_law_kinds_l0 numbers at_ names_) ([] : List (Str × Int × Int)))) (enc := (eT3 D.str D.int D.int)) (by exact rfl) ?_
      show Exs _ _ _ ⟨[some (.fr ((eL D.int) numbers)), some (.fr (D.int at_)), some (.fr (D.int many1)), some (.fr ((eL D.str) names_)), some (.fr ((eL (eT3 D.str D.int D.int)) ((List.range (many1).toNat).foldl (m_law_kinds_l0 numbers at_ names_) ([] : List (Str × Int × Int))))), none, none, none], []⟩ _
      refine exs_one (ex_ret (ev_var 4 rfl (.inl rfl) rfl) ?_)
      have efin : m_law_kinds numbers at_ = ((List.range (many1).toNat).foldl (m_law_kinds_l0 numbers at_ names_) ([] : List (Str × Int × Int))) := by subst zg_names_; subst zg_many1; subst zg_many; simp only [m_law_kinds, not_true_eq_false, not_false_eq_true, ↓reduceIte]
      rw [efin] at zk
      exact zk _
def m_law_ways_l0 (numbers : List Int) (at_ : Int) (kinds : List (Str × Int × Int)) (zs0 : (List (Str × Str × Int))) (zy0 : Nat) : (List (Str × Str × Int)) :=
  let source : Str := (kinds.getD (((numbers.getD (((at_ + (1 : Int)) + ((3 : Int) * ((0 : Int) + (zy0 : Int))))).toNat default) % (kinds.length : Int))).toNat default).1
  let target : Str := (kinds.getD (((numbers.getD (((at_ + (2 : Int)) + ((3 : Int) * ((0 : Int) + (zy0 : Int))))).toNat default) % (kinds.length : Int))).toNat default).1
  let distance : Int := ((1 : Int) + ((numbers.getD (((at_ + (3 : Int)) + ((3 : Int) * ((0 : Int) + (zy0 : Int))))).toNat default) % (6 : Int)))
  let distance : Int := (if (((numbers.getD (at_).toNat default) % (7 : Int)) = (0 : Int)) then ((1 : Int) + ((numbers.getD (((at_ + (3 : Int)) + ((3 : Int) * ((0 : Int) + (zy0 : Int))))).toNat default) % (1000 : Int))) else distance)
  (zs0 ++ [(source, target, distance)])
def m_law_ways (numbers : List Int) (at_ : Int) (kinds : List (Str × Int × Int)) : List (Str × Str × Int) :=
  let many2 : Int := ((numbers.getD (at_).toNat default) % (5 : Int))
  let many2 : Int := (if ((((numbers.getD (at_).toNat default) / (5 : Int)) % (4 : Int)) = (0 : Int)) then (((numbers.getD (at_).toNat default) / (20 : Int)) % (17 : Int)) else many2)
  ((List.range (many2).toNat).foldl (m_law_ways_l0 numbers at_ kinds) ([] : List (Str × Str × Int)))
theorem sc_law_ways : FnScope ["numbers", "at", "kinds", "many", "ways", "k", "source", "target", "distance"] ["numbers", "at", "kinds"] (defScope s_law_ways) := ⟨rfl, rfl, rfl, by decide +kernel, rfl, by decide +kernel, by decide +kernel⟩
def sp_law_ways : SpN := fun zcs zL zKc => ∃ numbers : List Int, ∃ at_ : Int, ∃ kinds : List (Str × Int × Int), zcs = [.fr ((eL D.int) numbers), .fr (D.int at_), .fr ((eL (eT3 D.str D.int D.int)) kinds)] ∧ zL = [] ∧ (0 ≤ at_ ∧ at_ + 49 ≤ numbers.length ∧ (∀ x ∈ numbers, 0 ≤ x ∧ x ≤ 1008) ∧ 0 < kinds.length ∧ kinds.length ≤ 8) ∧ ∀ zL', zKc (.fr ((eL (eT3 D.str D.str D.int)) (m_law_ways numbers at_ kinds))) zL'
theorem ok_law_ways (T : TX P K mg) : FnOk P w K mg base CX0 1 T.a_law_ways T.d_law_ways ["numbers", "at", "kinds"] (SpOf K mg sp_law_ways) := by
  refine T.F_law_ways.okN sc_law_ways (fun zcs zL zKc zh => by obtain ⟨numbers, at_, kinds, rfl, _⟩ := zh; rfl) fun zcdv zA zout zst zH zE zB zcs zL zKc zhr zh => ?_
  obtain ⟨numbers, at_, kinds, rfl, rfl, hpre, zk⟩ := zh
  have nd := sc_law_ways.nd
  have hSL := sizeLine_eq
  have hb0 := getD_bound hpre.2.2.1 at_.toNat
  show Exs _ _ _ ⟨[some (.fr ((eL D.int) numbers)), some (.fr (D.int at_)), some (.fr ((eL (eT3 D.str D.int D.int)) kinds)), none, none, none, none, none, none], []⟩ _
  refine exs_cons (ex_set 3 (ev_bin (o_mod (by walk_at "sd")) (ev_ix (ix_L (xs := numbers) (enc := D.int) (by exact rfl) (by walk_at "sd") (by walk_at "sd")) (ev_var 0 rfl (.inl rfl) rfl) (ev_var 1 rfl (.inl rfl) rfl)) ev_int) ?_ nd rfl (.inl rfl))
  show Exs _ _ _ ⟨[some (.fr ((eL D.int) numbers)), some (.fr (D.int at_)), some (.fr ((eL (eT3 D.str D.int D.int)) kinds)), some (.fr (D.int ((numbers.getD (at_).toNat default) % (5 : Int)))), none, none, none, none, none], []⟩ _
  generalize zg_many : ((numbers.getD (at_).toNat default) % (5 : Int)) = many
  show Exs _ _ _ ⟨[some (.fr ((eL D.int) numbers)), some (.fr (D.int at_)), some (.fr ((eL (eT3 D.str D.int D.int)) kinds)), some (.fr (D.int many)), none, none, none, none, none], []⟩ _
  refine exs_cons (ex_join ⟨[some (.fr ((eL D.int) numbers)), some (.fr (D.int at_)), some (.fr ((eL (eT3 D.str D.int D.int)) kinds)), some (.fr (D.int (if ((((numbers.getD (at_).toNat default) / (5 : Int)) % (4 : Int)) = (0 : Int)) then (((numbers.getD (at_).toNat default) / (20 : Int)) % (17 : Int)) else many))), none, none, none, none, none], []⟩ (ex_ifP bd_d (et_cmp o_eqi (ev_bin (o_mod (by walk_at "sd")) (ev_bin (o_div (by walk_at "sd") (by walk_at "sd")) (ev_ix (ix_L (xs := numbers) (enc := D.int) (by exact rfl) (by walk_at "sd") (by walk_at "sd")) (ev_var 0 rfl (.inl rfl) rfl) (ev_var 1 rfl (.inl rfl) rfl)) ev_int) ev_int) ev_int (nomark _)) (fun (zh1 : ((((numbers.getD (at_).toNat default) / (5 : Int)) % (4 : Int)) = (0 : Int))) => ?_) (fun (zh1 : ¬ ((((numbers.getD (at_).toNat default) / (5 : Int)) % (4 : Int)) = (0 : Int))) => ?_)) ?_)
  · skip
    refine exs_one (ex_set 3 (ev_bin (o_mod (by walk_at "sd")) (ev_bin (o_div (by walk_at "sd") (by walk_at "sd")) (ev_ix (ix_L (xs := numbers) (enc := D.int) (by exact rfl) (by walk_at "sd") (by walk_at "sd")) (ev_var 0 rfl (.inl rfl) rfl) (ev_var 1 rfl (.inl rfl) rfl)) ev_int) ev_int) ?_ nd rfl (.inl rfl))
    exact ⟨_, rfl, by simp only [if_pos zh1]; exact ⟨⟨.inr rfl, .inr rfl, .inr rfl, .inr rfl, .inl rfl, .inl rfl, .inl rfl, .inl rfl, .inl rfl, trivial⟩, rfl⟩⟩
  · skip
    refine exs_nil ?_
    exact ⟨_, rfl, by simp only [if_neg zh1]; exact ⟨⟨.inr rfl, .inr rfl, .inr rfl, .inr rfl, .inl rfl, .inl rfl, .inl rfl, .inl rfl, .inl rfl, trivial⟩, rfl⟩⟩
  · skip
    show Exs _ _ _ ⟨[some (.fr ((eL D.int) numbers)), some (.fr (D.int at_)), some (.fr ((eL (eT3 D.str D.int D.int)) kinds)), some (.fr (D.int (if ((((numbers.getD (at_).toNat default) / (5 : Int)) % (4 : Int)) = (0 : Int)) then (((numbers.getD (at_).toNat default) / (20 : Int)) % (17 : Int)) else many))), none, none, none, none, none], []⟩ _
    generalize zg_many1 : (if ((((numbers.getD (at_).toNat default) / (5 : Int)) % (4 : Int)) = (0 : Int)) then (((numbers.getD (at_).toNat default) / (20 : Int)) % (17 : Int)) else many) = many1
    show Exs _ _ _ ⟨[some (.fr ((eL D.int) numbers)), some (.fr (D.int at_)), some (.fr ((eL (eT3 D.str D.int D.int)) kinds)), some (.fr (D.int many1)), none, none, none, none, none], []⟩ _
    have hm2 : 0 ≤ many1 ∧ many1 ≤ 16 := by rw [← zg_many1]; split <;> omega
    show Exs _ _ _ ⟨[some (.fr ((eL D.int) numbers)), some (.fr (D.int at_)), some (.fr ((eL (eT3 D.str D.int D.int)) kinds)), some (.fr (D.int many1)), none, none, none, none, none], []⟩ _
    refine exs_cons (ex_set 4 (ev_lstN 100 (enc := (eT3 D.str D.str D.int)) ([] : List (Str × Str × Int)) ea_nil rfl (by simp only [List.length_cons, List.length_nil]; decide) (by simp [names]) (by decide)) ?_ nd rfl (.inl rfl))
    show Exs _ _ _ ⟨[some (.fr ((eL D.int) numbers)), some (.fr (D.int at_)), some (.fr ((eL (eT3 D.str D.int D.int)) kinds)), some (.fr (D.int many1)), some (.ad 100), none, none, none, none], [(100, .fl ((([] : List (Str × Str × Int))).map (eT3 D.str D.str D.int)))]⟩ _
    refine exs_cons (ex_forF (enc := (fun i : Nat => D.int ((0 : Int) + (i : Int)))) (fun (zs0 : (List (Str × Str × Int))) => (⟨[some (.fr ((eL D.int) numbers)), some (.fr (D.int at_)), some (.fr ((eL (eT3 D.str D.int D.int)) kinds)), some (.fr (D.int many1)), some (.ad 100), none, none, none, none], [(100, .fl ((zs0).map (eT3 D.str D.str D.int)))]⟩ : Nz.S)) (m_law_ways_l0 numbers at_ kinds) ([] : List (Str × Str × Int)) (fun (zi0 : Nat) (zs0 : (List (Str × Str × Int))) => zs0.length = zi0) (src_range1 (ea_cons (ev_var 3 rfl (.inl rfl) rfl) ea_nil) (by exact rfl) T.n_range (by walk_at "sd") (by walk_at "sd")) ⟨⟨.inr rfl, .inr rfl, .inr rfl, .inr rfl, .inr rfl, .inl rfl, .inl rfl, .inl rfl, .inl rfl, trivial⟩, rfl⟩ (by simp) ?_ ?_ PassesOwn.never rfl)
    · intro zi0 zy0 zs0 zhy0 zq0
      skip
      have hy0 := seq_range zhy0
      have hT : (0 : Int) < (kinds.length : Int) := by omega
      have hd1 := Int.emod_lt_of_pos (numbers.getD (at_ + 1 + 3 * (0 + (zy0 : Int))).toNat default) hT
      have hd2 := Int.emod_lt_of_pos (numbers.getD (at_ + 2 + 3 * (0 + (zy0 : Int))).toNat default) hT
      have he1 := Int.emod_nonneg (numbers.getD (at_ + 1 + 3 * (0 + (zy0 : Int))).toNat default) (show (kinds.length : Int) ≠ 0 by omega)
      have he2 := Int.emod_nonneg (numbers.getD (at_ + 2 + 3 * (0 + (zy0 : Int))).toNat default) (show (kinds.length : Int) ≠ 0 by omega)
      refine ⟨⟨[some (.fr ((eL D.int) numbers)), some (.fr (D.int at_)), some (.fr ((eL (eT3 D.str D.int D.int)) kinds)), some (.fr (D.int many1)), some (.ad 100), some (.fr (D.int ((0 : Int) + (zy0 : Int)))), none, none, none], [(100, .fl ((zs0).map (eT3 D.str D.str D.int)))]⟩, (eg_name 5 nd rfl (.inl rfl)), ?_⟩
      refine exs_cons (ex_set 6 (ev_ix (.t (d := D.str ((kinds.getD (((numbers.getD (((at_ + (1 : Int)) + ((3 : Int) * ((0 : Int) + (zy0 : Int))))).toNat default) % (kinds.length : Int))).toNat default).1)) rfl) (ev_ix (ix_L (xs := kinds) (enc := (eT3 D.str D.int D.int)) (by exact rfl) (by walk_at "sd") (by walk_at "sd")) (ev_var 2 rfl (.inl rfl) rfl) (ev_bin (o_mod (by walk_at "sd")) (ev_ix (ix_L (xs := numbers) (enc := D.int) (by exact rfl) (by walk_at "sd") (by walk_at "sd")) (ev_var 0 rfl (.inl rfl) rfl) (ev_bin o_add (ev_bin o_add (ev_var 1 rfl (.inl rfl) rfl) ev_int) (ev_bin (o_mul (by walk_at "mul")) ev_int (ev_var 5 rfl (.inl rfl) rfl)))) (ev_len (ln_L (xs := kinds) (enc := (eT3 D.str D.int D.int)) (by exact rfl)) (ev_var 2 rfl (.inl rfl) rfl) (by exact rfl) T.n_len))) ev_int) ?_ nd rfl (.inl rfl))
      show Exs _ _ _ ⟨[some (.fr ((eL D.int) numbers)), some (.fr (D.int at_)), some (.fr ((eL (eT3 D.str D.int D.int)) kinds)), some (.fr (D.int many1)), some (.ad 100), some (.fr (D.int ((0 : Int) + (zy0 : Int)))), some (.fr (D.str ((kinds.getD (((numbers.getD (((at_ + (1 : Int)) + ((3 : Int) * ((0 : Int) + (zy0 : Int))))).toNat default) % (kinds.length : Int))).toNat default).1))), none, none], [(100, .fl ((zs0).map (eT3 D.str D.str D.int)))]⟩ _
      generalize zg_source : (kinds.getD (((numbers.getD (((at_ + (1 : Int)) + ((3 : Int) * ((0 : Int) + (zy0 : Int))))).toNat default) % (kinds.length : Int))).toNat default).1 = source
      show Exs _ _ _ ⟨[some (.fr ((eL D.int) numbers)), some (.fr (D.int at_)), some (.fr ((eL (eT3 D.str D.int D.int)) kinds)), some (.fr (D.int many1)), some (.ad 100), some (.fr (D.int ((0 : Int) + (zy0 : Int)))), some (.fr (D.str source)), none, none], [(100, .fl ((zs0).map (eT3 D.str D.str D.int)))]⟩ _
      refine exs_cons (ex_set 7 (ev_ix (.t (d := D.str ((kinds.getD (((numbers.getD (((at_ + (2 : Int)) + ((3 : Int) * ((0 : Int) + (zy0 : Int))))).toNat default) % (kinds.length : Int))).toNat default).1)) rfl) (ev_ix (ix_L (xs := kinds) (enc := (eT3 D.str D.int D.int)) (by exact rfl) (by walk_at "sd") (by walk_at "sd")) (ev_var 2 rfl (.inl rfl) rfl) (ev_bin (o_mod (by walk_at "sd")) (ev_ix (ix_L (xs := numbers) (enc := D.int) (by exact rfl) (by walk_at "sd") (by walk_at "sd")) (ev_var 0 rfl (.inl rfl) rfl) (ev_bin o_add (ev_bin o_add (ev_var 1 rfl (.inl rfl) rfl) ev_int) (ev_bin (o_mul (by walk_at "mul")) ev_int (ev_var 5 rfl (.inl rfl) rfl)))) (ev_len (ln_L (xs := kinds) (enc := (eT3 D.str D.int D.int)) (by exact rfl)) (ev_var 2 rfl (.inl rfl) rfl) (by exact rfl) T.n_len))) ev_int) ?_ nd rfl (.inl rfl))
      show Exs _ _ _ ⟨[some (.fr ((eL D.int) numbers)), some (.fr (D.int at_)), some (.fr ((eL (eT3 D.str D.int D.int)) kinds)), some (.fr (D.int many1)), some (.ad 100), some (.fr (D.int ((0 : Int) + (zy0 : Int)))), some (.fr (D.str source)), some (.fr (D.str ((kinds.getD (((numbers.getD (((at_ + (2 : Int)) + ((3 : Int) * ((0 : Int) + (zy0 : Int))))).toNat default) % (kinds.length : Int))).toNat default).1))), none], [(100, .fl ((zs0).map (eT3 D.str D.str D.int)))]⟩ _
      generalize zg_target : (kinds.getD (((numbers.getD (((at_ + (2 : Int)) + ((3 : Int) * ((0 : Int) + (zy0 : Int))))).toNat default) % (kinds.length : Int))).toNat default).1 = target
      show Exs _ _ _ ⟨[some (.fr ((eL D.int) numbers)), some (.fr (D.int at_)), some (.fr ((eL (eT3 D.str D.int D.int)) kinds)), some (.fr (D.int many1)), some (.ad 100), some (.fr (D.int ((0 : Int) + (zy0 : Int)))), some (.fr (D.str source)), some (.fr (D.str target)), none], [(100, .fl ((zs0).map (eT3 D.str D.str D.int)))]⟩ _
      refine exs_cons (ex_set 8 (ev_bin o_add ev_int (ev_bin (o_mod (by walk_at "sd")) (ev_ix (ix_L (xs := numbers) (enc := D.int) (by exact rfl) (by walk_at "sd") (by walk_at "sd")) (ev_var 0 rfl (.inl rfl) rfl) (ev_bin o_add (ev_bin o_add (ev_var 1 rfl (.inl rfl) rfl) ev_int) (ev_bin (o_mul (by walk_at "mul")) ev_int (ev_var 5 rfl (.inl rfl) rfl)))) ev_int)) ?_ nd rfl (.inl rfl))
      show Exs _ _ _ ⟨[some (.fr ((eL D.int) numbers)), some (.fr (D.int at_)), some (.fr ((eL (eT3 D.str D.int D.int)) kinds)), some (.fr (D.int many1)), some (.ad 100), some (.fr (D.int ((0 : Int) + (zy0 : Int)))), some (.fr (D.str source)), some (.fr (D.str target)), some (.fr (D.int ((1 : Int) + ((numbers.getD (((at_ + (3 : Int)) + ((3 : Int) * ((0 : Int) + (zy0 : Int))))).toNat default) % (6 : Int)))))], [(100, .fl ((zs0).map (eT3 D.str D.str D.int)))]⟩ _
      generalize zg_distance : ((1 : Int) + ((numbers.getD (((at_ + (3 : Int)) + ((3 : Int) * ((0 : Int) + (zy0 : Int))))).toNat default) % (6 : Int))) = distance
      show Exs _ _ _ ⟨[some (.fr ((eL D.int) numbers)), some (.fr (D.int at_)), some (.fr ((eL (eT3 D.str D.int D.int)) kinds)), some (.fr (D.int many1)), some (.ad 100), some (.fr (D.int ((0 : Int) + (zy0 : Int)))), some (.fr (D.str source)), some (.fr (D.str target)), some (.fr (D.int distance))], [(100, .fl ((zs0).map (eT3 D.str D.str D.int)))]⟩ _
      refine exs_cons (ex_join ⟨[some (.fr ((eL D.int) numbers)), some (.fr (D.int at_)), some (.fr ((eL (eT3 D.str D.int D.int)) kinds)), some (.fr (D.int many1)), some (.ad 100), some (.fr (D.int ((0 : Int) + (zy0 : Int)))), some (.fr (D.str source)), some (.fr (D.str target)), some (.fr (D.int (if (((numbers.getD (at_).toNat default) % (7 : Int)) = (0 : Int)) then ((1 : Int) + ((numbers.getD (((at_ + (3 : Int)) + ((3 : Int) * ((0 : Int) + (zy0 : Int))))).toNat default) % (1000 : Int))) else distance)))], [(100, .fl ((zs0).map (eT3 D.str D.str D.int)))]⟩ (ex_ifP bd_d (et_cmp o_eqi (ev_bin (o_mod (by walk_at "sd")) (ev_ix (ix_L (xs := numbers) (enc := D.int) (by exact rfl) (by walk_at "sd") (by walk_at "sd")) (ev_var 0 rfl (.inl rfl) rfl) (ev_var 1 rfl (.inl rfl) rfl)) ev_int) ev_int (nomark _)) (fun (zh2 : (((numbers.getD (at_).toNat default) % (7 : Int)) = (0 : Int))) => ?_) (fun (zh2 : ¬ (((numbers.getD (at_).toNat default) % (7 : Int)) = (0 : Int))) => ?_)) ?_)
      · skip
        refine exs_one (ex_set 8 (ev_bin o_add ev_int (ev_bin (o_mod (by walk_at "sd")) (ev_ix (ix_L (xs := numbers) (enc := D.int) (by exact rfl) (by walk_at "sd") (by walk_at "sd")) (ev_var 0 rfl (.inl rfl) rfl) (ev_bin o_add (ev_bin o_add (ev_var 1 rfl (.inl rfl) rfl) ev_int) (ev_bin (o_mul (by walk_at "mul")) ev_int (ev_var 5 rfl (.inl rfl) rfl)))) ev_int)) ?_ nd rfl (.inl rfl))
        exact ⟨_, rfl, by simp only [if_pos zh2]; exact ⟨⟨.inr rfl, .inr rfl, .inr rfl, .inr rfl, .inr rfl, .inr rfl, .inr rfl, .inr rfl, .inr rfl, trivial⟩, rfl⟩⟩
      · skip
        refine exs_nil ?_
        exact ⟨_, rfl, by simp only [if_neg zh2]; exact ⟨⟨.inr rfl, .inr rfl, .inr rfl, .inr rfl, .inr rfl, .inr rfl, .inr rfl, .inr rfl, .inr rfl, trivial⟩, rfl⟩⟩
      · skip
        show Exs _ _ _ ⟨[some (.fr ((eL D.int) numbers)), some (.fr (D.int at_)), some (.fr ((eL (eT3 D.str D.int D.int)) kinds)), some (.fr (D.int many1)), some (.ad 100), some (.fr (D.int ((0 : Int) + (zy0 : Int)))), some (.fr (D.str source)), some (.fr (D.str target)), some (.fr (D.int (if (((numbers.getD (at_).toNat default) % (7 : Int)) = (0 : Int)) then ((1 : Int) + ((numbers.getD (((at_ + (3 : Int)) + ((3 : Int) * ((0 : Int) + (zy0 : Int))))).toNat default) % (1000 : Int))) else distance)))], [(100, .fl ((zs0).map (eT3 D.str D.str D.int)))]⟩ _
        generalize zg_distance1 : (if (((numbers.getD (at_).toNat default) % (7 : Int)) = (0 : Int)) then ((1 : Int) + ((numbers.getD (((at_ + (3 : Int)) + ((3 : Int) * ((0 : Int) + (zy0 : Int))))).toNat default) % (1000 : Int))) else distance) = distance1
        show Exs _ _ _ ⟨[some (.fr ((eL D.int) numbers)), some (.fr (D.int at_)), some (.fr ((eL (eT3 D.str D.int D.int)) kinds)), some (.fr (D.int many1)), some (.ad 100), some (.fr (D.int ((0 : Int) + (zy0 : Int)))), some (.fr (D.str source)), some (.fr (D.str target)), some (.fr (D.int distance1))], [(100, .fl ((zs0).map (eT3 D.str D.str D.int)))]⟩ _
        show Exs _ _ _ ⟨[some (.fr ((eL D.int) numbers)), some (.fr (D.int at_)), some (.fr ((eL (eT3 D.str D.int D.int)) kinds)), some (.fr (D.int many1)), some (.ad 100), some (.fr (D.int ((0 : Int) + (zy0 : Int)))), some (.fr (D.str source)), some (.fr (D.str target)), some (.fr (D.int distance1))], [(100, .fl ((zs0).map (eT3 D.str D.str D.int)))]⟩ _
        refine exs_one (ex_expr (ev_appendT (n := 100) (enc := (eT3 D.str D.str D.int)) (xs := zs0) (xs0 := zs0) (source, target, distance1) rfl rfl rfl (by walk_at "sd") (ev_var 4 rfl (.inl rfl) rfl) (ev_tup (ds := [D.str source, D.str target, D.int distance1]) (ea_cons (ev_var 6 rfl (.inl rfl) rfl) (ea_cons (ev_var 7 rfl (.inl rfl) rfl) (ea_cons (ev_var 8 rfl (.inl rfl) rfl) ea_nil))) (by simp only [List.length_cons, List.length_nil]; decide))) ?_)
        have est : (m_law_ways_l0 numbers at_ kinds) zs0 zy0 = (zs0 ++ [(source, target, distance1)]) := by subst zg_distance1; subst zg_distance; subst zg_target; subst zg_source; simp only [m_law_ways_l0, not_true_eq_false, not_false_eq_true, ↓reduceIte]
        show Le _ _ ∧ _
        try rw [est]
        exact ⟨⟨⟨.inr rfl, .inr rfl, .inr rfl, .inr rfl, .inr rfl, .inl rfl, .inl rfl, .inl rfl, .inl rfl, trivial⟩, rfl⟩, (by simp; omega)⟩
    · intro zq0
      show Exs _ _ _ ⟨[some (.fr ((eL D.int) numbers)), some (.fr (D.int at_)), some (.fr ((eL (eT3 D.str D.int D.int)) kinds)), some (.fr (D.int many1)), some (.ad 100), none, none, none, none], [(100, .fl ((((List.range (many1).toNat).foldl (m_law_ways_l0 numbers at_ kinds) ([] : List (Str × Str × Int)))).map (eT3 D.str D.str D.int)))]⟩ _
      refine exs_freezeT 100 (xs := ((List.range (many1).toNat).foldl (m_law_ways_l0 numbers at_ kinds) ([] : List (Str × Str × Int)))) (enc := (eT3 D.str D.str D.int)) (by exact rfl) ?_
      show Exs _ _ _ ⟨[some (.fr ((eL D.int) numbers)), some (.fr (D.int at_)), some (.fr ((eL (eT3 D.str D.int D.int)) kinds)), some (.fr (D.int many1)), some (.fr ((eL (eT3 D.str D.str D.int)) ((List.range (many1).toNat).foldl (m_law_ways_l0 numbers at_ kinds) ([] : List (Str × Str × Int))))), none, none, none, none], []⟩ _
      refine exs_one (ex_ret (ev_var 4 rfl (.inl rfl) rfl) ?_)
      have efin : m_law_ways numbers at_ kinds = ((List.range (many1).toNat).foldl (m_law_ways_l0 numbers at_ kinds) ([] : List (Str × Str × Int))) := by subst zg_many1; subst zg_many; simp only [m_law_ways, not_true_eq_false, not_false_eq_true, ↓reduceIte]
      rw [efin] at zk
      exact zk _
def m_is_table (capacities : List Int) : Bool :=
  if (¬ (((1 : Int) ≤ (capacities.length : Int)) ∧ ((capacities.length : Int) ≤ (1001 : Int)))) then false else ((capacities.map (fun zc2 : Int => (m_is_integer zc2 (0 : Int) (1000000 : Int)))).all fun b => b)
theorem sc_is_table : FnScope ["capacities", "units"] ["capacities"] (defScope s_is_table) := ⟨rfl, rfl, rfl, by decide +kernel, rfl, by decide +kernel, by decide +kernel⟩
def sp_is_table : SpN := fun zcs zL zKc => ∃ capacities : List Int, zcs = [.fr ((eL D.int) capacities)] ∧ zL = [] ∧ (capacities.length ≤ 10000) ∧ ∀ zL', zKc (.fr (D.bl (m_is_table capacities))) zL'
theorem ok_is_table (T : TX P K mg) : FnOk P w K mg base CX0 2 T.a_is_table T.d_is_table ["capacities"] (SpOf K mg sp_is_table) := by
  have O_is_integer := ok_is_integer (P := P) (w := w) (base := base) T
  refine T.F_is_table.okN sc_is_table (fun zcs zL zKc zh => by obtain ⟨capacities, rfl, _⟩ := zh; rfl) fun zcdv zA zout zst zH zE zB zcs zL zKc zhr zh => ?_
  obtain ⟨capacities, rfl, rfl, hpre, zk⟩ := zh
  have nd := sc_is_table.nd
  have hSL := sizeLine_eq
  show Exs _ _ _ ⟨[some (.fr ((eL D.int) capacities)), none], []⟩ _
  refine exs_cons (ex_ifP (bd_not (bd_and bd_d bd_d)) (et_not (et_chain bd_d o_le o_le ev_int (ev_len (ln_L (xs := capacities) (enc := D.int) (by exact rfl)) (ev_var 0 rfl (.inl rfl) rfl) (by exact rfl) T.n_len) (fun zhp => (ev_gi rfl T.c_LONGEST_TABLE)))) (fun (zh1 : (¬ (((1 : Int) ≤ (capacities.length : Int)) ∧ ((capacities.length : Int) ≤ (1001 : Int))))) => ?_) (fun (zh1 : ¬ (¬ (((1 : Int) ≤ (capacities.length : Int)) ∧ ((capacities.length : Int) ≤ (1001 : Int))))) => ?_))
  · skip
    refine exs_one (ex_ret ev_bl ?_)
    have efin : m_is_table capacities = false := by first | (simp only [m_is_table, not_true_eq_false, not_false_eq_true, ↓reduceIte, ↓if_pos zh1]; done) | (first | exact absurd rfl zh1)
    rw [efin] at zk
    exact zk _
  · skip
    refine exs_nil ?_
    show Exs _ _ _ ⟨[some (.fr ((eL D.int) capacities)), none], []⟩ _
    refine exs_one (ex_ret (ev_callB (ds := [(eL D.bl) (capacities.map (fun zc1 : Int => (m_is_integer zc1 (0 : Int) (1000000 : Int))))]) (c_all (bs := (capacities.map (fun zc1 : Int => (m_is_integer zc1 (0 : Int) (1000000 : Int))))) rfl) (ea_cons (ev_lcM (enc2 := D.bl) 199 (fun zc1 : Int => (m_is_integer zc1 (0 : Int) (1000000 : Int))) _ rfl nd (blkOk_by (N := ["capacities", "units"]) (sc := defScope s_is_table) (own := [(("units" : Str), 1)]) (by decide +kernel)) (src_listT (ev_var 0 rfl (.inl rfl) rfl)) (by simp [names]) (by decide) (by walk_at "sd") (fun _ zc1 _ zhyzc1 _ _ _ _ _ => (eg_nameC 1 nd rfl (.inl rfl) (by decide) (.inr rfl))) (fun _ zc1 _ zhyzc1 _ _ _ _ _ => (ev_call (ds := [D.int zc1, D.int (0 : Int), D.int (1000000 : Int)]) (ds' := []) (dvs := []) (dfs := []) O_is_integer (zhr.mono (by decide)) T.m_is_integer T.k_is_integer T.b_is_integer .nil (fun _ => .nil) (ea_cons (ev_var 1 rfl (.inl rfl) rfl) (ea_cons ev_int (ea_cons (ev_gi rfl T.c_MOST_CAPACITY) ea_nil))) (fun _ zkk => ⟨zc1, (0 : Int), (1000000 : Int), rfl, rfl, trivial, zkk⟩) (by exact rfl)))) ea_nil) (by exact rfl) T.n_all (by decide +kernel)) ?_)
    have efin : m_is_table capacities = ((capacities.map (fun zc1 : Int => (m_is_integer zc1 (0 : Int) (1000000 : Int)))).all fun b => b) := by simp only [m_is_table, not_true_eq_false, not_false_eq_true, ↓reduceIte, ↓if_neg zh1]
    rw [efin] at zk
    exact zk _
def m_are_task_names (names_ : List Str) : Bool :=
  ((decide ((names_.length : Int) ≤ (6 : Int))) && (m_are_different names_))
theorem sc_are_task_names : FnScope ["names"] ["names"] (defScope s_are_task_names) := ⟨rfl, rfl, rfl, by decide +kernel, rfl, by decide +kernel, by decide +kernel⟩
def sp_are_task_names : SpN := fun zcs zL zKc => ∃ names_ : List Str, zcs = [.fr ((eL D.str) names_)] ∧ zL = [] ∧ (names_.length ≤ 1000) ∧ ∀ zL', zKc (.fr (D.bl (m_are_task_names names_))) zL'
theorem ok_are_task_names (T : TX P K mg) : FnOk P w K mg base CX0 2 T.a_are_task_names T.d_are_task_names ["names"] (SpOf K mg sp_are_task_names) := by
  have O_are_different := ok_are_different (P := P) (w := w) (base := base) T
  refine T.F_are_task_names.okN sc_are_task_names (fun zcs zL zKc zh => by obtain ⟨names_, rfl, _⟩ := zh; rfl) fun zcdv zA zout zst zH zE zB zcs zL zKc zhr zh => ?_
  obtain ⟨names_, rfl, rfl, hpre, zk⟩ := zh
  have nd := sc_are_task_names.nd
  have hSL := sizeLine_eq
  show Exs _ _ _ ⟨[some (.fr ((eL D.str) names_))], []⟩ _
  refine exs_one (ex_ret (ev_andP bd_d (ev_cmp o_le (ev_len (ln_L (xs := names_) (enc := D.str) (by exact rfl)) (ev_var 0 rfl (.inl rfl) rfl) (by exact rfl) T.n_len) (ev_gi rfl T.c_MOST_TASKS) (nomark _)) (fun zhp => (ev_one (ev_call (ds := [(eL D.str) names_]) (ds' := []) (dvs := []) (dfs := []) O_are_different (zhr.mono (by decide)) T.m_are_different T.k_are_different T.b_are_different .nil (fun _ => .nil) (ea_cons (ev_var 0 rfl (.inl rfl) rfl) ea_nil) (fun _ zkk => ⟨names_, rfl, rfl, (by walk_at "pre"), zkk⟩) (by exact rfl))))) ?_)
  have efin : m_are_task_names names_ = ((decide ((names_.length : Int) ≤ (6 : Int))) && (m_are_different names_)) := by simp only [m_are_task_names, not_true_eq_false, not_false_eq_true, ↓reduceIte]
  rw [efin] at zk
  exact zk _
def m_System_init__ (tasks : List Task) (table : List Int) : System :=
  if (¬ ((m_is_table table) = true)) then default else if (¬ ((m_are_task_names (tasks.map (fun zc2 : Task => zc2.name))) = true)) then default else ({ tasks := tasks, table := table } : System)
set_option hygiene false in
local macro_rules | `(tactic| walk_at "pre") => `(tactic| first | exact hpre.2.1 | (rw [List.length_map]; exact hpre.1) | fail)
theorem sys_eq {tasks : List Task} {table : List Int} (h1 : m_is_table table = true) (h2 : m_are_task_names (tasks.map fun t => t.name) = true) : m_System_init__ tasks table = { tasks := tasks, table := table } := by
  unfold m_System_init__
  rw [if_neg (fun q => q h1), if_neg (fun q => q h2)]
theorem sc_System_init__ : FnScope ["self", "tasks", "table", "task"] ["self", "tasks", "table"] (defScope s_System_init__) := ⟨rfl, rfl, rfl, by decide +kernel, rfl, by decide +kernel, by decide +kernel⟩
def sp_System_init__ : SpN := fun zcs zL zKc => ∃ tasks : List Task, ∃ table : List Int, zcs = [.ad 0, .fr ((eL eTask) tasks), .fr ((eL D.int) table)] ∧ zL = [(0, .ins "System" [])] ∧ (tasks.length ≤ 1000 ∧ table.length ≤ 10000 ∧ m_is_table table = true ∧ m_are_task_names (tasks.map fun t => t.name) = true) ∧ zKc (.fr .non) [(0, .ins "System" ((fSystem (m_System_init__ tasks table)).map fun p => (p.1, Ce.fr p.2)))]
theorem ok_System_init__ (T : TX P K mg) : FnOk P w K mg base CX0 3 T.a_System_init__ T.d_System_init__ ["self", "tasks", "table"] (SpOf K mg sp_System_init__) := by
  have O_are_task_names := ok_are_task_names (P := P) (w := w) (base := base) T
  have O_is_table := ok_is_table (P := P) (w := w) (base := base) T
  refine T.F_System_init__.okN sc_System_init__ (fun zcs zL zKc zh => by obtain ⟨tasks, table, rfl, _⟩ := zh; rfl) fun zcdv zA zout zst zH zE zB zcs zL zKc zhr zh => ?_
  obtain ⟨tasks, table, rfl, rfl, hpre, zk⟩ := zh
  have nd := sc_System_init__.nd
  have hSL := sizeLine_eq
  show Exs _ _ _ ⟨[some (.ad 0), some (.fr ((eL eTask) tasks)), some (.fr ((eL D.int) table)), none], [(0, .ins "System" [])]⟩ _
  refine exs_cons (ex_ifP (bd_not Iff.rfl) (et_not (et_val (ev_call (ds := [(eL D.int) table]) (ds' := []) (dvs := []) (dfs := []) O_is_table (zhr.mono (by decide)) T.m_is_table T.k_is_table T.b_is_table .nil (fun _ => .nil) (ea_cons (ev_var 2 rfl (.inl rfl) rfl) ea_nil) (fun _ zkk => ⟨table, rfl, rfl, (by walk_at "pre"), zkk⟩) (by exact rfl)))) (fun (zh1 : (¬ ((m_is_table table) = true))) => ?_) (fun (zh1 : ¬ (¬ ((m_is_table table) = true))) => ?_))
  · skip
    first | exact absurd hpre.2.2.1 zh1 | exact absurd hpre.2.2.2 zh2
  · skip
    refine exs_nil ?_
    show Exs _ _ _ ⟨[some (.ad 0), some (.fr ((eL eTask) tasks)), some (.fr ((eL D.int) table)), none], [(0, .ins "System" [])]⟩ _
    refine exs_cons (ex_ifP (bd_not Iff.rfl) (et_not (et_val (ev_call (ds := [(eL D.str) (tasks.map (fun zc1 : Task => zc1.name))]) (ds' := []) (dvs := []) (dfs := []) O_are_task_names (zhr.mono (by decide)) T.m_are_task_names T.k_are_task_names T.b_are_task_names .nil (fun _ => .nil) (ea_cons (ev_lcM (enc2 := D.str) 199 (fun zc1 : Task => zc1.name) _ rfl nd (blkOk_by (N := ["self", "tasks", "table", "task"]) (sc := defScope s_System_init__) (own := [(("task" : Str), 3)]) (by decide +kernel)) (src_listT (ev_var 1 rfl (.inl rfl) rfl)) (by simp [names]) (by decide) (by walk_at "sd") (fun _ zc1 _ zhyzc1 _ _ _ _ _ => (eg_nameC 3 nd rfl (.inl rfl) (by decide) (.inr rfl))) (fun _ zc1 _ zhyzc1 _ _ _ _ _ => (ev_fld (c := "Task") (fs := fTask zc1) T.q_Task T.cl_Task T.na_Task_name rfl (ev_var 3 rfl (.inl rfl) rfl)))) ea_nil) (fun _ zkk => ⟨(tasks.map (fun zc1 : Task => zc1.name)), rfl, rfl, (by walk_at "pre"), zkk⟩) (by exact rfl)))) (fun (zh2 : (¬ ((m_are_task_names (tasks.map (fun zc1 : Task => zc1.name))) = true))) => ?_) (fun (zh2 : ¬ (¬ ((m_are_task_names (tasks.map (fun zc1 : Task => zc1.name))) = true))) => ?_))
    · skip
      first | exact absurd hpre.2.2.1 zh1 | exact absurd hpre.2.2.2 zh2
    · skip
      refine exs_nil ?_
      show Exs _ _ _ ⟨[some (.ad 0), some (.fr ((eL eTask) tasks)), some (.fr ((eL D.int) table)), none], [(0, .ins "System" [])]⟩ _
      refine exs_cons (ex_fld (c := "System") (n := 0) (d := (eU eTask) tasks) T.q_System T.cl_System T.na_System_tasks (ev_callTy (ds := [(eL eTask) tasks]) c_tuple (ea_cons (ev_var 1 rfl (.inl rfl) rfl) ea_nil) (by exact rfl) T.n_tuple (by decide +kernel)) (ev_var 0 rfl (.inl rfl) rfl) rfl (by first | decide | (simp only [List.length_cons, List.length_nil]; decide)) ?_)
      show Exs _ _ _ ⟨[some (.ad 0), some (.fr ((eL eTask) tasks)), some (.fr ((eL D.int) table)), none], [(0, .ins "System" [("tasks", (.fr ((eU eTask) tasks)))])]⟩ _
      refine exs_one (ex_fld (c := "System") (n := 0) (d := (eU D.int) table) T.q_System T.cl_System T.na_System_table (ev_callTy (ds := [(eL D.int) table]) c_tuple (ea_cons (ev_var 2 rfl (.inl rfl) rfl) ea_nil) (by exact rfl) T.n_tuple (by decide +kernel)) (ev_var 0 rfl (.inl rfl) rfl) rfl (by first | decide | (simp only [List.length_cons, List.length_nil]; decide)) ?_)
      have efin : m_System_init__ tasks table = ({ tasks := tasks, table := table } : System) := by simp only [m_System_init__, not_true_eq_false, not_false_eq_true, ↓reduceIte, ↓if_neg zh1, ↓if_neg zh2]
      rw [efin] at zk
      exact zk
def m_Task_ways_from (self : Task) (kind_name : Str) : List (Str × Int) :=
  let source1 : Str := (m_Task_kind self kind_name).1
  ((self.ways.filter (fun zc2 : Str × Str × Int => (decide (zc2.1 = source1)))).map (fun zc2 : Str × Str × Int => (zc2.2.1, zc2.2.2)))
theorem sc_Task_ways_from : FnScope ["self", "kind_name", "source", "way"] ["self", "kind_name"] (defScope s_Task_ways_from) := ⟨rfl, rfl, rfl, by decide +kernel, rfl, by decide +kernel, by decide +kernel⟩
def sp_Task_ways_from : SpN := fun zcs zL zKc => ∃ self : Task, ∃ kind_name : Str, zcs = [.fr (eTask self), .fr (D.str kind_name)] ∧ zL = [] ∧ (self.ok ∧ kind_name ∈ self.kinds.map (·.1)) ∧ ∀ zL', zKc (.fr ((eL (eT2 D.str D.int)) (m_Task_ways_from self kind_name))) zL'
theorem ok_Task_ways_from (T : TX P K mg) : FnOk P w K mg base CX0 3 T.a_Task_ways_from T.d_Task_ways_from ["self", "kind_name"] (SpOf K mg sp_Task_ways_from) := by
  have O_Task_kind := ok_Task_kind (P := P) (w := w) (base := base) T
  refine T.F_Task_ways_from.okN sc_Task_ways_from (fun zcs zL zKc zh => by obtain ⟨self, kind_name, rfl, _⟩ := zh; rfl) fun zcdv zA zout zst zH zE zB zcs zL zKc zhr zh => ?_
  obtain ⟨self, kind_name, rfl, rfl, hpre, zk⟩ := zh
  have nd := sc_Task_ways_from.nd
  have hSL := sizeLine_eq
  have hk1 := hpre.1.k1
  have hw1 := hpre.1.w1
  show Exs _ _ _ ⟨[some (.fr (eTask self)), some (.fr (D.str kind_name)), none, none], []⟩ _
  refine exs_cons (ex_set 2 (ev_ix (.t (d := D.str ((m_Task_kind self kind_name).1)) rfl) (ev_meth (c := "Task") (fs := fTask self) (ds := [D.str kind_name]) T.q_Task T.cl_Task T.me_Task_kind rfl O_Task_kind (zhr.mono (by decide)) T.b_Task_kind (ev_var 0 rfl (.inl rfl) rfl) (ea_cons (ev_var 1 rfl (.inl rfl) rfl) ea_nil) (fun _ zkk => ⟨self, kind_name, rfl, rfl, (by walk_at "pre"), zkk⟩)) ev_int) ?_ nd rfl (.inr rfl))
  show Exs _ _ _ ⟨[some (.fr (eTask self)), some (.fr (D.str kind_name)), some (.fr (D.str ((m_Task_kind self kind_name).1))), none], []⟩ _
  generalize zg_source : (m_Task_kind self kind_name).1 = source
  show Exs _ _ _ ⟨[some (.fr (eTask self)), some (.fr (D.str kind_name)), some (.fr (D.str source)), none], []⟩ _
  refine exs_one (ex_ret (ev_lcF (enc2 := (eT2 D.str D.int)) 199 (fun zc1 : Str × Str × Int => (zc1.2.1, zc1.2.2)) (fun zc1 : Str × Str × Int => (decide (zc1.1 = source))) _ rfl nd (blkOk_by (N := ["self", "kind_name", "source", "way"]) (sc := defScope s_Task_ways_from) (own := [(("way" : Str), 3)]) (by decide +kernel)) (src_tupT (ev_fld (c := "Task") (fs := fTask self) T.q_Task T.cl_Task T.na_Task_ways rfl (ev_var 0 rfl (.inl rfl) rfl))) (by simp [names]) (by decide) (by walk_at "sd") (fun _ zc1 _ zhyzc1 _ _ _ _ _ => (eg_nameC 3 nd rfl (.inl rfl) (by decide) (.inr rfl))) (fun _ zc1 _ zhyzc1 _ _ _ _ _ => (et_cmp o_eqs (ev_ix (.t (d := D.str zc1.1) rfl) (ev_var 3 rfl (.inl rfl) rfl) ev_int) (ev_var 2 rfl (.inr (.inl rfl)) rfl) (nomark _))) (fun _ zc1 _ zhyzc1 zhpzc1 _ _ _ _ _ => (ev_tup (ds := [D.str zc1.2.1, D.int zc1.2.2]) (ea_cons (ev_ix (.t (d := D.str zc1.2.1) rfl) (ev_var 3 rfl (.inl rfl) rfl) ev_int) (ea_cons (ev_ix (.t (d := D.int zc1.2.2) rfl) (ev_var 3 rfl (.inl rfl) rfl) ev_int) ea_nil)) (by simp only [List.length_cons, List.length_nil]; decide)))) ?_)
  have efin : m_Task_ways_from self kind_name = ((self.ways.filter (fun zc1 : Str × Str × Int => (decide (zc1.1 = source)))).map (fun zc1 : Str × Str × Int => (zc1.2.1, zc1.2.2))) := by subst zg_source; simp only [m_Task_ways_from, not_true_eq_false, not_false_eq_true, ↓reduceIte]
  rw [efin] at zk
  exact zk _
def m_follows (task : Task) (first : Int × Str) (second : Int × Str) : Bool :=
  let ways1 : List (Str × Int) := (m_Task_ways_from task first.2)
  let target1 : Int := (m_Task_kind_number task second.2)
  ((ways1.map (fun zc2 : Str × Int => ((decide ((m_Task_kind_number task zc2.1) = target1)) && (decide (zc2.2 ≤ (second.1 - first.1)))))).any fun b => b)
set_option hygiene false in
local macro_rules | `(tactic| walk_at "pre") => `(tactic| first | exact ⟨hpre.1, hpre.2.1⟩ | exact ⟨hpre.1, hpre.2.2⟩ | exact ⟨hpre.1, hwf _ (List.mem_of_getElem? (by assumption))⟩ | fail)
theorem ways_from_facts {t : Task} (h : t.ok) (kn : Str) : (m_Task_ways_from t kn).length ≤ 16 ∧ ∀ w ∈ m_Task_ways_from t kn, w.1 ∈ t.kinds.map (·.1) := by
  have h1 := h.w1
  unfold m_Task_ways_from
  refine ⟨?_, fun w hw => ?_⟩
  · rw [List.length_map]; have := List.length_filter_le (fun zc2 : Str × Str × Int => decide (zc2.1 = (m_Task_kind t kn).1)) t.ways; omega
  · obtain ⟨x, hx, rfl⟩ := List.mem_map.mp hw
    exact (h.wn x (List.mem_filter.mp hx).1).2
theorem sc_follows : FnScope ["task", "first", "second", "ways", "target", "gap", "name", "distance"] ["task", "first", "second"] (defScope s_follows) := ⟨rfl, rfl, rfl, by decide +kernel, rfl, by decide +kernel, by decide +kernel⟩
def sp_follows : SpN := fun zcs zL zKc => ∃ task : Task, ∃ first : Int × Str, ∃ second : Int × Str, zcs = [.fr (eTask task), .fr ((eT2 D.int D.str) first), .fr ((eT2 D.int D.str) second)] ∧ zL = [] ∧ (task.ok ∧ first.2 ∈ task.kinds.map (·.1) ∧ second.2 ∈ task.kinds.map (·.1)) ∧ ∀ zL', zKc (.fr (D.bl (m_follows task first second))) zL'
theorem ok_follows (T : TX P K mg) : FnOk P w K mg base CX0 4 T.a_follows T.d_follows ["task", "first", "second"] (SpOf K mg sp_follows) := by
  have O_Task_kind_number := ok_Task_kind_number (P := P) (w := w) (base := base) T
  have O_Task_ways_from := ok_Task_ways_from (P := P) (w := w) (base := base) T
  refine T.F_follows.okN sc_follows (fun zcs zL zKc zh => by obtain ⟨task, first, second, rfl, _⟩ := zh; rfl) fun zcdv zA zout zst zH zE zB zcs zL zKc zhr zh => ?_
  obtain ⟨task, first, second, rfl, rfl, hpre, zk⟩ := zh
  have nd := sc_follows.nd
  have hSL := sizeLine_eq
  show Exs _ _ _ ⟨[some (.fr (eTask task)), some (.fr ((eT2 D.int D.str) first)), some (.fr ((eT2 D.int D.str) second)), none, none, none, none, none], []⟩ _
  refine exs_cons (ex_set 3 (ev_meth (c := "Task") (fs := fTask task) (ds := [D.str first.2]) T.q_Task T.cl_Task T.me_Task_ways_from rfl O_Task_ways_from (zhr.mono (by decide)) T.b_Task_ways_from (ev_var 0 rfl (.inr (.inl rfl)) rfl) (ea_cons (ev_ix (.t (d := D.str first.2) rfl) (ev_var 1 rfl (.inl rfl) rfl) ev_int) ea_nil) (fun _ zkk => ⟨task, first.2, rfl, rfl, (by walk_at "pre"), zkk⟩)) ?_ nd rfl (.inl rfl))
  show Exs _ _ _ ⟨[some (.fr (eTask task)), some (.fr ((eT2 D.int D.str) first)), some (.fr ((eT2 D.int D.str) second)), some (.fr ((eL (eT2 D.str D.int)) (m_Task_ways_from task first.2))), none, none, none, none], []⟩ _
  generalize zg_ways : (m_Task_ways_from task first.2) = ways
  show Exs _ _ _ ⟨[some (.fr (eTask task)), some (.fr ((eT2 D.int D.str) first)), some (.fr ((eT2 D.int D.str) second)), some (.fr ((eL (eT2 D.str D.int)) ways)), none, none, none, none], []⟩ _
  have hwf := ways_from_facts hpre.1 first.2
  rw [zg_ways] at hwf
  obtain ⟨hwl, hwf⟩ := hwf
  refine exs_cons (ex_set 4 (ev_meth (c := "Task") (fs := fTask task) (ds := [D.str second.2]) T.q_Task T.cl_Task T.me_Task_kind_number rfl O_Task_kind_number (zhr.mono (by decide)) T.b_Task_kind_number (ev_var 0 rfl (.inr (.inl rfl)) rfl) (ea_cons (ev_ix (.t (d := D.str second.2) rfl) (ev_var 2 rfl (.inl rfl) rfl) ev_int) ea_nil) (fun _ zkk => ⟨task, second.2, rfl, rfl, (by walk_at "pre"), zkk⟩)) ?_ nd rfl (.inr rfl))
  show Exs _ _ _ ⟨[some (.fr (eTask task)), some (.fr ((eT2 D.int D.str) first)), some (.fr ((eT2 D.int D.str) second)), some (.fr ((eL (eT2 D.str D.int)) ways)), some (.fr (D.int (m_Task_kind_number task second.2))), none, none, none], []⟩ _
  generalize zg_target : (m_Task_kind_number task second.2) = target
  show Exs _ _ _ ⟨[some (.fr (eTask task)), some (.fr ((eT2 D.int D.str) first)), some (.fr ((eT2 D.int D.str) second)), some (.fr ((eL (eT2 D.str D.int)) ways)), some (.fr (D.int target)), none, none, none], []⟩ _
  refine exs_cons (ex_set 5 (ev_bin o_sub (ev_ix (.t (d := D.int second.1) rfl) (ev_var 2 rfl (.inl rfl) rfl) ev_int) (ev_ix (.t (d := D.int first.1) rfl) (ev_var 1 rfl (.inl rfl) rfl) ev_int)) ?_ nd rfl (.inr rfl))
  show Exs _ _ _ ⟨[some (.fr (eTask task)), some (.fr ((eT2 D.int D.str) first)), some (.fr ((eT2 D.int D.str) second)), some (.fr ((eL (eT2 D.str D.int)) ways)), some (.fr (D.int target)), some (.fr (D.int (second.1 - first.1))), none, none], []⟩ _
  refine exs_one (ex_ret (ev_callB (ds := [(eL D.bl) (ways.map (fun zc1 : Str × Int => ((decide ((m_Task_kind_number task zc1.1) = target)) && (decide (zc1.2 ≤ (second.1 - first.1))))))]) (c_any (bs := (ways.map (fun zc1 : Str × Int => ((decide ((m_Task_kind_number task zc1.1) = target)) && (decide (zc1.2 ≤ (second.1 - first.1))))))) rfl) (ea_cons (ev_lcM (enc2 := D.bl) 199 (fun zc1 : Str × Int => ((decide ((m_Task_kind_number task zc1.1) = target)) && (decide (zc1.2 ≤ (second.1 - first.1))))) _ rfl nd (blkOk_by (N := ["task", "first", "second", "ways", "target", "gap", "name", "distance"]) (sc := defScope s_follows) (own := [(("name" : Str), 6), (("distance" : Str), 7)]) (by decide +kernel)) (src_listT (ev_var 3 rfl (.inl rfl) rfl)) (by simp [names]) (by decide) (by walk_at "sd") (fun _ zc1 _ zhyzc1 _ _ _ _ _ => (eg_tupC rfl (egs_consC (eg_nameC 6 nd rfl (.inl rfl) (by decide) (.inr rfl)) (egs_consC (eg_nameC 7 nd rfl (.inl rfl) (by decide) (.inr rfl)) egs_nilC)))) (fun _ zc1 _ zhyzc1 _ _ _ _ _ => (ev_andP bd_d (ev_cmp o_eqi (ev_meth (c := "Task") (fs := fTask task) (ds := [D.str zc1.1]) T.q_Task T.cl_Task T.me_Task_kind_number rfl O_Task_kind_number (zhr.mono (by decide)) T.b_Task_kind_number (ev_var 0 rfl (.inr (.inl rfl)) rfl) (ea_cons (ev_var 6 rfl (.inl rfl) rfl) ea_nil) (fun _ zkk => ⟨task, zc1.1, rfl, rfl, (by walk_at "pre"), zkk⟩)) (ev_var 4 rfl (.inr (.inl rfl)) rfl) (nomark _)) (fun zhp => (ev_one (ev_cmp o_le (ev_var 7 rfl (.inl rfl) rfl) (ev_var 5 rfl (.inr (.inl rfl)) rfl) (nomark _))))))) ea_nil) (by exact rfl) T.n_any (by decide +kernel)) ?_)
  have efin : m_follows task first second = ((ways.map (fun zc1 : Str × Int => ((decide ((m_Task_kind_number task zc1.1) = target)) && (decide (zc1.2 ≤ (second.1 - first.1)))))).any fun b => b) := by subst zg_target; subst zg_ways; simp only [m_follows, not_true_eq_false, not_false_eq_true, ↓reduceIte]
  rw [efin] at zk
  exact zk _
def m_is_legal_at (task : Task) (releases : List (Int × Str)) (number : Int) : Bool :=
  let release1 : Int × Str := (releases.getD (number).toNat default)
  if (¬ (release1.2 ∈ (task.kinds.map (fun zc2 : Str × Int × Int => zc2.1)))) then false else ((decide (number = (0 : Int))) || (m_follows task (releases.getD ((number - (1 : Int))).toNat default) release1))
set_option hygiene false in
local macro_rules | `(tactic| walk_at "pre") => `(tactic| first | exact ⟨hpre.1, hpre.2.2.2.2.resolve_left (by assumption), Classical.not_not.mp (by assumption)⟩ | exact ⟨hpre.1, hpre.2.2.2.2.resolve_left (by assumption), by assumption⟩ | fail)
theorem sc_is_legal_at : FnScope ["task", "releases", "number", "release", "kind"] ["task", "releases", "number"] (defScope s_is_legal_at) := ⟨rfl, rfl, rfl, by decide +kernel, rfl, by decide +kernel, by decide +kernel⟩
def sp_is_legal_at : SpN := fun zcs zL zKc => ∃ task : Task, ∃ releases : List (Int × Str), ∃ number : Int, zcs = [.fr (eTask task), .fr ((eL (eT2 D.int D.str)) releases), .fr (D.int number)] ∧ zL = [] ∧ (task.ok ∧ 0 ≤ number ∧ number < releases.length ∧ releases.length ≤ 1000 ∧ (number = 0 ∨ (releases.getD (number - 1).toNat default).2 ∈ task.kinds.map (·.1))) ∧ ∀ zL', zKc (.fr (D.bl (m_is_legal_at task releases number))) zL'
theorem ok_is_legal_at (T : TX P K mg) : FnOk P w K mg base CX0 5 T.a_is_legal_at T.d_is_legal_at ["task", "releases", "number"] (SpOf K mg sp_is_legal_at) := by
  have O_follows := ok_follows (P := P) (w := w) (base := base) T
  refine T.F_is_legal_at.okN sc_is_legal_at (fun zcs zL zKc zh => by obtain ⟨task, releases, number, rfl, _⟩ := zh; rfl) fun zcdv zA zout zst zH zE zB zcs zL zKc zhr zh => ?_
  obtain ⟨task, releases, number, rfl, rfl, hpre, zk⟩ := zh
  have nd := sc_is_legal_at.nd
  have hSL := sizeLine_eq
  have hk8 := hpre.1.k1.2
  show Exs _ _ _ ⟨[some (.fr (eTask task)), some (.fr ((eL (eT2 D.int D.str)) releases)), some (.fr (D.int number)), none, none], []⟩ _
  refine exs_cons (ex_set 3 (ev_ix (ix_L (xs := releases) (enc := (eT2 D.int D.str)) (by exact rfl) (by walk_at "sd") (by walk_at "sd")) (ev_var 1 rfl (.inl rfl) rfl) (ev_var 2 rfl (.inl rfl) rfl)) ?_ nd rfl (.inl rfl))
  show Exs _ _ _ ⟨[some (.fr (eTask task)), some (.fr ((eL (eT2 D.int D.str)) releases)), some (.fr (D.int number)), some (.fr ((eT2 D.int D.str) (releases.getD (number).toNat default))), none], []⟩ _
  generalize zg_release : (releases.getD (number).toNat default) = release
  show Exs _ _ _ ⟨[some (.fr (eTask task)), some (.fr ((eL (eT2 D.int D.str)) releases)), some (.fr (D.int number)), some (.fr ((eT2 D.int D.str) release)), none], []⟩ _
  refine exs_cons (ex_ifP bd_n (et_cmp (o_ninL (e := D.str) (x := release.2) (ys := (task.kinds.map (fun zc1 : Str × Int × Int => zc1.1))) zhr.units ee_str) (ev_ix (.t (d := D.str release.2) rfl) (ev_var 3 rfl (.inl rfl) rfl) ev_int) (ev_lcM (enc2 := D.str) 199 (fun zc1 : Str × Int × Int => zc1.1) _ rfl nd (blkOk_by (N := ["task", "releases", "number", "release", "kind"]) (sc := defScope s_is_legal_at) (own := [(("kind" : Str), 4)]) (by decide +kernel)) (src_tupT (ev_fld (c := "Task") (fs := fTask task) T.q_Task T.cl_Task T.na_Task_kinds rfl (ev_var 0 rfl (.inl rfl) rfl))) (by simp [names]) (by decide) (by walk_at "sd") (fun _ zc1 _ zhyzc1 _ _ _ _ _ => (eg_nameC 4 nd rfl (.inl rfl) (by decide) (.inr rfl))) (fun _ zc1 _ zhyzc1 _ _ _ _ _ => (ev_ix (.t (d := D.str zc1.1) rfl) (ev_var 4 rfl (.inl rfl) rfl) ev_int))) (by rfl)) (fun (zh1 : (¬ (release.2 ∈ (task.kinds.map (fun zc1 : Str × Int × Int => zc1.1))))) => ?_) (fun (zh1 : ¬ (¬ (release.2 ∈ (task.kinds.map (fun zc1 : Str × Int × Int => zc1.1))))) => ?_))
  · skip
    refine exs_one (ex_ret ev_bl ?_)
    have efin : m_is_legal_at task releases number = false := by first | (subst zg_release; simp only [m_is_legal_at, not_true_eq_false, not_false_eq_true, ↓reduceIte, ↓if_pos zh1]; done) | (subst zg_release; first | exact absurd rfl zh1)
    rw [efin] at zk
    exact zk _
  · skip
    refine exs_nil ?_
    show Exs _ _ _ ⟨[some (.fr (eTask task)), some (.fr ((eL (eT2 D.int D.str)) releases)), some (.fr (D.int number)), some (.fr ((eT2 D.int D.str) release)), none], []⟩ _
    refine exs_one (ex_ret (ev_orP bd_d (ev_cmp o_eqi (ev_var 2 rfl (.inl rfl) rfl) ev_int (nomark _)) (fun zhp => (ev_one (ev_call (ds := [eTask task, (eT2 D.int D.str) (releases.getD ((number - (1 : Int))).toNat default), (eT2 D.int D.str) release]) (ds' := []) (dvs := []) (dfs := []) O_follows (zhr.mono (by decide)) T.m_follows T.k_follows T.b_follows .nil (fun _ => .nil) (ea_cons (ev_var 0 rfl (.inl rfl) rfl) (ea_cons (ev_ix (ix_L (xs := releases) (enc := (eT2 D.int D.str)) (by exact rfl) (by walk_at "sd") (by walk_at "sd")) (ev_var 1 rfl (.inl rfl) rfl) (ev_bin o_sub (ev_var 2 rfl (.inl rfl) rfl) ev_int)) (ea_cons (ev_var 3 rfl (.inl rfl) rfl) ea_nil))) (fun _ zkk => ⟨task, (releases.getD ((number - (1 : Int))).toNat default), release, rfl, rfl, (by walk_at "pre"), zkk⟩) (by exact rfl))))) ?_)
    have efin : m_is_legal_at task releases number = ((decide (number = (0 : Int))) || (m_follows task (releases.getD ((number - (1 : Int))).toNat default) release)) := by subst zg_release; simp only [m_is_legal_at, not_true_eq_false, not_false_eq_true, ↓reduceIte, ↓if_neg zh1]
    rw [efin] at zk
    exact zk _
def m_check_releasesx_l1 (task_number : Int) (task : Task) (row : List (Int × Str)) (zs1 : Unit) (zy1 : Nat) : Except (Option Exn) (Unit) :=
  if (¬ ((m_is_legal_at task row ((0 : Int) + (zy1 : Int))) = true)) then .error (some ⟨"InvalidReleases", [("release_number", D.int ((0 : Int) + (zy1 : Int))), ("task_number", D.int task_number)]⟩) else .ok ()
def m_check_releasesx_l0 (zs0 : Unit) (zy0 : Int × (Task × (List (Int × Str)))) : Except (Option Exn) (Unit) :=
  match (runE (m_check_releasesx_l1 zy0.1 zy0.2.1 zy0.2.2) (List.range ((zy0.2.2.length : Int)).toNat) ()) with | .error r => .error r | .ok zs1 => .ok ()
def m_check_releasesx (system : System) (releases : List (List (Int × Str))) : Option Exn :=
  match (runE (m_check_releasesx_l0) (enL 0 (system.tasks.zip releases)) ()) with | .error r => r | .ok zs0 => none
theorem enzip_mem {τ υ : Type} {xs : List τ} {ys : List υ} {y : Int × τ × υ} {i : Nat} (h : (enL 0 (xs.zip ys))[i]? = some y) : y.2.1 ∈ xs ∧ y.2.2 ∈ ys := by
  have : ∀ {k i : Nat} {zs : List (τ × υ)}, (enL k zs)[i]? = some y → y.2 ∈ zs := by
    intro k i zs
    induction zs generalizing k i with
    | nil => intro h; simp [enL] at h
    | cons z zs ih =>
      intro h
      cases i with
      | zero => simp [enL] at h; rw [← h]; exact List.mem_cons_self
      | succ i => exact List.mem_cons_of_mem _ (ih (by simpa [enL] using h))
  have hm := this h
  exact ⟨(List.of_mem_zip hm).1, (List.of_mem_zip hm).2⟩
theorem runE_okall {τ ρ : Type} {f : Unit → τ → Except ρ Unit} : ∀ {ys : List τ} {u : Unit}, runE f ys () = .ok u → ∀ y ∈ ys, f () y = .ok ()
  | [], _, _, y, hy => by cases hy
  | x :: ys, u, h, y, hy => by
    rw [runE_cons] at h
    cases e : f () x with
    | error r => rw [e] at h; cases h
    | ok v =>
      rw [e] at h
      rcases List.mem_cons.mp hy with rfl | hy
      · exact e
      · exact runE_okall h y hy
theorem enL_at2 {τ : Type} : ∀ {xs : List τ} {k i : Nat} {y : Int × τ}, (enL k xs)[i]? = some y → y.1 = ((k + i : Nat) : Int) ∧ i < xs.length
  | [], _, _, _, h => by simp [enL] at h
  | x :: xs, k, 0, y, h => by simp [enL] at h; subst h; exact ⟨rfl, by simp⟩
  | x :: xs, k, i + 1, y, h => by
    obtain ⟨h1, h2⟩ := enL_at2 (xs := xs) (k := k + 1) (i := i) (y := y) (by simpa [enL] using h)
    exact ⟨by rw [h1]; congr 1; omega, by simpa using h2⟩
theorem legal_name {t : Task} {row : List (Int × Str)} {k : Int} (h : m_is_legal_at t row k = true) : (row.getD k.toNat default).2 ∈ t.kinds.map (·.1) := by
  unfold m_is_legal_at at h
  dsimp only at h
  split at h
  · cases h
  · rename_i q; exact Classical.not_not.mp q
theorem l1_ok {tn : Int} {t : Task} {row : List (Int × Str)} {y : Nat} (h : m_check_releasesx_l1 tn t row () y = .ok ()) : m_is_legal_at t row ((0 : Int) + (y : Int)) = true := by
  unfold m_check_releasesx_l1 at h
  split at h
  · cases h
  · rename_i q; exact Classical.not_not.mp q
theorem prev_ok {tn : Int} {t : Task} {row : List (Int × Str)} {i n : Nat} (h : runE (m_check_releasesx_l1 tn t row) ((List.range n).take i) () = .ok ()) (hi : i < n) : ((0 : Int) + (i : Int)) = 0 ∨ (row.getD ((0 : Int) + (i : Int) - 1).toNat default).2 ∈ t.kinds.map (·.1) := by
  cases i with
  | zero => exact .inl rfl
  | succ j =>
    right
    have hm : j ∈ (List.range n).take (j + 1) := by
      rw [List.take_range, List.mem_range]; omega
    have h1 := legal_name (l1_ok (runE_okall h j hm))
    rw [show ((0 : Int) + ((j + 1 : Nat) : Int) - 1).toNat = ((0 : Int) + (j : Int)).toNat by omega]
    exact h1
set_option hygiene false in
local macro_rules | `(tactic| walk_at "pre") => `(tactic| first | exact ⟨hpre.1 _ hze.1, by omega, by omega, by omega, hprev⟩ | fail)
theorem sc_check_releasesx : FnScope ["system", "releases", "task_number", "task", "row", "number"] ["system", "releases"] (defScope s_check_releasesx) := ⟨rfl, rfl, rfl, by decide +kernel, rfl, by decide +kernel, by decide +kernel⟩
def sp_check_releasesx : SpX := fun zcs zL zKe => ∃ system : System, ∃ releases : List (List (Int × Str)), zcs = [.fr (eSystem system), .fr ((eL (eL (eT2 D.int D.str))) releases)] ∧ zL = [] ∧ ((∀ t ∈ system.tasks, t.ok) ∧ system.tasks.length ≤ 6 ∧ releases.length ≤ 6 ∧ ∀ r ∈ releases, r.length ≤ 20) ∧ ∃ zx, (m_check_releasesx system releases) = some zx ∧ zKe zx
theorem xc_check_releasesx {system : System} {releases : List (List (Int × Str))} {zx : Exn} (h : m_check_releasesx system releases = some zx) : (zx.c = "InvalidReleases" ∧ zx.fs = ([("release_number", D.int (exI zx "release_number")), ("task_number", D.int (exI zx "task_number"))] : List (Str × D))) := by
  unfold m_check_releasesx at h
  have k1 : ∀ (tn : Int) (t : Task) (row : List (Int × Str)) (n : Nat) (r : Option Exn), runE (m_check_releasesx_l1 tn t row) (List.range n) () = .error r → ∃ a b : Int, r = some ⟨"InvalidReleases", [("release_number", D.int a), ("task_number", D.int b)]⟩ := fun tn t row n r hr => by
    have h2 := (runE_inv (step := m_check_releasesx_l1 tn t row) (P := fun _ => True) (R := fun r => ∃ a b : Int, r = some ⟨"InvalidReleases", [("release_number", D.int a), ("task_number", D.int b)]⟩) (ys := List.range n) (s := ()) (fun s y hy _ => ⟨fun _ _ => trivial, fun r e => by
      unfold m_check_releasesx_l1 at e
      split at e
      · cases e; exact ⟨_, _, rfl⟩
      · cases e⟩) trivial).2
    exact h2 r hr
  have k0 := (runE_inv (step := m_check_releasesx_l0) (P := fun _ => True) (R := fun r => ∃ a b : Int, r = some ⟨"InvalidReleases", [("release_number", D.int a), ("task_number", D.int b)]⟩) (ys := enL 0 (system.tasks.zip releases)) (s := ()) (fun s y hy _ => ⟨fun _ _ => trivial, fun r e => by
    unfold m_check_releasesx_l0 at e
    split at e
    · rename_i r' hr'; cases e; exact k1 _ _ _ _ _ hr'
    · cases e⟩) trivial).2
  split at h
  · rename_i r' hr'
    obtain ⟨a, b, e⟩ := k0 _ hr'
    rw [e] at h; cases h
    exact ⟨rfl, rfl⟩
  · cases h
theorem ok_check_releasesx (T : TX P K mg) : FnOk P w K mg base (L2.CX P w) 6 T.a_check_releasesx T.d_check_releasesx ["system", "releases"] (SpOfX K mg sp_check_releasesx) := by
  have O_is_legal_at := ok_is_legal_at (P := P) (w := w) (base := base) T
  refine T.F_check_releasesx.okNX sc_check_releasesx (fun zcs zL zKe zh => by obtain ⟨system, releases, rfl, _⟩ := zh; rfl) fun zcdv zA zout zst zH zE zB zcs zL zKe zhr zh hTk zhp => ?_
  obtain ⟨system, releases, rfl, rfl, hpre, zx, hzx, zk⟩ := zh
  have nd := sc_check_releasesx.nd
  have hSL := sizeLine_eq
  show Exs _ _ _ ⟨[some (.fr (eSystem system)), some (.fr ((eL (eL (eT2 D.int D.str))) releases)), none, none, none, none], []⟩ _
  refine exs_one (ex_forE (enc := (eT2 D.int (eT2 eTask (eL (eT2 D.int D.str))))) (fun (zs0 : Unit) => (⟨[some (.fr (eSystem system)), some (.fr ((eL (eL (eT2 D.int D.str))) releases)), none, none, none, none], []⟩ : Nz.S)) (m_check_releasesx_l0) () (fun (zi0 : Nat) (zs0 : Unit) => True) (fun _ _ _ => False) (src_enumZip true false (enc := eTask) (encB := (eL (eT2 D.int D.str))) (xs := system.tasks) (ys := releases) (ea_cons (ev_fld (c := "System") (fs := fSystem system) T.q_System T.cl_System T.na_System_tasks rfl (ev_var 0 rfl (.inl rfl) rfl)) (ea_cons (ev_var 1 rfl (.inl rfl) rfl) ea_nil)) (by exact rfl) T.n_enumerate (by exact rfl) T.n_zip) ⟨⟨.inr rfl, .inr rfl, .inl rfl, .inl rfl, .inl rfl, .inl rfl, trivial⟩, rfl⟩ trivial ?_ ?_ ?_ zhp rfl)
  · intro zi0 zy0 zs0 zhy0 zrun0 zq0
    skip
    have hze := enzip_mem zhy0
    have hz1 := enL_at2 zhy0
    rw [List.length_zip] at hz1
    have hrl := hpre.2.2.2 _ hze.2
    refine ⟨⟨[some (.fr (eSystem system)), some (.fr ((eL (eL (eT2 D.int D.str))) releases)), some (.fr (D.int zy0.1)), some (.fr (eTask zy0.2.1)), some (.fr ((eL (eT2 D.int D.str)) zy0.2.2)), none], []⟩, (eg_tup rfl (egs_cons (eg_name 2 nd rfl (.inl rfl)) (egs_cons (eg_tup rfl (egs_cons (eg_name 3 nd rfl (.inl rfl)) (egs_cons (eg_name 4 nd rfl (.inl rfl)) egs_nil))) egs_nil))), ?_⟩
    refine exs_one (ex_forE (enc := (fun i : Nat => D.int ((0 : Int) + (i : Int)))) (fun (zs1 : Unit) => (⟨[some (.fr (eSystem system)), some (.fr ((eL (eL (eT2 D.int D.str))) releases)), some (.fr (D.int zy0.1)), some (.fr (eTask zy0.2.1)), some (.fr ((eL (eT2 D.int D.str)) zy0.2.2)), none], []⟩ : Nz.S)) (m_check_releasesx_l1 zy0.1 zy0.2.1 zy0.2.2) () (fun (zi1 : Nat) (zs1 : Unit) => True) (fun _ _ _ => False) (src_range1 (ea_cons (ev_len (ln_L (xs := zy0.2.2) (enc := (eT2 D.int D.str)) (by exact rfl)) (ev_var 4 rfl (.inl rfl) rfl) (by exact rfl) T.n_len) ea_nil) (by exact rfl) T.n_range (by walk_at "sd") (by walk_at "sd")) ⟨⟨.inr rfl, .inr rfl, .inr rfl, .inr rfl, .inr rfl, .inl rfl, trivial⟩, rfl⟩ trivial ?_ ?_ ?_ zhp rfl)
    · intro zi1 zy1 zs1 zhy1 zrun1 zq1
      skip
      have hy1 := seq_range zhy1
      have hi1 := (List.getElem?_eq_some_iff.mp zhy1).1
      simp only [List.length_range] at hi1
      have hprev := prev_ok zrun1 hi1
      rw [← hy1.2] at hprev
      refine ⟨⟨[some (.fr (eSystem system)), some (.fr ((eL (eL (eT2 D.int D.str))) releases)), some (.fr (D.int zy0.1)), some (.fr (eTask zy0.2.1)), some (.fr ((eL (eT2 D.int D.str)) zy0.2.2)), some (.fr (D.int ((0 : Int) + (zy1 : Int))))], []⟩, (eg_name 5 nd rfl (.inl rfl)), ?_⟩
      refine exs_one (ex_ifP (bd_not Iff.rfl) (et_not (et_val (ev_call (ds := [eTask zy0.2.1, (eL (eT2 D.int D.str)) zy0.2.2, D.int ((0 : Int) + (zy1 : Int))]) (ds' := []) (dvs := []) (dfs := []) O_is_legal_at (zhr.mono (by decide)) T.m_is_legal_at T.k_is_legal_at T.b_is_legal_at .nil (fun _ => .nil) (ea_cons (ev_var 3 rfl (.inl rfl) rfl) (ea_cons (ev_var 4 rfl (.inl rfl) rfl) (ea_cons (ev_var 5 rfl (.inl rfl) rfl) ea_nil))) (fun _ zkk => ⟨zy0.2.1, zy0.2.2, ((0 : Int) + (zy1 : Int)), rfl, rfl, (by walk_at "pre"), zkk⟩) (by exact rfl)))) (fun (zh1 : (¬ ((m_is_legal_at zy0.2.1 zy0.2.2 ((0 : Int) + (zy1 : Int))) = true))) => ?_) (fun (zh1 : ¬ (¬ ((m_is_legal_at zy0.2.1 zy0.2.2 ((0 : Int) + (zy1 : Int))) = true))) => ?_))
      · skip
        have est1 : (m_check_releasesx_l1 zy0.1 zy0.2.1 zy0.2.2) zs1 zy1 = .error (some ⟨"InvalidReleases", [("release_number", D.int ((0 : Int) + (zy1 : Int))), ("task_number", D.int zy0.1)]⟩) := by simp only [m_check_releasesx_l1, not_true_eq_false, not_false_eq_true, ↓reduceIte, ↓if_pos zh1]
        have erun1 := runE_err zhy1 zrun1 est1
        have est0 : (m_check_releasesx_l0) zs0 zy0 = .error (some ⟨"InvalidReleases", [("release_number", D.int ((0 : Int) + (zy1 : Int))), ("task_number", D.int zy0.1)]⟩) := by simp only [m_check_releasesx_l0, not_true_eq_false, not_false_eq_true, ↓reduceIte, erun1]
        have erun0 := runE_err zhy0 zrun0 est0
        have efin : m_check_releasesx system releases = some ⟨"InvalidReleases", [("release_number", D.int ((0 : Int) + (zy1 : Int))), ("task_number", D.int zy0.1)]⟩ := by simp only [m_check_releasesx, not_true_eq_false, not_false_eq_true, ↓reduceIte, erun0]
        obtain rfl := Option.some.inj (hzx.symm.trans efin)
        exact exs_head (ex_raiseF (ds := [D.int zy0.1, D.int ((0 : Int) + (zy1 : Int))]) hTk T.q_InvalidReleases T.se_InvalidReleases (oi_InvalidReleases T) (zhr.mono (by decide)) T.eb_InvalidReleases (ea_cons (ev_var 2 rfl (.inl rfl) rfl) (ea_cons (ev_var 5 rfl (.inl rfl) rfl) ea_nil)) rfl (by decide) (okds_cons (by walk_at "okd") (okds_cons (by walk_at "okd") okds_nil)) fsOk2 (by simp) zk rfl (by exact rfl))
      · skip
        refine exs_nil ?_
        have est : (m_check_releasesx_l1 zy0.1 zy0.2.1 zy0.2.2) zs1 zy1 = .ok () := by simp only [m_check_releasesx_l1, not_true_eq_false, not_false_eq_true, ↓reduceIte, ↓if_neg zh1]
        exact ⟨_, est, ⟨⟨.inr rfl, .inr rfl, .inr rfl, .inr rfl, .inr rfl, .inl rfl, trivial⟩, rfl⟩, trivial⟩
    · exact fun _ _ _ _ zf => zf.elim
    · intro zs1 zrun1 zq1
      have zh3 := zrun1
      have est : (m_check_releasesx_l0) zs0 zy0 = .ok () := by simp only [m_check_releasesx_l0, not_true_eq_false, not_false_eq_true, ↓reduceIte, ↓zh3]
      exact ⟨_, est, ⟨⟨.inr rfl, .inr rfl, .inl rfl, .inl rfl, .inl rfl, .inl rfl, trivial⟩, rfl⟩, trivial⟩
  · exact fun _ _ _ _ zf => zf.elim
  · intro zs0 zrun0 zq0
    have zh5 := zrun0
    have efin : m_check_releasesx system releases = none := by simp only [m_check_releasesx, not_true_eq_false, not_false_eq_true, ↓reduceIte, ↓zh5]
    exact absurd (efin.symm.trans hzx) (by simp)
def m_check_releases_l1 (task_number : Int) (task : Task) (row : List (Int × Str)) (zs1 : Unit) (zy1 : Nat) : Except Unit (Unit) :=
  if (¬ ((m_is_legal_at task row ((0 : Int) + (zy1 : Int))) = true)) then default else .ok ()
def m_check_releases_l0 (zs0 : Unit) (zy0 : Int × (Task × (List (Int × Str)))) : Except Unit (Unit) :=
  match (runE (m_check_releases_l1 zy0.1 zy0.2.1 zy0.2.2) (List.range ((zy0.2.2.length : Int)).toNat) ()) with | .error r => .error r | .ok zs1 => .ok ()
def m_check_releases (system : System) (releases : List (List (Int × Str))) : Unit :=
  match (runE (m_check_releases_l0) (enL 0 (system.tasks.zip releases)) ()) with | .error r => r | .ok zs0 => ()
theorem crx_none {system : System} {releases : List (List (Int × Str))} (h : m_check_releasesx system releases = none) : ∀ p ∈ system.tasks.zip releases, ∀ k : Nat, k < p.2.length → m_is_legal_at p.1 p.2 ((0 : Int) + (k : Int)) = true := by
  unfold m_check_releasesx at h
  split at h
  · rename_i r hr
    exfalso
    have k1 : ∀ (tn : Int) (t : Task) (row : List (Int × Str)) (n : Nat) (r : Option Exn), runE (m_check_releasesx_l1 tn t row) (List.range n) () = .error r → r ≠ none := fun tn t row n r hr => by
      have h2 := (runE_inv (step := m_check_releasesx_l1 tn t row) (P := fun _ => True) (R := fun r => r ≠ none) (ys := List.range n) (s := ()) (fun s y hy _ => ⟨fun _ _ => trivial, fun r e => by
        unfold m_check_releasesx_l1 at e
        split at e
        · cases e; exact fun z => by cases z
        · cases e⟩) trivial).2
      exact h2 r hr
    have k0 := (runE_inv (step := m_check_releasesx_l0) (P := fun _ => True) (R := fun r => r ≠ none) (ys := enL 0 (system.tasks.zip releases)) (s := ()) (fun s y hy _ => ⟨fun _ _ => trivial, fun r e => by
      unfold m_check_releasesx_l0 at e
      split at e
      · rename_i r' hr'; cases e; exact k1 _ _ _ _ _ hr'
      · cases e⟩) trivial).2
    exact k0 r hr h
  · rename_i u hu
    intro p hp k hk
    obtain ⟨i, hi, e⟩ := List.mem_iff_getElem.mp hp
    have hm : (((0 + i : Nat) : Int), p) ∈ enL 0 (system.tasks.zip releases) := by
      have : ∀ {τ : Type} {xs : List τ} {b i : Nat} (h : i < xs.length), (((b + i : Nat) : Int), xs[i]) ∈ enL b xs := by
        intro τ xs
        induction xs with
        | nil => intro b i h; exact absurd h (by simp)
        | cons x xs ih =>
          intro b i h
          cases i with
          | zero => exact List.mem_cons_self
          | succ i =>
            have := ih (b := b + 1) (i := i) (by simpa using h)
            rw [show b + (i + 1) = b + 1 + i by omega]
            exact List.mem_cons_of_mem _ this
      have := this (b := 0) hi
      rw [e] at this; exact this
    have h0 := runE_okall hu _ hm
    unfold m_check_releasesx_l0 at h0
    split at h0
    · cases h0
    · rename_i u1 hu1
      exact l1_ok (runE_okall hu1 k (List.mem_range.mpr (by dsimp only; omega)))
theorem enzip_pair {τ υ : Type} {xs : List τ} {ys : List υ} {y : Int × τ × υ} {i : Nat} (h : (enL 0 (xs.zip ys))[i]? = some y) : y.2 ∈ xs.zip ys := by
  have : ∀ {k i : Nat} {zs : List (τ × υ)}, (enL k zs)[i]? = some y → y.2 ∈ zs := by
    intro k i zs
    induction zs generalizing k i with
    | nil => intro h; simp [enL] at h
    | cons z zs ih =>
      intro h
      cases i with
      | zero => simp [enL] at h; rw [← h]; exact List.mem_cons_self
      | succ i => exact List.mem_cons_of_mem _ (ih (by simpa [enL] using h))
  exact this h
theorem prev_okA {t : Task} {row : List (Int × Str)} (h : ∀ k : Nat, k < row.length → m_is_legal_at t row ((0 : Int) + (k : Int)) = true) {i : Nat} (hi : i < ((row.length : Int)).toNat) : ((0 : Int) + (i : Int)) = 0 ∨ (row.getD ((0 : Int) + (i : Int) - 1).toNat default).2 ∈ t.kinds.map (·.1) := by
  cases i with
  | zero => exact .inl rfl
  | succ j =>
    right
    have h1 := legal_name (h j (by omega))
    rw [show ((0 : Int) + ((j + 1 : Nat) : Int) - 1).toNat = ((0 : Int) + (j : Int)).toNat by omega]
    exact h1
set_option hygiene false in
local macro_rules | `(tactic| walk_at "pre") => `(tactic| first | exact ⟨hpre.1.1 _ hze.1, by omega, by omega, by omega, hprev⟩ | fail)
theorem sc_check_releases : FnScope ["system", "releases", "task_number", "task", "row", "number"] ["system", "releases"] (defScope s_check_releases) := ⟨rfl, rfl, rfl, by decide +kernel, rfl, by decide +kernel, by decide +kernel⟩
def sp_check_releases : SpN := fun zcs zL zKc => ∃ system : System, ∃ releases : List (List (Int × Str)), zcs = [.fr (eSystem system), .fr ((eL (eL (eT2 D.int D.str))) releases)] ∧ zL = [] ∧ (((∀ t ∈ system.tasks, t.ok) ∧ system.tasks.length ≤ 6 ∧ releases.length ≤ 6 ∧ ∀ r ∈ releases, r.length ≤ 20) ∧ m_check_releasesx system releases = none) ∧ ∀ zL', zKc (.fr (eN (m_check_releases system releases))) zL'
theorem ok_check_releases (T : TX P K mg) : FnOk P w K mg base CX0 6 T.a_check_releases T.d_check_releases ["system", "releases"] (SpOf K mg sp_check_releases) := by
  have O_is_legal_at := ok_is_legal_at (P := P) (w := w) (base := base) T
  refine T.F_check_releases.okN sc_check_releases (fun zcs zL zKc zh => by obtain ⟨system, releases, rfl, _⟩ := zh; rfl) fun zcdv zA zout zst zH zE zB zcs zL zKc zhr zh => ?_
  obtain ⟨system, releases, rfl, rfl, hpre, zk⟩ := zh
  have nd := sc_check_releases.nd
  have hSL := sizeLine_eq
  have hall := crx_none hpre.2
  show Exs _ _ _ ⟨[some (.fr (eSystem system)), some (.fr ((eL (eL (eT2 D.int D.str))) releases)), none, none, none, none], []⟩ _
  refine exs_one (ex_forE (enc := (eT2 D.int (eT2 eTask (eL (eT2 D.int D.str))))) (fun (zs0 : Unit) => (⟨[some (.fr (eSystem system)), some (.fr ((eL (eL (eT2 D.int D.str))) releases)), none, none, none, none], []⟩ : Nz.S)) (m_check_releases_l0) () (fun (zi0 : Nat) (zs0 : Unit) => True) (fun r c S' => c = .fr (eN r) ∧ True) (src_enumZip true false (enc := eTask) (encB := (eL (eT2 D.int D.str))) (xs := system.tasks) (ys := releases) (ea_cons (ev_fld (c := "System") (fs := fSystem system) T.q_System T.cl_System T.na_System_tasks rfl (ev_var 0 rfl (.inl rfl) rfl)) (ea_cons (ev_var 1 rfl (.inl rfl) rfl) ea_nil)) (by exact rfl) T.n_enumerate (by exact rfl) T.n_zip) ⟨⟨.inr rfl, .inr rfl, .inl rfl, .inl rfl, .inl rfl, .inl rfl, trivial⟩, rfl⟩ trivial ?_ ?_ ?_ PassesOwn.never rfl)
  · intro zi0 zy0 zs0 zhy0 zrun0 zq0
    skip
    have hze := enzip_mem zhy0
    have hzp := enzip_pair zhy0
    have hrl := hpre.1.2.2.2 _ hze.2
    refine ⟨⟨[some (.fr (eSystem system)), some (.fr ((eL (eL (eT2 D.int D.str))) releases)), some (.fr (D.int zy0.1)), some (.fr (eTask zy0.2.1)), some (.fr ((eL (eT2 D.int D.str)) zy0.2.2)), none], []⟩, (eg_tup rfl (egs_cons (eg_name 2 nd rfl (.inl rfl)) (egs_cons (eg_tup rfl (egs_cons (eg_name 3 nd rfl (.inl rfl)) (egs_cons (eg_name 4 nd rfl (.inl rfl)) egs_nil))) egs_nil))), ?_⟩
    refine exs_one (ex_forE (enc := (fun i : Nat => D.int ((0 : Int) + (i : Int)))) (fun (zs1 : Unit) => (⟨[some (.fr (eSystem system)), some (.fr ((eL (eL (eT2 D.int D.str))) releases)), some (.fr (D.int zy0.1)), some (.fr (eTask zy0.2.1)), some (.fr ((eL (eT2 D.int D.str)) zy0.2.2)), none], []⟩ : Nz.S)) (m_check_releases_l1 zy0.1 zy0.2.1 zy0.2.2) () (fun (zi1 : Nat) (zs1 : Unit) => True) (fun r c S' => c = .fr (eN r) ∧ True) (src_range1 (ea_cons (ev_len (ln_L (xs := zy0.2.2) (enc := (eT2 D.int D.str)) (by exact rfl)) (ev_var 4 rfl (.inl rfl) rfl) (by exact rfl) T.n_len) ea_nil) (by exact rfl) T.n_range (by walk_at "sd") (by walk_at "sd")) ⟨⟨.inr rfl, .inr rfl, .inr rfl, .inr rfl, .inr rfl, .inl rfl, trivial⟩, rfl⟩ trivial ?_ ?_ ?_ PassesOwn.never rfl)
    · intro zi1 zy1 zs1 zhy1 zrun1 zq1
      skip
      have hy1 := seq_range zhy1
      have hi1 := (List.getElem?_eq_some_iff.mp zhy1).1
      simp only [List.length_range] at hi1
      have hleg := hall _ hzp
      have hprev := prev_okA hleg hi1
      rw [← hy1.2] at hprev hi1
      refine ⟨⟨[some (.fr (eSystem system)), some (.fr ((eL (eL (eT2 D.int D.str))) releases)), some (.fr (D.int zy0.1)), some (.fr (eTask zy0.2.1)), some (.fr ((eL (eT2 D.int D.str)) zy0.2.2)), some (.fr (D.int ((0 : Int) + (zy1 : Int))))], []⟩, (eg_name 5 nd rfl (.inl rfl)), ?_⟩
      refine exs_one (ex_ifP (bd_not Iff.rfl) (et_not (et_val (ev_call (ds := [eTask zy0.2.1, (eL (eT2 D.int D.str)) zy0.2.2, D.int ((0 : Int) + (zy1 : Int))]) (ds' := []) (dvs := []) (dfs := []) O_is_legal_at (zhr.mono (by decide)) T.m_is_legal_at T.k_is_legal_at T.b_is_legal_at .nil (fun _ => .nil) (ea_cons (ev_var 3 rfl (.inl rfl) rfl) (ea_cons (ev_var 4 rfl (.inl rfl) rfl) (ea_cons (ev_var 5 rfl (.inl rfl) rfl) ea_nil))) (fun _ zkk => ⟨zy0.2.1, zy0.2.2, ((0 : Int) + (zy1 : Int)), rfl, rfl, (by walk_at "pre"), zkk⟩) (by exact rfl)))) (fun (zh1 : (¬ ((m_is_legal_at zy0.2.1 zy0.2.2 ((0 : Int) + (zy1 : Int))) = true))) => ?_) (fun (zh1 : ¬ (¬ ((m_is_legal_at zy0.2.1 zy0.2.2 ((0 : Int) + (zy1 : Int))) = true))) => ?_))
      · skip
        exact absurd (hleg zy1 (by omega)) (by assumption)
      · skip
        refine exs_nil ?_
        have est : (m_check_releases_l1 zy0.1 zy0.2.1 zy0.2.2) zs1 zy1 = .ok () := by simp only [m_check_releases_l1, not_true_eq_false, not_false_eq_true, ↓reduceIte, ↓if_neg zh1]
        exact ⟨_, est, ⟨⟨.inr rfl, .inr rfl, .inr rfl, .inr rfl, .inr rfl, .inl rfl, trivial⟩, rfl⟩, trivial⟩
    · rintro zr zc zS zrun1 ⟨rfl, zhL⟩
      skip
      have zh2 := zrun1
      have est : (m_check_releases_l0) zs0 zy0 = .error zr := by simp only [m_check_releases_l0, not_true_eq_false, not_false_eq_true, ↓reduceIte, ↓zh2]
      exact ⟨_, est, rfl, zhL⟩
    · intro zs1 zrun1 zq1
      have zh3 := zrun1
      have est : (m_check_releases_l0) zs0 zy0 = .ok () := by simp only [m_check_releases_l0, not_true_eq_false, not_false_eq_true, ↓reduceIte, ↓zh3]
      exact ⟨_, est, ⟨⟨.inr rfl, .inr rfl, .inl rfl, .inl rfl, .inl rfl, .inl rfl, trivial⟩, rfl⟩, trivial⟩
  · rintro zr zc zS zrun0 ⟨rfl, zhL⟩
    skip
    have zh4 := zrun0
    have efin : m_check_releases system releases = zr := by simp only [m_check_releases, not_true_eq_false, not_false_eq_true, ↓reduceIte, ↓zh4]
    rw [efin] at zk
    exact zk _
  · intro zs0 zrun0 zq0
    have zh5 := zrun0
    have efin : m_check_releases system releases = () := by simp only [m_check_releases, not_true_eq_false, not_false_eq_true, ↓reduceIte, ↓zh5]
    rw [efin] at zk
    exact zk _
def m_law_known_l0 (name : Str) (zs0 : Unit) (zy0 : Str × Int × Int) : Except Bool (Unit) :=
  if (zy0.1 = name) then .error true else .ok ()
def m_law_known (kinds : List (Str × Int × Int)) (name : Str) : Bool :=
  match (runE (m_law_known_l0 name) kinds ()) with | .error r => r | .ok zs0 => false
theorem sc_law_known : FnScope ["kinds", "name", "kind"] ["kinds", "name"] (defScope s_law_known) := ⟨rfl, rfl, rfl, by decide +kernel, rfl, by decide +kernel, by decide +kernel⟩
def sp_law_known : SpN := fun zcs zL zKc => ∃ kinds : List (Str × Int × Int), ∃ name : Str, zcs = [.fr ((eL (eT3 D.str D.int D.int)) kinds), .fr (D.str name)] ∧ zL = [] ∧ (True) ∧ ∀ zL', zKc (.fr (D.bl (m_law_known kinds name))) zL'
theorem ok_law_known (T : TX P K mg) : FnOk P w K mg base CX0 1 T.a_law_known T.d_law_known ["kinds", "name"] (SpOf K mg sp_law_known) := by
  refine T.F_law_known.okN sc_law_known (fun zcs zL zKc zh => by obtain ⟨kinds, name, rfl, _⟩ := zh; rfl) fun zcdv zA zout zst zH zE zB zcs zL zKc zhr zh => ?_
  obtain ⟨kinds, name, rfl, rfl, hpre, zk⟩ := zh
  have nd := sc_law_known.nd
  have hSL := sizeLine_eq
  show Exs _ _ _ ⟨[some (.fr ((eL (eT3 D.str D.int D.int)) kinds)), some (.fr (D.str name)), none], []⟩ _
  refine exs_cons (ex_forE (enc := (eT3 D.str D.int D.int)) (fun (zs0 : Unit) => (⟨[some (.fr ((eL (eT3 D.str D.int D.int)) kinds)), some (.fr (D.str name)), none], []⟩ : Nz.S)) (m_law_known_l0 name) () (fun (zi0 : Nat) (zs0 : Unit) => True) (fun r c S' => c = .fr (D.bl r) ∧ True) (src_listT (ev_var 0 rfl (.inl rfl) rfl)) ⟨⟨.inr rfl, .inr rfl, .inl rfl, trivial⟩, rfl⟩ trivial ?_ ?_ ?_ PassesOwn.never rfl)
  · intro zi0 zy0 zs0 zhy0 zrun0 zq0
    skip
    refine ⟨⟨[some (.fr ((eL (eT3 D.str D.int D.int)) kinds)), some (.fr (D.str name)), some (.fr ((eT3 D.str D.int D.int) zy0))], []⟩, (eg_name 2 nd rfl (.inl rfl)), ?_⟩
    refine exs_one (ex_ifP bd_d (et_cmp o_eqs (ev_ix (.t (d := D.str zy0.1) rfl) (ev_var 2 rfl (.inl rfl) rfl) ev_int) (ev_var 1 rfl (.inl rfl) rfl) (nomark _)) (fun (zh1 : (zy0.1 = name)) => ?_) (fun (zh1 : ¬ (zy0.1 = name)) => ?_))
    · skip
      refine exs_one (ex_ret ev_bl ?_)
      have est : (m_law_known_l0 name) zs0 zy0 = .error true := by simp only [m_law_known_l0, not_true_eq_false, not_false_eq_true, ↓reduceIte, ↓if_pos zh1]
      exact ⟨_, est, rfl, trivial⟩
    · skip
      refine exs_nil ?_
      have est : (m_law_known_l0 name) zs0 zy0 = .ok () := by simp only [m_law_known_l0, not_true_eq_false, not_false_eq_true, ↓reduceIte, ↓if_neg zh1]
      exact ⟨_, est, ⟨⟨.inr rfl, .inr rfl, .inl rfl, trivial⟩, rfl⟩, trivial⟩
  · rintro zr zc zS zrun0 ⟨rfl, zhL⟩
    skip
    have zh2 := zrun0
    have efin : m_law_known kinds name = zr := by simp only [m_law_known, not_true_eq_false, not_false_eq_true, ↓reduceIte, ↓zh2]
    rw [efin] at zk
    exact zk _
  · intro zs0 zrun0 zq0
    have zh3 := zrun0
    show Exs _ _ _ ⟨[some (.fr ((eL (eT3 D.str D.int D.int)) kinds)), some (.fr (D.str name)), none], []⟩ _
    refine exs_one (ex_ret ev_bl ?_)
    have efin : m_law_known kinds name = false := by simp only [m_law_known, not_true_eq_false, not_false_eq_true, ↓reduceIte, ↓zh3]
    rw [efin] at zk
    exact zk _
def m_law_good_l0 (course : List (Int × Str)) (place : Int) (before : Int × Str) (zs0 : Unit) (zy0 : Str × Str × Int) : Except Bool (Unit) :=
  if ((zy0.1 = before.2) ∧ ((zy0.2.1 = (course.getD (place).toNat default).2) ∧ (zy0.2.2 ≤ ((course.getD (place).toNat default).1 - before.1)))) then .error true else .ok ()
def m_law_good (kinds : List (Str × Int × Int)) (ways : List (Str × Str × Int)) (course : List (Int × Str)) (place : Int) : Bool :=
  if (¬ ((m_law_known kinds ((course.getD (place).toNat default).2)) = true)) then false else if (place = (0 : Int)) then true else let before1 : Int × Str := (course.getD ((place - (1 : Int))).toNat default)
  match (runE (m_law_good_l0 course place before1) ways ()) with | .error r => r | .ok zs0 => false
theorem sc_law_good : FnScope ["kinds", "ways", "course", "place", "before", "way"] ["kinds", "ways", "course", "place"] (defScope s_law_good) := ⟨rfl, rfl, rfl, by decide +kernel, rfl, by decide +kernel, by decide +kernel⟩
def sp_law_good : SpN := fun zcs zL zKc => ∃ kinds : List (Str × Int × Int), ∃ ways : List (Str × Str × Int), ∃ course : List (Int × Str), ∃ place : Int, zcs = [.fr ((eL (eT3 D.str D.int D.int)) kinds), .fr ((eL (eT3 D.str D.str D.int)) ways), .fr ((eL (eT2 D.int D.str)) course), .fr (D.int place)] ∧ zL = [] ∧ (0 ≤ place ∧ place < course.length) ∧ ∀ zL', zKc (.fr (D.bl (m_law_good kinds ways course place))) zL'
theorem ok_law_good (T : TX P K mg) : FnOk P w K mg base CX0 2 T.a_law_good T.d_law_good ["kinds", "ways", "course", "place"] (SpOf K mg sp_law_good) := by
  have O_law_known := ok_law_known (P := P) (w := w) (base := base) T
  refine T.F_law_good.okN sc_law_good (fun zcs zL zKc zh => by obtain ⟨kinds, ways, course, place, rfl, _⟩ := zh; rfl) fun zcdv zA zout zst zH zE zB zcs zL zKc zhr zh => ?_
  obtain ⟨kinds, ways, course, place, rfl, rfl, hpre, zk⟩ := zh
  have nd := sc_law_good.nd
  have hSL := sizeLine_eq
  show Exs _ _ _ ⟨[some (.fr ((eL (eT3 D.str D.int D.int)) kinds)), some (.fr ((eL (eT3 D.str D.str D.int)) ways)), some (.fr ((eL (eT2 D.int D.str)) course)), some (.fr (D.int place)), none, none], []⟩ _
  refine exs_cons (ex_ifP (bd_not Iff.rfl) (et_not (et_val (ev_call (ds := [(eL (eT3 D.str D.int D.int)) kinds, D.str ((course.getD (place).toNat default).2)]) (ds' := []) (dvs := []) (dfs := []) O_law_known (zhr.mono (by decide)) T.m_law_known T.k_law_known T.b_law_known .nil (fun _ => .nil) (ea_cons (ev_var 0 rfl (.inl rfl) rfl) (ea_cons (ev_ix (.t (d := D.str ((course.getD (place).toNat default).2)) rfl) (ev_ix (ix_L (xs := course) (enc := (eT2 D.int D.str)) (by exact rfl) (by walk_at "sd") (by walk_at "sd")) (ev_var 2 rfl (.inl rfl) rfl) (ev_var 3 rfl (.inl rfl) rfl)) ev_int) ea_nil)) (fun _ zkk => ⟨kinds, (course.getD (place).toNat default).2, rfl, rfl, trivial, zkk⟩) (by exact rfl)))) (fun (zh1 : (¬ ((m_law_known kinds ((course.getD (place).toNat default).2)) = true))) => ?_) (fun (zh1 : ¬ (¬ ((m_law_known kinds ((course.getD (place).toNat default).2)) = true))) => ?_))
  · skip
    refine exs_one (ex_ret ev_bl ?_)
    have efin : m_law_good kinds ways course place = false := by first | (simp only [m_law_good, not_true_eq_false, not_false_eq_true, ↓reduceIte, ↓if_pos zh1]; done) | (first | exact absurd rfl zh1)
    rw [efin] at zk
    exact zk _
  · skip
    refine exs_nil ?_
    show Exs _ _ _ ⟨[some (.fr ((eL (eT3 D.str D.int D.int)) kinds)), some (.fr ((eL (eT3 D.str D.str D.int)) ways)), some (.fr ((eL (eT2 D.int D.str)) course)), some (.fr (D.int place)), none, none], []⟩ _
    refine exs_cons (ex_ifP bd_d (et_cmp o_eqi (ev_var 3 rfl (.inl rfl) rfl) ev_int (nomark _)) (fun (zh2 : (place = (0 : Int))) => ?_) (fun (zh2 : ¬ (place = (0 : Int))) => ?_))
    · skip
      refine exs_one (ex_ret ev_bl ?_)
      have efin : m_law_good kinds ways course place = true := by simp only [m_law_good, not_true_eq_false, not_false_eq_true, ↓reduceIte, ↓if_neg zh1, ↓if_pos zh2]
      rw [efin] at zk
      exact zk _
    · skip
      refine exs_nil ?_
      show Exs _ _ _ ⟨[some (.fr ((eL (eT3 D.str D.int D.int)) kinds)), some (.fr ((eL (eT3 D.str D.str D.int)) ways)), some (.fr ((eL (eT2 D.int D.str)) course)), some (.fr (D.int place)), none, none], []⟩ _
      refine exs_cons (ex_set 4 (ev_ix (ix_L (xs := course) (enc := (eT2 D.int D.str)) (by exact rfl) (by walk_at "sd") (by walk_at "sd")) (ev_var 2 rfl (.inl rfl) rfl) (ev_bin o_sub (ev_var 3 rfl (.inl rfl) rfl) ev_int)) ?_ nd rfl (.inl rfl))
      show Exs _ _ _ ⟨[some (.fr ((eL (eT3 D.str D.int D.int)) kinds)), some (.fr ((eL (eT3 D.str D.str D.int)) ways)), some (.fr ((eL (eT2 D.int D.str)) course)), some (.fr (D.int place)), some (.fr ((eT2 D.int D.str) (course.getD ((place - (1 : Int))).toNat default))), none], []⟩ _
      generalize zg_before : (course.getD ((place - (1 : Int))).toNat default) = before
      show Exs _ _ _ ⟨[some (.fr ((eL (eT3 D.str D.int D.int)) kinds)), some (.fr ((eL (eT3 D.str D.str D.int)) ways)), some (.fr ((eL (eT2 D.int D.str)) course)), some (.fr (D.int place)), some (.fr ((eT2 D.int D.str) before)), none], []⟩ _
      refine exs_cons (ex_forE (enc := (eT3 D.str D.str D.int)) (fun (zs0 : Unit) => (⟨[some (.fr ((eL (eT3 D.str D.int D.int)) kinds)), some (.fr ((eL (eT3 D.str D.str D.int)) ways)), some (.fr ((eL (eT2 D.int D.str)) course)), some (.fr (D.int place)), some (.fr ((eT2 D.int D.str) before)), none], []⟩ : Nz.S)) (m_law_good_l0 course place before) () (fun (zi0 : Nat) (zs0 : Unit) => True) (fun r c S' => c = .fr (D.bl r) ∧ True) (src_listT (ev_var 1 rfl (.inl rfl) rfl)) ⟨⟨.inr rfl, .inr rfl, .inr rfl, .inr rfl, .inr rfl, .inl rfl, trivial⟩, rfl⟩ trivial ?_ ?_ ?_ PassesOwn.never rfl)
      · intro zi0 zy0 zs0 zhy0 zrun0 zq0
        skip
        refine ⟨⟨[some (.fr ((eL (eT3 D.str D.int D.int)) kinds)), some (.fr ((eL (eT3 D.str D.str D.int)) ways)), some (.fr ((eL (eT2 D.int D.str)) course)), some (.fr (D.int place)), some (.fr ((eT2 D.int D.str) before)), some (.fr ((eT3 D.str D.str D.int) zy0))], []⟩, (eg_name 5 nd rfl (.inl rfl)), ?_⟩
        refine exs_one (ex_ifP (bd_and bd_d (bd_and bd_d bd_d)) (Ew.et (ew_andP bd_d (et_cmp o_eqs (ev_ix (.t (d := D.str zy0.1) rfl) (ev_var 5 rfl (.inl rfl) rfl) ev_int) (ev_ix (.t (d := D.str before.2) rfl) (ev_var 4 rfl (.inl rfl) rfl) ev_int) (nomark _)) (fun zhp => (ew_andP bd_d (et_cmp o_eqs (ev_ix (.t (d := D.str zy0.2.1) rfl) (ev_var 5 rfl (.inl rfl) rfl) ev_int) (ev_ix (.t (d := D.str ((course.getD (place).toNat default).2)) rfl) (ev_ix (ix_L (xs := course) (enc := (eT2 D.int D.str)) (by exact rfl) (by walk_at "sd") (by walk_at "sd")) (ev_var 2 rfl (.inl rfl) rfl) (ev_var 3 rfl (.inl rfl) rfl)) ev_int) (nomark _)) (fun zhp => (ew_and1 (et_cmp o_le (ev_ix (.t (d := D.int zy0.2.2) rfl) (ev_var 5 rfl (.inl rfl) rfl) ev_int) (ev_bin o_sub (ev_ix (.t (d := D.int ((course.getD (place).toNat default).1)) rfl) (ev_ix (ix_L (xs := course) (enc := (eT2 D.int D.str)) (by exact rfl) (by walk_at "sd") (by walk_at "sd")) (ev_var 2 rfl (.inl rfl) rfl) (ev_var 3 rfl (.inl rfl) rfl)) ev_int) (ev_ix (.t (d := D.int before.1) rfl) (ev_var 4 rfl (.inl rfl) rfl) ev_int)) (nomark _)))))))) (fun (zh3 : ((zy0.1 = before.2) ∧ ((zy0.2.1 = (course.getD (place).toNat default).2) ∧ (zy0.2.2 ≤ ((course.getD (place).toNat default).1 - before.1))))) => ?_) (fun (zh3 : ¬ ((zy0.1 = before.2) ∧ ((zy0.2.1 = (course.getD (place).toNat default).2) ∧ (zy0.2.2 ≤ ((course.getD (place).toNat default).1 - before.1))))) => ?_))
        · skip
          refine exs_one (ex_ret ev_bl ?_)
          have est : (m_law_good_l0 course place before) zs0 zy0 = .error true := by simp only [m_law_good_l0, not_true_eq_false, not_false_eq_true, ↓reduceIte, ↓if_pos zh3]
          exact ⟨_, est, rfl, trivial⟩
        · skip
          refine exs_nil ?_
          have est : (m_law_good_l0 course place before) zs0 zy0 = .ok () := by simp only [m_law_good_l0, not_true_eq_false, not_false_eq_true, ↓reduceIte, ↓if_neg zh3]
          exact ⟨_, est, ⟨⟨.inr rfl, .inr rfl, .inr rfl, .inr rfl, .inr rfl, .inl rfl, trivial⟩, rfl⟩, trivial⟩
      · rintro zr zc zS zrun0 ⟨rfl, zhL⟩
        skip
        have zh4 := zrun0
        have efin : m_law_good kinds ways course place = zr := by subst zg_before; simp only [m_law_good, not_true_eq_false, not_false_eq_true, ↓reduceIte, ↓if_neg zh1, ↓if_neg zh2, ↓zh4]
        rw [efin] at zk
        exact zk _
      · intro zs0 zrun0 zq0
        have zh5 := zrun0
        show Exs _ _ _ ⟨[some (.fr ((eL (eT3 D.str D.int D.int)) kinds)), some (.fr ((eL (eT3 D.str D.str D.int)) ways)), some (.fr ((eL (eT2 D.int D.str)) course)), some (.fr (D.int place)), some (.fr ((eT2 D.int D.str) before)), none], []⟩ _
        refine exs_one (ex_ret ev_bl ?_)
        have efin : m_law_good kinds ways course place = false := by subst zg_before; simp only [m_law_good, not_true_eq_false, not_false_eq_true, ↓reduceIte, ↓if_neg zh1, ↓if_neg zh2, ↓zh5]
        rw [efin] at zk
        exact zk _
def m_law_fault_l1 (parts : List ((List (Str × Int × Int)) × (List (Str × Str × Int)))) (courses : List (List (Int × Str))) (number : Int) (zs1 : Unit) (zy1 : Nat) : Except (Option (Int × Int)) (Unit) :=
  if (¬ ((m_law_good ((parts.getD (number).toNat default).1) ((parts.getD (number).toNat default).2) (courses.getD (number).toNat default) ((0 : Int) + (zy1 : Int))) = true)) then .error (some (number, ((0 : Int) + (zy1 : Int)))) else .ok ()
def m_law_fault_l0 (parts : List ((List (Str × Int × Int)) × (List (Str × Str × Int)))) (courses : List (List (Int × Str))) (zs0 : Unit) (zy0 : Nat) : Except (Option (Int × Int)) (Unit) :=
  match (runE (m_law_fault_l1 parts courses ((0 : Int) + (zy0 : Int))) (List.range (((courses.getD (((0 : Int) + (zy0 : Int))).toNat default).length : Int)).toNat) ()) with | .error r => .error r | .ok zs1 => .ok ()
def m_law_fault (parts : List ((List (Str × Int × Int)) × (List (Str × Str × Int)))) (courses : List (List (Int × Str))) : Option (Int × Int) :=
  match (runE (m_law_fault_l0 parts courses) (List.range ((parts.length : Int)).toNat) ()) with | .error r => r | .ok zs0 => (none : Option (Int × Int))
theorem getD_mm {τ : Type} [Inhabited τ] {xs : List τ} {i : Nat} (h : i < xs.length) : xs.getD i default ∈ xs := by
  rw [List.getD_eq_getElem?_getD, List.getElem?_eq_getElem h]; exact List.getElem_mem h
set_option hygiene false in
local macro_rules | `(tactic| walk_at "pre") => `(tactic| first | exact ⟨by omega, by omega⟩ | fail)
theorem sc_law_fault : FnScope ["parts", "courses", "number", "place"] ["parts", "courses"] (defScope s_law_fault) := ⟨rfl, rfl, rfl, by decide +kernel, rfl, by decide +kernel, by decide +kernel⟩
def sp_law_fault : SpN := fun zcs zL zKc => ∃ parts : List ((List (Str × Int × Int)) × (List (Str × Str × Int))), ∃ courses : List (List (Int × Str)), zcs = [.fr ((eL (eT2 (eL (eT3 D.str D.int D.int)) (eL (eT3 D.str D.str D.int)))) parts), .fr ((eL (eL (eT2 D.int D.str))) courses)] ∧ zL = [] ∧ (parts.length ≤ courses.length ∧ courses.length ≤ 1000 ∧ ∀ c ∈ courses, c.length ≤ 1000) ∧ ∀ zL', zKc (.fr ((eO (eT2 D.int D.int)) (m_law_fault parts courses))) zL'
theorem ok_law_fault (T : TX P K mg) : FnOk P w K mg base CX0 3 T.a_law_fault T.d_law_fault ["parts", "courses"] (SpOf K mg sp_law_fault) := by
  have O_law_good := ok_law_good (P := P) (w := w) (base := base) T
  refine T.F_law_fault.okN sc_law_fault (fun zcs zL zKc zh => by obtain ⟨parts, courses, rfl, _⟩ := zh; rfl) fun zcdv zA zout zst zH zE zB zcs zL zKc zhr zh => ?_
  obtain ⟨parts, courses, rfl, rfl, hpre, zk⟩ := zh
  have nd := sc_law_fault.nd
  have hSL := sizeLine_eq
  show Exs _ _ _ ⟨[some (.fr ((eL (eT2 (eL (eT3 D.str D.int D.int)) (eL (eT3 D.str D.str D.int)))) parts)), some (.fr ((eL (eL (eT2 D.int D.str))) courses)), none, none], []⟩ _
  refine exs_cons (ex_forE (enc := (fun i : Nat => D.int ((0 : Int) + (i : Int)))) (fun (zs0 : Unit) => (⟨[some (.fr ((eL (eT2 (eL (eT3 D.str D.int D.int)) (eL (eT3 D.str D.str D.int)))) parts)), some (.fr ((eL (eL (eT2 D.int D.str))) courses)), none, none], []⟩ : Nz.S)) (m_law_fault_l0 parts courses) () (fun (zi0 : Nat) (zs0 : Unit) => True) (fun r c S' => c = .fr ((eO (eT2 D.int D.int)) r) ∧ True) (src_range1 (ea_cons (ev_len (ln_L (xs := parts) (enc := (eT2 (eL (eT3 D.str D.int D.int)) (eL (eT3 D.str D.str D.int)))) (by exact rfl)) (ev_var 0 rfl (.inl rfl) rfl) (by exact rfl) T.n_len) ea_nil) (by exact rfl) T.n_range (by walk_at "sd") (by walk_at "sd")) ⟨⟨.inr rfl, .inr rfl, .inl rfl, .inl rfl, trivial⟩, rfl⟩ trivial ?_ ?_ ?_ PassesOwn.never rfl)
  · intro zi0 zy0 zs0 zhy0 zrun0 zq0
    skip
    have hy0 := seq_range zhy0
    have hi := (List.getElem?_eq_some_iff.mp zhy0).1
    simp only [List.length_range] at hi
    have hcl := hpre.2.2 _ (getD_mm (xs := courses) (i := (0 + (zy0 : Int)).toNat) (by omega))
    refine ⟨⟨[some (.fr ((eL (eT2 (eL (eT3 D.str D.int D.int)) (eL (eT3 D.str D.str D.int)))) parts)), some (.fr ((eL (eL (eT2 D.int D.str))) courses)), some (.fr (D.int ((0 : Int) + (zy0 : Int)))), none], []⟩, (eg_name 2 nd rfl (.inl rfl)), ?_⟩
    refine exs_one (ex_forE (enc := (fun i : Nat => D.int ((0 : Int) + (i : Int)))) (fun (zs1 : Unit) => (⟨[some (.fr ((eL (eT2 (eL (eT3 D.str D.int D.int)) (eL (eT3 D.str D.str D.int)))) parts)), some (.fr ((eL (eL (eT2 D.int D.str))) courses)), some (.fr (D.int ((0 : Int) + (zy0 : Int)))), none], []⟩ : Nz.S)) (m_law_fault_l1 parts courses ((0 : Int) + (zy0 : Int))) () (fun (zi1 : Nat) (zs1 : Unit) => True) (fun r c S' => c = .fr ((eO (eT2 D.int D.int)) r) ∧ True) (src_range1 (ea_cons (ev_len (ln_L (xs := (courses.getD (((0 : Int) + (zy0 : Int))).toNat default)) (enc := (eT2 D.int D.str)) (by exact rfl)) (ev_ix (ix_L (xs := courses) (enc := (eL (eT2 D.int D.str))) (by exact rfl) (by walk_at "sd") (by walk_at "sd")) (ev_var 1 rfl (.inl rfl) rfl) (ev_var 2 rfl (.inl rfl) rfl)) (by exact rfl) T.n_len) ea_nil) (by exact rfl) T.n_range (by walk_at "sd") (by walk_at "sd")) ⟨⟨.inr rfl, .inr rfl, .inr rfl, .inl rfl, trivial⟩, rfl⟩ trivial ?_ ?_ ?_ PassesOwn.never rfl)
    · intro zi1 zy1 zs1 zhy1 zrun1 zq1
      skip
      have hy1 := seq_range zhy1
      have hi1 := (List.getElem?_eq_some_iff.mp zhy1).1
      simp only [List.length_range] at hi1
      refine ⟨⟨[some (.fr ((eL (eT2 (eL (eT3 D.str D.int D.int)) (eL (eT3 D.str D.str D.int)))) parts)), some (.fr ((eL (eL (eT2 D.int D.str))) courses)), some (.fr (D.int ((0 : Int) + (zy0 : Int)))), some (.fr (D.int ((0 : Int) + (zy1 : Int))))], []⟩, (eg_name 3 nd rfl (.inl rfl)), ?_⟩
      refine exs_one (ex_ifP (bd_not Iff.rfl) (et_not (et_val (ev_call (ds := [(eL (eT3 D.str D.int D.int)) ((parts.getD (((0 : Int) + (zy0 : Int))).toNat default).1), (eL (eT3 D.str D.str D.int)) ((parts.getD (((0 : Int) + (zy0 : Int))).toNat default).2), (eL (eT2 D.int D.str)) (courses.getD (((0 : Int) + (zy0 : Int))).toNat default), D.int ((0 : Int) + (zy1 : Int))]) (ds' := []) (dvs := []) (dfs := []) O_law_good (zhr.mono (by decide)) T.m_law_good T.k_law_good T.b_law_good .nil (fun _ => .nil) (ea_cons (ev_ix (.t (d := (eL (eT3 D.str D.int D.int)) ((parts.getD (((0 : Int) + (zy0 : Int))).toNat default).1)) rfl) (ev_ix (ix_L (xs := parts) (enc := (eT2 (eL (eT3 D.str D.int D.int)) (eL (eT3 D.str D.str D.int)))) (by exact rfl) (by walk_at "sd") (by walk_at "sd")) (ev_var 0 rfl (.inl rfl) rfl) (ev_var 2 rfl (.inl rfl) rfl)) ev_int) (ea_cons (ev_ix (.t (d := (eL (eT3 D.str D.str D.int)) ((parts.getD (((0 : Int) + (zy0 : Int))).toNat default).2)) rfl) (ev_ix (ix_L (xs := parts) (enc := (eT2 (eL (eT3 D.str D.int D.int)) (eL (eT3 D.str D.str D.int)))) (by exact rfl) (by walk_at "sd") (by walk_at "sd")) (ev_var 0 rfl (.inl rfl) rfl) (ev_var 2 rfl (.inl rfl) rfl)) ev_int) (ea_cons (ev_ix (ix_L (xs := courses) (enc := (eL (eT2 D.int D.str))) (by exact rfl) (by walk_at "sd") (by walk_at "sd")) (ev_var 1 rfl (.inl rfl) rfl) (ev_var 2 rfl (.inl rfl) rfl)) (ea_cons (ev_var 3 rfl (.inl rfl) rfl) ea_nil)))) (fun _ zkk => ⟨(parts.getD (((0 : Int) + (zy0 : Int))).toNat default).1, (parts.getD (((0 : Int) + (zy0 : Int))).toNat default).2, (courses.getD (((0 : Int) + (zy0 : Int))).toNat default), ((0 : Int) + (zy1 : Int)), rfl, rfl, (by walk_at "pre"), zkk⟩) (by exact rfl)))) (fun (zh1 : (¬ ((m_law_good ((parts.getD (((0 : Int) + (zy0 : Int))).toNat default).1) ((parts.getD (((0 : Int) + (zy0 : Int))).toNat default).2) (courses.getD (((0 : Int) + (zy0 : Int))).toNat default) ((0 : Int) + (zy1 : Int))) = true))) => ?_) (fun (zh1 : ¬ (¬ ((m_law_good ((parts.getD (((0 : Int) + (zy0 : Int))).toNat default).1) ((parts.getD (((0 : Int) + (zy0 : Int))).toNat default).2) (courses.getD (((0 : Int) + (zy0 : Int))).toNat default) ((0 : Int) + (zy1 : Int))) = true))) => ?_))
      · skip
        refine exs_one (ex_ret (ev_tup (ds := [D.int ((0 : Int) + (zy0 : Int)), D.int ((0 : Int) + (zy1 : Int))]) (ea_cons (ev_var 2 rfl (.inl rfl) rfl) (ea_cons (ev_var 3 rfl (.inl rfl) rfl) ea_nil)) (by simp only [List.length_cons, List.length_nil]; decide)) ?_)
        have est : (m_law_fault_l1 parts courses ((0 : Int) + (zy0 : Int))) zs1 zy1 = .error (some (((0 : Int) + (zy0 : Int)), ((0 : Int) + (zy1 : Int)))) := by simp only [m_law_fault_l1, not_true_eq_false, not_false_eq_true, ↓reduceIte, ↓if_pos zh1]
        exact ⟨_, est, rfl, trivial⟩
      · skip
        refine exs_nil ?_
        have est : (m_law_fault_l1 parts courses ((0 : Int) + (zy0 : Int))) zs1 zy1 = .ok () := by simp only [m_law_fault_l1, not_true_eq_false, not_false_eq_true, ↓reduceIte, ↓if_neg zh1]
        exact ⟨_, est, ⟨⟨.inr rfl, .inr rfl, .inr rfl, .inl rfl, trivial⟩, rfl⟩, trivial⟩
    · rintro zr zc zS zrun1 ⟨rfl, zhL⟩
      skip
      have zh2 := zrun1
      have est : (m_law_fault_l0 parts courses) zs0 zy0 = .error zr := by simp only [m_law_fault_l0, not_true_eq_false, not_false_eq_true, ↓reduceIte, ↓zh2]
      exact ⟨_, est, rfl, zhL⟩
    · intro zs1 zrun1 zq1
      have zh3 := zrun1
      have est : (m_law_fault_l0 parts courses) zs0 zy0 = .ok () := by simp only [m_law_fault_l0, not_true_eq_false, not_false_eq_true, ↓reduceIte, ↓zh3]
      exact ⟨_, est, ⟨⟨.inr rfl, .inr rfl, .inl rfl, .inl rfl, trivial⟩, rfl⟩, trivial⟩
  · rintro zr zc zS zrun0 ⟨rfl, zhL⟩
    skip
    have zh4 := zrun0
    have efin : m_law_fault parts courses = zr := by simp only [m_law_fault, not_true_eq_false, not_false_eq_true, ↓reduceIte, ↓zh4]
    rw [efin] at zk
    exact zk _
  · intro zs0 zrun0 zq0
    have zh5 := zrun0
    show Exs _ _ _ ⟨[some (.fr ((eL (eT2 (eL (eT3 D.str D.int D.int)) (eL (eT3 D.str D.str D.int)))) parts)), some (.fr ((eL (eL (eT2 D.int D.str))) courses)), none, none], []⟩ _
    refine exs_one (ex_ret ev_non ?_)
    have efin : m_law_fault parts courses = (none : Option (Int × Int)) := by simp only [m_law_fault, not_true_eq_false, not_false_eq_true, ↓reduceIte, ↓zh5]
    rw [efin] at zk
    exact zk _
def m_law_coursen_l0 (numbers : List Int) (at_ : Int) (ways : List (Str × Str × Int)) (zs0 : Str × Int × (List (Int × Str))) (zy0 : Nat) : Except (List (Int × Str)) (Str × Int × (List (Int × Str))) :=
  let choices : List (Str × Str × Int) := ((ways.filter (fun zc1 : Str × Str × Int => (decide (zc1.1 = zs0.1)))).map (fun zc1 : Str × Str × Int => zc1))
  if ((choices.length : Int) = (0 : Int)) then .error zs0.2.2 else let way : Str × Str × Int := (choices.getD (((numbers.getD (((at_ + (2 : Int)) + ((2 : Int) * ((0 : Int) + (zy0 : Int))))).toNat default) % (choices.length : Int))).toNat default)
  let time1 : Int := ((zs0.2.1 + way.2.2) + (if (((numbers.getD (((at_ + (3 : Int)) + ((2 : Int) * ((0 : Int) + (zy0 : Int))))).toNat default) % (6 : Int)) - (3 : Int)) > (0 : Int) then (((numbers.getD (((at_ + (3 : Int)) + ((2 : Int) * ((0 : Int) + (zy0 : Int))))).toNat default) % (6 : Int)) - (3 : Int)) else (0 : Int)))
  .ok (way.2.1, time1, (zs0.2.2 ++ [(time1, way.2.1)]))
def m_law_coursen (numbers : List Int) (at_ : Int) (kinds : List (Str × Int × Int)) (ways : List (Str × Str × Int)) (many : Int) : List (Int × Str) :=
  if (many = (0 : Int)) then ([] : List (Int × Str)) else let kind1 : Str := (kinds.getD (((numbers.getD (at_).toNat default) % (kinds.length : Int))).toNat default).1
  let time2 : Int := ((numbers.getD ((at_ + (1 : Int))).toNat default) % (40 : Int))
  match (runE (m_law_coursen_l0 numbers at_ ways) (List.range ((many - (1 : Int))).toNat) (kind1, time2, [(time2, kind1)])) with | .error r => r | .ok zs0 => zs0.2.2
theorem sc_law_coursen : FnScope ["numbers", "at", "kinds", "ways", "many", "kind", "time", "course", "k", "choices", "way"] ["numbers", "at", "kinds", "ways", "many"] (defScope s_law_coursen) := ⟨rfl, rfl, rfl, by decide +kernel, rfl, by decide +kernel, by decide +kernel⟩
def sp_law_coursen : SpN := fun zcs zL zKc => ∃ numbers : List Int, ∃ at_ : Int, ∃ kinds : List (Str × Int × Int), ∃ ways : List (Str × Str × Int), ∃ many : Int, zcs = [.fr ((eL D.int) numbers), .fr (D.int at_), .fr ((eL (eT3 D.str D.int D.int)) kinds), .fr ((eL (eT3 D.str D.str D.int)) ways), .fr (D.int many)] ∧ zL = [] ∧ (0 ≤ at_ ∧ at_ + 15 ≤ numbers.length ∧ (∀ x ∈ numbers, 0 ≤ x ∧ x ≤ 1008) ∧ 0 < kinds.length ∧ kinds.length ≤ 8 ∧ ways.length ≤ 16 ∧ 0 ≤ many ∧ many ≤ 6) ∧ ∀ zn zL', getL zn zL' = some (.fl ((m_law_coursen numbers at_ kinds ways many).map (eT2 D.int D.str))) → zKc (.ad zn) zL'
theorem ok_law_coursen (T : TX P K mg) : FnOk P w K mg base CX0 1 T.a_law_coursen T.d_law_coursen ["numbers", "at", "kinds", "ways", "many"] (SpOf K mg sp_law_coursen) := by
  refine T.F_law_coursen.okN sc_law_coursen (fun zcs zL zKc zh => by obtain ⟨numbers, at_, kinds, ways, many, rfl, _⟩ := zh; rfl) fun zcdv zA zout zst zH zE zB zcs zL zKc zhr zh => ?_
  obtain ⟨numbers, at_, kinds, ways, many, rfl, rfl, hpre, zk⟩ := zh
  have nd := sc_law_coursen.nd
  have hSL := sizeLine_eq
  show Exs _ _ _ ⟨[some (.fr ((eL D.int) numbers)), some (.fr (D.int at_)), some (.fr ((eL (eT3 D.str D.int D.int)) kinds)), some (.fr ((eL (eT3 D.str D.str D.int)) ways)), some (.fr (D.int many)), none, none, none, none, none, none], []⟩ _
  refine exs_cons (ex_ifP bd_d (et_cmp o_eqi (ev_var 4 rfl (.inl rfl) rfl) ev_int (nomark _)) (fun (zh1 : (many = (0 : Int))) => ?_) (fun (zh1 : ¬ (many = (0 : Int))) => ?_))
  · skip
    refine exs_one (ex_ret (ev_lstN 100 (enc := (eT2 D.int D.str)) [] ea_nil rfl (by decide) (by simp [names]) (by decide)) ?_)
    have efin : m_law_coursen numbers at_ kinds ways many = ([] : List (Int × Str)) := by simp only [m_law_coursen, not_true_eq_false, not_false_eq_true, ↓reduceIte, ↓if_pos zh1]
    rw [efin] at zk
    exact zk 100 _ (by exact rfl)
  · skip
    refine exs_nil ?_
    show Exs _ _ _ ⟨[some (.fr ((eL D.int) numbers)), some (.fr (D.int at_)), some (.fr ((eL (eT3 D.str D.int D.int)) kinds)), some (.fr ((eL (eT3 D.str D.str D.int)) ways)), some (.fr (D.int many)), none, none, none, none, none, none], []⟩ _
    have hT : (0 : Int) < (kinds.length : Int) := by omega
    have hd := Int.emod_lt_of_pos (numbers.getD at_.toNat default) hT
    have he := Int.emod_nonneg (numbers.getD at_.toNat default) (show (kinds.length : Int) ≠ 0 by omega)
    refine exs_cons (ex_set 5 (ev_ix (.t (d := D.str ((kinds.getD (((numbers.getD (at_).toNat default) % (kinds.length : Int))).toNat default).1)) rfl) (ev_ix (ix_L (xs := kinds) (enc := (eT3 D.str D.int D.int)) (by exact rfl) (by walk_at "sd") (by walk_at "sd")) (ev_var 2 rfl (.inl rfl) rfl) (ev_bin (o_mod (by walk_at "sd")) (ev_ix (ix_L (xs := numbers) (enc := D.int) (by exact rfl) (by walk_at "sd") (by walk_at "sd")) (ev_var 0 rfl (.inl rfl) rfl) (ev_var 1 rfl (.inl rfl) rfl)) (ev_len (ln_L (xs := kinds) (enc := (eT3 D.str D.int D.int)) (by exact rfl)) (ev_var 2 rfl (.inl rfl) rfl) (by exact rfl) T.n_len))) ev_int) ?_ nd rfl (.inr rfl))
    show Exs _ _ _ ⟨[some (.fr ((eL D.int) numbers)), some (.fr (D.int at_)), some (.fr ((eL (eT3 D.str D.int D.int)) kinds)), some (.fr ((eL (eT3 D.str D.str D.int)) ways)), some (.fr (D.int many)), some (.fr (D.str ((kinds.getD (((numbers.getD (at_).toNat default) % (kinds.length : Int))).toNat default).1))), none, none, none, none, none], []⟩ _
    generalize zg_kind : (kinds.getD (((numbers.getD (at_).toNat default) % (kinds.length : Int))).toNat default).1 = kind
    show Exs _ _ _ ⟨[some (.fr ((eL D.int) numbers)), some (.fr (D.int at_)), some (.fr ((eL (eT3 D.str D.int D.int)) kinds)), some (.fr ((eL (eT3 D.str D.str D.int)) ways)), some (.fr (D.int many)), some (.fr (D.str kind)), none, none, none, none, none], []⟩ _
    refine exs_cons (ex_set 6 (ev_bin (o_mod (by walk_at "sd")) (ev_ix (ix_L (xs := numbers) (enc := D.int) (by exact rfl) (by walk_at "sd") (by walk_at "sd")) (ev_var 0 rfl (.inl rfl) rfl) (ev_bin o_add (ev_var 1 rfl (.inl rfl) rfl) ev_int)) ev_int) ?_ nd rfl (.inl rfl))
    show Exs _ _ _ ⟨[some (.fr ((eL D.int) numbers)), some (.fr (D.int at_)), some (.fr ((eL (eT3 D.str D.int D.int)) kinds)), some (.fr ((eL (eT3 D.str D.str D.int)) ways)), some (.fr (D.int many)), some (.fr (D.str kind)), some (.fr (D.int ((numbers.getD ((at_ + (1 : Int))).toNat default) % (40 : Int)))), none, none, none, none], []⟩ _
    generalize zg_time : ((numbers.getD ((at_ + (1 : Int))).toNat default) % (40 : Int)) = time
    show Exs _ _ _ ⟨[some (.fr ((eL D.int) numbers)), some (.fr (D.int at_)), some (.fr ((eL (eT3 D.str D.int D.int)) kinds)), some (.fr ((eL (eT3 D.str D.str D.int)) ways)), some (.fr (D.int many)), some (.fr (D.str kind)), some (.fr (D.int time)), none, none, none, none], []⟩ _
    refine exs_cons (ex_set 7 (ev_lstN 101 (enc := (eT2 D.int D.str)) [(time, kind)] (ea_cons (ev_tup (ds := [D.int time, D.str kind]) (ea_cons (ev_var 6 rfl (.inl rfl) rfl) (ea_cons (ev_var 5 rfl (.inr (.inl rfl)) rfl) ea_nil)) (by simp only [List.length_cons, List.length_nil]; decide)) ea_nil) rfl (by simp only [List.length_cons, List.length_nil]; decide) (by simp [names]) (by decide)) ?_ nd rfl (.inl rfl))
    show Exs _ _ _ ⟨[some (.fr ((eL D.int) numbers)), some (.fr (D.int at_)), some (.fr ((eL (eT3 D.str D.int D.int)) kinds)), some (.fr ((eL (eT3 D.str D.str D.int)) ways)), some (.fr (D.int many)), some (.fr (D.str kind)), some (.fr (D.int time)), some (.ad 101), none, none, none], [(101, .fl (([(time, kind)]).map (eT2 D.int D.str)))]⟩ _
    refine exs_cons (ex_forE (enc := (fun i : Nat => D.int ((0 : Int) + (i : Int)))) (fun (zs0 : Str × Int × (List (Int × Str))) => (⟨[some (.fr ((eL D.int) numbers)), some (.fr (D.int at_)), some (.fr ((eL (eT3 D.str D.int D.int)) kinds)), some (.fr ((eL (eT3 D.str D.str D.int)) ways)), some (.fr (D.int many)), some (.fr (D.str zs0.1)), some (.fr (D.int zs0.2.1)), some (.ad 101), none, none, none], [(101, .fl ((zs0.2.2).map (eT2 D.int D.str)))]⟩ : Nz.S)) (m_law_coursen_l0 numbers at_ ways) (kind, time, [(time, kind)]) (fun (zi0 : Nat) (zs0 : Str × Int × (List (Int × Str))) => zs0.2.2.length ≤ zi0 + 1) (fun r c S' => ∃ zn, c = .ad zn ∧ getL zn S'.L = some (.fl (r.map (eT2 D.int D.str)))) (src_range1 (ea_cons (ev_bin o_sub (ev_var 4 rfl (.inl rfl) rfl) ev_int) ea_nil) (by exact rfl) T.n_range (by walk_at "sd") (by walk_at "sd")) ⟨⟨.inr rfl, .inr rfl, .inr rfl, .inr rfl, .inr rfl, .inr rfl, .inr rfl, .inr rfl, .inl rfl, .inl rfl, .inl rfl, trivial⟩, rfl⟩ (by simp) ?_ ?_ ?_ PassesOwn.never rfl)
    · intro zi0 zy0 zs0 zhy0 zrun0 zq0
      skip
      have hy0 := seq_range zhy0
      have hi := (List.getElem?_eq_some_iff.mp zhy0).1
      simp only [List.length_range] at hi
      refine ⟨⟨[some (.fr ((eL D.int) numbers)), some (.fr (D.int at_)), some (.fr ((eL (eT3 D.str D.int D.int)) kinds)), some (.fr ((eL (eT3 D.str D.str D.int)) ways)), some (.fr (D.int many)), some (.fr (D.str zs0.1)), some (.fr (D.int zs0.2.1)), some (.ad 101), some (.fr (D.int ((0 : Int) + (zy0 : Int)))), none, none], [(101, .fl ((zs0.2.2).map (eT2 D.int D.str)))]⟩, (eg_name 8 nd rfl (.inl rfl)), ?_⟩
      refine exs_cons (ex_setLcF 9 (enc2 := (eT3 D.str D.str D.int)) 199 (fun zc2 : Str × Str × Int => zc2) (fun zc2 : Str × Str × Int => (decide (zc2.1 = zs0.1))) _ rfl nd rfl rfl (sw_true rfl rfl rfl (by decide +kernel)) (blkOk_by (N := ["numbers", "at", "kinds", "ways", "many", "kind", "time", "course", "k", "choices", "way"]) (sc := defScope s_law_coursen) (own := [(("way" : Str), 10)]) (by decide +kernel)) (src_listT (ev_var 3 rfl (.inl rfl) rfl)) (by simp [names]) (by decide) (by walk_at "sd") (fun _ zc2 _ zhyzc2 _ _ _ _ _ => (eg_nameC 10 nd rfl (.inl rfl) (by decide) (.inr rfl))) (fun _ zc2 _ zhyzc2 _ _ _ _ _ => (et_cmp o_eqs (ev_ix (.t (d := D.str zc2.1) rfl) (ev_var 10 rfl (.inl rfl) rfl) ev_int) (ev_var 5 rfl (.inr (.inl rfl)) rfl) (nomark _))) (fun _ zc2 _ zhyzc2 zhpzc2 _ _ _ _ _ => (ev_var 10 rfl (.inl rfl) rfl)) ?_)
      show Exs _ _ _ ⟨[some (.fr ((eL D.int) numbers)), some (.fr (D.int at_)), some (.fr ((eL (eT3 D.str D.int D.int)) kinds)), some (.fr ((eL (eT3 D.str D.str D.int)) ways)), some (.fr (D.int many)), some (.fr (D.str zs0.1)), some (.fr (D.int zs0.2.1)), some (.ad 101), some (.fr (D.int ((0 : Int) + (zy0 : Int)))), some (.fr ((eL (eT3 D.str D.str D.int)) ((ways.filter (fun zc2 : Str × Str × Int => (decide (zc2.1 = zs0.1)))).map (fun zc2 : Str × Str × Int => zc2)))), none], [(101, .fl ((zs0.2.2).map (eT2 D.int D.str)))]⟩ _
      generalize zg_choices : ((ways.filter (fun zc2 : Str × Str × Int => (decide (zc2.1 = zs0.1)))).map (fun zc2 : Str × Str × Int => zc2)) = choices
      show Exs _ _ _ ⟨[some (.fr ((eL D.int) numbers)), some (.fr (D.int at_)), some (.fr ((eL (eT3 D.str D.int D.int)) kinds)), some (.fr ((eL (eT3 D.str D.str D.int)) ways)), some (.fr (D.int many)), some (.fr (D.str zs0.1)), some (.fr (D.int zs0.2.1)), some (.ad 101), some (.fr (D.int ((0 : Int) + (zy0 : Int)))), some (.fr ((eL (eT3 D.str D.str D.int)) choices)), none], [(101, .fl ((zs0.2.2).map (eT2 D.int D.str)))]⟩ _
      refine exs_cons (ex_ifP bd_d (et_cmp o_eqi (ev_len (ln_L (xs := choices) (enc := (eT3 D.str D.str D.int)) (by exact rfl)) (ev_var 9 rfl (.inl rfl) rfl) (by exact rfl) T.n_len) ev_int (nomark _)) (fun (zh2 : ((choices.length : Int) = (0 : Int))) => ?_) (fun (zh2 : ¬ ((choices.length : Int) = (0 : Int))) => ?_))
      · skip
        refine exs_one (ex_ret (ev_var 7 rfl (.inl rfl) rfl) ?_)
        have est : (m_law_coursen_l0 numbers at_ ways) zs0 zy0 = .error zs0.2.2 := by subst zg_choices; simp only [m_law_coursen_l0, not_true_eq_false, not_false_eq_true, ↓reduceIte, ↓if_pos zh2]
        exact ⟨_, est, 101, rfl, by exact rfl⟩
      · skip
        refine exs_nil ?_
        show Exs _ _ _ ⟨[some (.fr ((eL D.int) numbers)), some (.fr (D.int at_)), some (.fr ((eL (eT3 D.str D.int D.int)) kinds)), some (.fr ((eL (eT3 D.str D.str D.int)) ways)), some (.fr (D.int many)), some (.fr (D.str zs0.1)), some (.fr (D.int zs0.2.1)), some (.ad 101), some (.fr (D.int ((0 : Int) + (zy0 : Int)))), some (.fr ((eL (eT3 D.str D.str D.int)) choices)), none], [(101, .fl ((zs0.2.2).map (eT2 D.int D.str)))]⟩ _
        have hTw : (0 : Int) < (choices.length : Int) := by omega
        have hdw := Int.emod_lt_of_pos (numbers.getD (at_ + 2 + 2 * (0 + (zy0 : Int))).toNat default) hTw
        have hew := Int.emod_nonneg (numbers.getD (at_ + 2 + 2 * (0 + (zy0 : Int))).toNat default) (show (choices.length : Int) ≠ 0 by omega)
        refine exs_cons (ex_set 10 (ev_ix (ix_L (xs := choices) (enc := (eT3 D.str D.str D.int)) (by exact rfl) (by walk_at "sd") (by walk_at "sd")) (ev_var 9 rfl (.inl rfl) rfl) (ev_bin (o_mod (by walk_at "sd")) (ev_ix (ix_L (xs := numbers) (enc := D.int) (by exact rfl) (by walk_at "sd") (by walk_at "sd")) (ev_var 0 rfl (.inl rfl) rfl) (ev_bin o_add (ev_bin o_add (ev_var 1 rfl (.inl rfl) rfl) ev_int) (ev_bin (o_mul (by walk_at "mul")) ev_int (ev_var 8 rfl (.inl rfl) rfl)))) (ev_len (ln_L (xs := choices) (enc := (eT3 D.str D.str D.int)) (by exact rfl)) (ev_var 9 rfl (.inl rfl) rfl) (by exact rfl) T.n_len))) ?_ nd rfl (.inl rfl))
        show Exs _ _ _ ⟨[some (.fr ((eL D.int) numbers)), some (.fr (D.int at_)), some (.fr ((eL (eT3 D.str D.int D.int)) kinds)), some (.fr ((eL (eT3 D.str D.str D.int)) ways)), some (.fr (D.int many)), some (.fr (D.str zs0.1)), some (.fr (D.int zs0.2.1)), some (.ad 101), some (.fr (D.int ((0 : Int) + (zy0 : Int)))), some (.fr ((eL (eT3 D.str D.str D.int)) choices)), some (.fr ((eT3 D.str D.str D.int) (choices.getD (((numbers.getD (((at_ + (2 : Int)) + ((2 : Int) * ((0 : Int) + (zy0 : Int))))).toNat default) % (choices.length : Int))).toNat default)))], [(101, .fl ((zs0.2.2).map (eT2 D.int D.str)))]⟩ _
        generalize zg_way : (choices.getD (((numbers.getD (((at_ + (2 : Int)) + ((2 : Int) * ((0 : Int) + (zy0 : Int))))).toNat default) % (choices.length : Int))).toNat default) = way
        show Exs _ _ _ ⟨[some (.fr ((eL D.int) numbers)), some (.fr (D.int at_)), some (.fr ((eL (eT3 D.str D.int D.int)) kinds)), some (.fr ((eL (eT3 D.str D.str D.int)) ways)), some (.fr (D.int many)), some (.fr (D.str zs0.1)), some (.fr (D.int zs0.2.1)), some (.ad 101), some (.fr (D.int ((0 : Int) + (zy0 : Int)))), some (.fr ((eL (eT3 D.str D.str D.int)) choices)), some (.fr ((eT3 D.str D.str D.int) way))], [(101, .fl ((zs0.2.2).map (eT2 D.int D.str)))]⟩ _
        refine exs_cons (ex_set 6 (ev_bin o_add (ev_bin o_add (ev_var 6 rfl (.inl rfl) rfl) (ev_ix (.t (d := D.int way.2.2) rfl) (ev_var 10 rfl (.inl rfl) rfl) ev_int)) (ev_callB (ds := [D.int (0 : Int), D.int (((numbers.getD (((at_ + (3 : Int)) + ((2 : Int) * ((0 : Int) + (zy0 : Int))))).toNat default) % (6 : Int)) - (3 : Int))]) (c_max2 rfl) (ea_cons ev_int (ea_cons (ev_bin o_sub (ev_bin (o_mod (by walk_at "sd")) (ev_ix (ix_L (xs := numbers) (enc := D.int) (by exact rfl) (by walk_at "sd") (by walk_at "sd")) (ev_var 0 rfl (.inl rfl) rfl) (ev_bin o_add (ev_bin o_add (ev_var 1 rfl (.inl rfl) rfl) ev_int) (ev_bin (o_mul (by walk_at "mul")) ev_int (ev_var 8 rfl (.inl rfl) rfl)))) ev_int) ev_int) ea_nil)) (by exact rfl) T.n_max (by decide +kernel))) ?_ nd rfl (.inl rfl))
        show Exs _ _ _ ⟨[some (.fr ((eL D.int) numbers)), some (.fr (D.int at_)), some (.fr ((eL (eT3 D.str D.int D.int)) kinds)), some (.fr ((eL (eT3 D.str D.str D.int)) ways)), some (.fr (D.int many)), some (.fr (D.str zs0.1)), some (.fr (D.int ((zs0.2.1 + way.2.2) + (if (((numbers.getD (((at_ + (3 : Int)) + ((2 : Int) * ((0 : Int) + (zy0 : Int))))).toNat default) % (6 : Int)) - (3 : Int)) > (0 : Int) then (((numbers.getD (((at_ + (3 : Int)) + ((2 : Int) * ((0 : Int) + (zy0 : Int))))).toNat default) % (6 : Int)) - (3 : Int)) else (0 : Int))))), some (.ad 101), some (.fr (D.int ((0 : Int) + (zy0 : Int)))), some (.fr ((eL (eT3 D.str D.str D.int)) choices)), some (.fr ((eT3 D.str D.str D.int) way))], [(101, .fl ((zs0.2.2).map (eT2 D.int D.str)))]⟩ _
        generalize zg_time1 : ((zs0.2.1 + way.2.2) + (if (((numbers.getD (((at_ + (3 : Int)) + ((2 : Int) * ((0 : Int) + (zy0 : Int))))).toNat default) % (6 : Int)) - (3 : Int)) > (0 : Int) then (((numbers.getD (((at_ + (3 : Int)) + ((2 : Int) * ((0 : Int) + (zy0 : Int))))).toNat default) % (6 : Int)) - (3 : Int)) else (0 : Int))) = time1
        show Exs _ _ _ ⟨[some (.fr ((eL D.int) numbers)), some (.fr (D.int at_)), some (.fr ((eL (eT3 D.str D.int D.int)) kinds)), some (.fr ((eL (eT3 D.str D.str D.int)) ways)), some (.fr (D.int many)), some (.fr (D.str zs0.1)), some (.fr (D.int time1)), some (.ad 101), some (.fr (D.int ((0 : Int) + (zy0 : Int)))), some (.fr ((eL (eT3 D.str D.str D.int)) choices)), some (.fr ((eT3 D.str D.str D.int) way))], [(101, .fl ((zs0.2.2).map (eT2 D.int D.str)))]⟩ _
        refine exs_cons (ex_set 5 (ev_ix (.t (d := D.str way.2.1) rfl) (ev_var 10 rfl (.inl rfl) rfl) ev_int) ?_ nd rfl (.inr rfl))
        show Exs _ _ _ ⟨[some (.fr ((eL D.int) numbers)), some (.fr (D.int at_)), some (.fr ((eL (eT3 D.str D.int D.int)) kinds)), some (.fr ((eL (eT3 D.str D.str D.int)) ways)), some (.fr (D.int many)), some (.fr (D.str way.2.1)), some (.fr (D.int time1)), some (.ad 101), some (.fr (D.int ((0 : Int) + (zy0 : Int)))), some (.fr ((eL (eT3 D.str D.str D.int)) choices)), some (.fr ((eT3 D.str D.str D.int) way))], [(101, .fl ((zs0.2.2).map (eT2 D.int D.str)))]⟩ _
        refine exs_one (ex_expr (ev_appendT (n := 101) (enc := (eT2 D.int D.str)) (xs := zs0.2.2) (xs0 := zs0.2.2) (time1, way.2.1) rfl rfl rfl (by walk_at "sd") (ev_var 7 rfl (.inl rfl) rfl) (ev_tup (ds := [D.int time1, D.str way.2.1]) (ea_cons (ev_var 6 rfl (.inl rfl) rfl) (ea_cons (ev_var 5 rfl (.inr (.inl rfl)) rfl) ea_nil)) (by simp only [List.length_cons, List.length_nil]; decide))) ?_)
        have est : (m_law_coursen_l0 numbers at_ ways) zs0 zy0 = .ok (way.2.1, time1, (zs0.2.2 ++ [(time1, way.2.1)])) := by subst zg_time1; subst zg_way; subst zg_choices; simp only [m_law_coursen_l0, not_true_eq_false, not_false_eq_true, ↓reduceIte, ↓if_neg zh2]
        exact ⟨_, est, ⟨⟨.inr rfl, .inr rfl, .inr rfl, .inr rfl, .inr rfl, .inr rfl, .inr rfl, .inr rfl, .inl rfl, .inl rfl, .inl rfl, trivial⟩, rfl⟩, (by simp; omega)⟩
    · rintro zr zc zS zrun0 ⟨zn, rfl, zhL⟩
      skip
      have zh3 := zrun0
      have efin : m_law_coursen numbers at_ kinds ways many = zr := by subst zg_time; subst zg_kind; simp only [m_law_coursen, not_true_eq_false, not_false_eq_true, ↓reduceIte, ↓if_neg zh1, ↓zh3]
      rw [efin] at zk
      exact zk _ _ zhL
    · intro zs0 zrun0 zq0
      have zh4 := zrun0
      show Exs _ _ _ ⟨[some (.fr ((eL D.int) numbers)), some (.fr (D.int at_)), some (.fr ((eL (eT3 D.str D.int D.int)) kinds)), some (.fr ((eL (eT3 D.str D.str D.int)) ways)), some (.fr (D.int many)), some (.fr (D.str zs0.1)), some (.fr (D.int zs0.2.1)), some (.ad 101), none, none, none], [(101, .fl ((zs0.2.2).map (eT2 D.int D.str)))]⟩ _
      refine exs_one (ex_ret (ev_var 7 rfl (.inl rfl) rfl) ?_)
      have efin : m_law_coursen numbers at_ kinds ways many = zs0.2.2 := by subst zg_time; subst zg_kind; simp only [m_law_coursen, not_true_eq_false, not_false_eq_true, ↓reduceIte, ↓if_neg zh1, ↓zh4]
      rw [efin] at zk
      exact zk 101 _ (by exact rfl)
def m_law_spoil (numbers : List Int) (at_ : Int) (courses : List (List (Int × Str))) : List (List (Int × Str)) :=
  let number1 : Int := ((numbers.getD (at_).toNat default) % (courses.length : Int))
  if (((courses.getD (number1).toNat default).length : Int) = (0 : Int)) then courses else let place1 : Int := ((numbers.getD ((at_ + (1 : Int))).toNat default) % ((courses.getD (number1).toNat default).length : Int))
  (if (((numbers.getD ((at_ + (2 : Int))).toNat default) % (2 : Int)) = (0 : Int)) then (courses.set (number1).toNat ((courses.getD (number1).toNat default).set (place1).toNat ((if ((((courses.getD (number1).toNat default).getD (place1).toNat default).1 - (1 : Int)) - ((numbers.getD ((at_ + (2 : Int))).toNat default) % (5 : Int))) > (0 : Int) then ((((courses.getD (number1).toNat default).getD (place1).toNat default).1 - (1 : Int)) - ((numbers.getD ((at_ + (2 : Int))).toNat default) % (5 : Int))) else (0 : Int)), ((courses.getD (number1).toNat default).getD (place1).toNat default).2))) else ((courses.set (number1).toNat ((courses.getD (number1).toNat default).set (place1).toNat (((courses.getD (number1).toNat default).getD (place1).toNat default).1, (((courses.getD (number1).toNat default).getD (place1).toNat default).2 ++ (Str.ofString "0000000000000"))))).set (number1).toNat (((courses.set (number1).toNat ((courses.getD (number1).toNat default).set (place1).toNat (((courses.getD (number1).toNat default).getD (place1).toNat default).1, (((courses.getD (number1).toNat default).getD (place1).toNat default).2 ++ (Str.ofString "0000000000000"))))).getD (number1).toNat default).set (place1).toNat ((((courses.set (number1).toNat ((courses.getD (number1).toNat default).set (place1).toNat (((courses.getD (number1).toNat default).getD (place1).toNat default).1, (((courses.getD (number1).toNat default).getD (place1).toNat default).2 ++ (Str.ofString "0000000000000"))))).getD (number1).toNat default).getD (place1).toNat default).1, ((Str.ofString "zz") ++ (cutS ((((courses.set (number1).toNat ((courses.getD (number1).toNat default).set (place1).toNat (((courses.getD (number1).toNat default).getD (place1).toNat default).1, (((courses.getD (number1).toNat default).getD (place1).toNat default).2 ++ (Str.ofString "0000000000000"))))).getD (number1).toNat default).getD (place1).toNat default).2) none (some (10 : Int))))))))
theorem cut10 (z : Str) : (cutS z none (some (10 : Int))).length ≤ 10 := by
  unfold cutS
  show (List.toArray _).size ≤ 10
  rw [List.size_toArray, List.length_take, List.length_drop, Array.length_toList, HT.sIx_none, show (10 : Int) = ((10 : Nat) : Int) from rfl, HT.sIx_nat]
  omega
theorem sp_get {τ : Type} [Inhabited τ] {xs : List (List τ)} {i j : Nat} {y : τ} (hi : i < xs.length) (hj : j < (xs.getD i default).length) : ((xs.set i ((xs.getD i default).set j y)).getD i default).getD j default = y := by
  rw [List.getD_eq_getElem?_getD (l := xs.set i _), List.getElem?_set_self hi]
  show ((xs.getD i default).set j y).getD j default = y
  rw [List.getD_eq_getElem?_getD, List.getElem?_set_self hj]; rfl
theorem sp_rowU {τ : Type} {xs : List (List τ)} {i j : Nat} {y : τ} : ((xs.set i ((xs.getD i default).set j y)).getD i default).length = (xs.getD i default).length := by
  by_cases hi : i < xs.length
  · rw [List.getD_eq_getElem?_getD, List.getElem?_set_self hi]
    show ((xs.getD i default).set j y).length = _
    rw [List.length_set]
  · rw [List.set_eq_of_length_le (by omega)]
set_option hygiene false in
local macro_rules | `(tactic| walk_at "sd") => `(tactic| first | (simp only [sp_rowU, List.length_set]; omega) | (rw [hl2]; dsimp only; first | omega | (rw [str_len_append]; omega)) | fail)
set_option hygiene false in
local macro_rules | `(tactic| walk_at "sdI") => `(tactic| first | (simp only [sp_rowU, List.length_set]; omega) | fail)
theorem sc_law_spoil : FnScope ["numbers", "at", "courses", "number", "course", "place"] ["numbers", "at", "courses"] (defScope s_law_spoil) := ⟨rfl, rfl, rfl, by decide +kernel, rfl, by decide +kernel, by decide +kernel⟩
def sp_law_spoil : SpN := fun zcs zL zKc => ∃ numbers : List Int, ∃ at_ : Int, ∃ courses : List (List (Int × Str)), zcs = [.fr ((eL D.int) numbers), .fr (D.int at_), .ad 0] ∧ zL = nest 0 1 (eT2 D.int D.str) courses ∧ (0 ≤ at_ ∧ at_ + 3 ≤ numbers.length ∧ 0 < courses.length ∧ courses.length ≤ 3 ∧ ∀ c ∈ courses, c.length ≤ 20 ∧ ∀ r ∈ c, r.2.length ≤ 12) ∧ zKc (.fr .non) (nest 0 1 (eT2 D.int D.str) (m_law_spoil numbers at_ courses))
theorem ok_law_spoil (T : TX P K mg) : FnOk P w K mg base CX0 1 T.a_law_spoil T.d_law_spoil ["numbers", "at", "courses"] (SpOf K mg sp_law_spoil) := by
  refine T.F_law_spoil.okN sc_law_spoil (fun zcs zL zKc zh => by obtain ⟨numbers, at_, courses, rfl, _⟩ := zh; rfl) fun zcdv zA zout zst zH zE zB zcs zL zKc zhr zh => ?_
  obtain ⟨numbers, at_, courses, rfl, rfl, hpre, zk⟩ := zh
  have nd := sc_law_spoil.nd
  have hSL := sizeLine_eq
  show Exs _ _ _ ⟨[some (.fr ((eL D.int) numbers)), some (.fr (D.int at_)), some (.ad 0), none, none, none], [] ++ nest 0 1 (eT2 D.int D.str) courses⟩ _
  refine exs_cons (ex_set 3 (ev_lendN (ρ' := [some (.fr ((eL D.int) numbers)), some (.fr (D.int at_)), some (.fr ((eL (eL (eT2 D.int D.str))) courses)), none, none, none]) (.cons .fr (.cons .fr (.cons (.cl rfl (boOf_nest rfl (by decide))) (.cons .no (.cons .no (.cons .no .nil)))))) (fun _ => (ev_bin (o_mod (by walk_at "sd")) (ev_ix (ix_L (xs := numbers) (enc := D.int) (by exact rfl) (by walk_at "sd") (by walk_at "sd")) (ev_var 0 rfl (.inl rfl) rfl) (ev_var 1 rfl (.inl rfl) rfl)) (ev_len (ln_L (xs := courses) (enc := (eL (eT2 D.int D.str))) (by exact rfl)) (ev_var 2 rfl (.inl rfl) rfl) (by exact rfl) T.n_len))) (nm_int.ok _)) ?_ nd rfl (.inl rfl))
  show Exs _ _ _ ⟨[some (.fr ((eL D.int) numbers)), some (.fr (D.int at_)), some (.ad 0), some (.fr (D.int ((numbers.getD (at_).toNat default) % (courses.length : Int)))), none, none], [] ++ nest 0 1 (eT2 D.int D.str) courses⟩ _
  generalize zg_number : ((numbers.getD (at_).toNat default) % (courses.length : Int)) = number
  show Exs _ _ _ ⟨[some (.fr ((eL D.int) numbers)), some (.fr (D.int at_)), some (.ad 0), some (.fr (D.int number)), none, none], [] ++ nest 0 1 (eT2 D.int D.str) courses⟩ _
  have hn0 : 0 ≤ number ∧ number < (courses.length : Int) := by rw [← zg_number]; exact ⟨Int.emod_nonneg _ (by omega), Int.emod_lt_of_pos _ (by omega)⟩
  have hrow := hpre.2.2.2.2 _ (getD_mm (xs := courses) (i := number.toNat) (by omega))
  refine exs_cons (ex_set 4 (ev_al (ev_var 2 rfl (.inl rfl) rfl) (ev_var 3 rfl (.inl rfl) rfl) rfl (by walk_at "sd") (by walk_at "sd")) ?_ nd rfl (.inl rfl))
  show Exs _ _ _ ⟨[some (.fr ((eL D.int) numbers)), some (.fr (D.int at_)), some (.ad 0), some (.fr (D.int number)), some (.ad (1 + (number).toNat)), none], [] ++ nest 0 1 (eT2 D.int D.str) courses⟩ _
  refine exs_cons (ex_ifP bd_d (et_lendN (ρ' := [some (.fr ((eL D.int) numbers)), some (.fr (D.int at_)), some (.fr ((eL (eL (eT2 D.int D.str))) courses)), some (.fr (D.int number)), some (.fr ((eL (eT2 D.int D.str)) (courses.getD (number).toNat default))), none]) (.cons .fr (.cons .fr (.cons (.cl rfl (boOf_nest rfl (by decide))) (.cons .fr (.cons (.fl (getL_al rfl (by decide) (by walk_at "sd") (by walk_at "sd"))) (.cons .no .nil)))))) (fun _ => (et_cmp o_eqi (ev_len (ln_L (xs := (courses.getD (number).toNat default)) (enc := (eT2 D.int D.str)) (by exact rfl)) (ev_var 4 rfl (.inl rfl) rfl) (by exact rfl) T.n_len) ev_int (nomark _)))) (fun (zh1 : (((courses.getD (number).toNat default).length : Int) = (0 : Int))) => ?_) (fun (zh1 : ¬ (((courses.getD (number).toNat default).length : Int) = (0 : Int))) => ?_))
  · skip
    refine exs_one (ex_ret ev_non ?_)
    have efin : m_law_spoil numbers at_ courses = courses := by subst zg_number; simp only [m_law_spoil, not_true_eq_false, not_false_eq_true, ↓reduceIte, ↓if_pos zh1]
    rw [efin] at zk
    exact zk
  · skip
    refine exs_nil ?_
    show Exs _ _ _ ⟨[some (.fr ((eL D.int) numbers)), some (.fr (D.int at_)), some (.ad 0), some (.fr (D.int number)), some (.ad (1 + (number).toNat)), none], [] ++ nest 0 1 (eT2 D.int D.str) courses⟩ _
    refine exs_cons (ex_set 5 (ev_lendN (ρ' := [some (.fr ((eL D.int) numbers)), some (.fr (D.int at_)), some (.fr ((eL (eL (eT2 D.int D.str))) courses)), some (.fr (D.int number)), some (.fr ((eL (eT2 D.int D.str)) (courses.getD (number).toNat default))), none]) (.cons .fr (.cons .fr (.cons (.cl rfl (boOf_nest rfl (by decide))) (.cons .fr (.cons (.fl (getL_al rfl (by decide) (by walk_at "sd") (by walk_at "sd"))) (.cons .no .nil)))))) (fun _ => (ev_bin (o_mod (by walk_at "sd")) (ev_ix (ix_L (xs := numbers) (enc := D.int) (by exact rfl) (by walk_at "sd") (by walk_at "sd")) (ev_var 0 rfl (.inl rfl) rfl) (ev_bin o_add (ev_var 1 rfl (.inl rfl) rfl) ev_int)) (ev_len (ln_L (xs := (courses.getD (number).toNat default)) (enc := (eT2 D.int D.str)) (by exact rfl)) (ev_var 4 rfl (.inl rfl) rfl) (by exact rfl) T.n_len))) (nm_int.ok _)) ?_ nd rfl (.inl rfl))
    show Exs _ _ _ ⟨[some (.fr ((eL D.int) numbers)), some (.fr (D.int at_)), some (.ad 0), some (.fr (D.int number)), some (.ad (1 + (number).toNat)), some (.fr (D.int ((numbers.getD ((at_ + (1 : Int))).toNat default) % ((courses.getD (number).toNat default).length : Int))))], [] ++ nest 0 1 (eT2 D.int D.str) courses⟩ _
    generalize zg_place : ((numbers.getD ((at_ + (1 : Int))).toNat default) % ((courses.getD (number).toNat default).length : Int)) = place
    show Exs _ _ _ ⟨[some (.fr ((eL D.int) numbers)), some (.fr (D.int at_)), some (.ad 0), some (.fr (D.int number)), some (.ad (1 + (number).toNat)), some (.fr (D.int place))], [] ++ nest 0 1 (eT2 D.int D.str) courses⟩ _
    have hp0 : 0 ≤ place ∧ place < ((courses.getD number.toNat default).length : Int) := by rw [← zg_place]; exact ⟨Int.emod_nonneg _ (by omega), Int.emod_lt_of_pos _ (by omega)⟩
    have hr12 := hrow.2 _ (getD_mm (xs := courses.getD number.toNat default) (i := place.toNat) (by omega))
    have hz13 : (Str.ofString "0000000000000").length = 13 := by decide
    have hz2 : (Str.ofString "zz").length = 2 := by decide
    refine exs_cons (ex_join ⟨[some (.fr ((eL D.int) numbers)), some (.fr (D.int at_)), some (.ad 0), some (.fr (D.int number)), some (.ad (1 + (number).toNat)), some (.fr (D.int place))], [] ++ nest 0 1 (eT2 D.int D.str) (if (((numbers.getD ((at_ + (2 : Int))).toNat default) % (2 : Int)) = (0 : Int)) then (courses.set (number).toNat ((courses.getD (number).toNat default).set (place).toNat ((if ((((courses.getD (number).toNat default).getD (place).toNat default).1 - (1 : Int)) - ((numbers.getD ((at_ + (2 : Int))).toNat default) % (5 : Int))) > (0 : Int) then ((((courses.getD (number).toNat default).getD (place).toNat default).1 - (1 : Int)) - ((numbers.getD ((at_ + (2 : Int))).toNat default) % (5 : Int))) else (0 : Int)), ((courses.getD (number).toNat default).getD (place).toNat default).2))) else ((courses.set (number).toNat ((courses.getD (number).toNat default).set (place).toNat (((courses.getD (number).toNat default).getD (place).toNat default).1, (((courses.getD (number).toNat default).getD (place).toNat default).2 ++ (Str.ofString "0000000000000"))))).set (number).toNat (((courses.set (number).toNat ((courses.getD (number).toNat default).set (place).toNat (((courses.getD (number).toNat default).getD (place).toNat default).1, (((courses.getD (number).toNat default).getD (place).toNat default).2 ++ (Str.ofString "0000000000000"))))).getD (number).toNat default).set (place).toNat ((((courses.set (number).toNat ((courses.getD (number).toNat default).set (place).toNat (((courses.getD (number).toNat default).getD (place).toNat default).1, (((courses.getD (number).toNat default).getD (place).toNat default).2 ++ (Str.ofString "0000000000000"))))).getD (number).toNat default).getD (place).toNat default).1, ((Str.ofString "zz") ++ (cutS ((((courses.set (number).toNat ((courses.getD (number).toNat default).set (place).toNat (((courses.getD (number).toNat default).getD (place).toNat default).1, (((courses.getD (number).toNat default).getD (place).toNat default).2 ++ (Str.ofString "0000000000000"))))).getD (number).toNat default).getD (place).toNat default).2) none (some (10 : Int))))))))⟩ (ex_ifP bd_d (et_cmp o_eqi (ev_bin (o_mod (by walk_at "sd")) (ev_ix (ix_L (xs := numbers) (enc := D.int) (by exact rfl) (by walk_at "sd") (by walk_at "sd")) (ev_var 0 rfl (.inl rfl) rfl) (ev_bin o_add (ev_var 1 rfl (.inl rfl) rfl) ev_int)) ev_int) ev_int (nomark _)) (fun (zh2 : (((numbers.getD ((at_ + (2 : Int))).toNat default) % (2 : Int)) = (0 : Int))) => ?_) (fun (zh2 : ¬ (((numbers.getD ((at_ + (2 : Int))).toNat default) % (2 : Int)) = (0 : Int))) => ?_)) ?_)
    · skip
      refine exs_one (ex_setAl (enc := (eT2 D.int D.str)) ((if ((((courses.getD (number).toNat default).getD (place).toNat default).1 - (1 : Int)) - ((numbers.getD ((at_ + (2 : Int))).toNat default) % (5 : Int))) > (0 : Int) then ((((courses.getD (number).toNat default).getD (place).toNat default).1 - (1 : Int)) - ((numbers.getD ((at_ + (2 : Int))).toNat default) % (5 : Int))) else (0 : Int)), ((courses.getD (number).toNat default).getD (place).toNat default).2) rfl rfl (by decide) (by walk_at "sd") (by walk_at "sdN") (by walk_at "sd") (by walk_at "sdI") (ev_lendN (ρ' := [some (.fr ((eL D.int) numbers)), some (.fr (D.int at_)), some (.fr ((eL (eL (eT2 D.int D.str))) courses)), some (.fr (D.int number)), some (.fr ((eL (eT2 D.int D.str)) (courses.getD (number).toNat default))), some (.fr (D.int place))]) (.cons .fr (.cons .fr (.cons (.cl rfl (boOf_nest rfl (by decide))) (.cons .fr (.cons (.fl (getL_al rfl (by decide) (by walk_at "sd") (by walk_at "sd"))) (.cons .fr .nil)))))) (fun _ => (ev_tup (ds := [D.int (if ((((courses.getD (number).toNat default).getD (place).toNat default).1 - (1 : Int)) - ((numbers.getD ((at_ + (2 : Int))).toNat default) % (5 : Int))) > (0 : Int) then ((((courses.getD (number).toNat default).getD (place).toNat default).1 - (1 : Int)) - ((numbers.getD ((at_ + (2 : Int))).toNat default) % (5 : Int))) else (0 : Int)), D.str (((courses.getD (number).toNat default).getD (place).toNat default).2)]) (ea_cons (ev_callB (ds := [D.int (0 : Int), D.int ((((courses.getD (number).toNat default).getD (place).toNat default).1 - (1 : Int)) - ((numbers.getD ((at_ + (2 : Int))).toNat default) % (5 : Int)))]) (c_max2 rfl) (ea_cons ev_int (ea_cons (ev_bin o_sub (ev_bin o_sub (ev_ix (.t (d := D.int (((courses.getD (number).toNat default).getD (place).toNat default).1)) rfl) (ev_ix (ix_L (xs := (courses.getD (number).toNat default)) (enc := (eT2 D.int D.str)) (by exact rfl) (by walk_at "sd") (by walk_at "sd")) (ev_var 4 rfl (.inl rfl) rfl) (ev_var 5 rfl (.inl rfl) rfl)) ev_int) ev_int) (ev_bin (o_mod (by walk_at "sd")) (ev_ix (ix_L (xs := numbers) (enc := D.int) (by exact rfl) (by walk_at "sd") (by walk_at "sd")) (ev_var 0 rfl (.inl rfl) rfl) (ev_bin o_add (ev_var 1 rfl (.inl rfl) rfl) ev_int)) ev_int)) ea_nil)) (by exact rfl) T.n_max (by decide +kernel)) (ea_cons (ev_ix (.t (d := D.str (((courses.getD (number).toNat default).getD (place).toNat default).2)) rfl) (ev_ix (ix_L (xs := (courses.getD (number).toNat default)) (enc := (eT2 D.int D.str)) (by exact rfl) (by walk_at "sd") (by walk_at "sd")) (ev_var 4 rfl (.inl rfl) rfl) (ev_var 5 rfl (.inl rfl) rfl)) ev_int) ea_nil)) (by simp only [List.length_cons, List.length_nil]; decide))) ((nm_T2 nm_int nm_str).ok _)) (ev_var 4 rfl (.inl rfl) rfl) (ev_var 5 rfl (.inl rfl) rfl) ?_)
      exact ⟨_, rfl, by simp only [if_pos zh2]; exact ⟨⟨.inr rfl, .inr rfl, .inr rfl, .inr rfl, .inr rfl, .inr rfl, trivial⟩, rfl⟩⟩
    · skip
      refine exs_cons (ex_setAl (enc := (eT2 D.int D.str)) (((courses.getD (number).toNat default).getD (place).toNat default).1, (((courses.getD (number).toNat default).getD (place).toNat default).2 ++ (Str.ofString "0000000000000"))) rfl rfl (by decide) (by walk_at "sd") (by walk_at "sdN") (by walk_at "sd") (by walk_at "sdI") (ev_lendN (ρ' := [some (.fr ((eL D.int) numbers)), some (.fr (D.int at_)), some (.fr ((eL (eL (eT2 D.int D.str))) courses)), some (.fr (D.int number)), some (.fr ((eL (eT2 D.int D.str)) (courses.getD (number).toNat default))), some (.fr (D.int place))]) (.cons .fr (.cons .fr (.cons (.cl rfl (boOf_nest rfl (by decide))) (.cons .fr (.cons (.fl (getL_al rfl (by decide) (by walk_at "sd") (by walk_at "sd"))) (.cons .fr .nil)))))) (fun _ => (ev_tup (ds := [D.int (((courses.getD (number).toNat default).getD (place).toNat default).1), D.str (((courses.getD (number).toNat default).getD (place).toNat default).2 ++ (Str.ofString "0000000000000"))]) (ea_cons (ev_ix (.t (d := D.int (((courses.getD (number).toNat default).getD (place).toNat default).1)) rfl) (ev_ix (ix_L (xs := (courses.getD (number).toNat default)) (enc := (eT2 D.int D.str)) (by exact rfl) (by walk_at "sd") (by walk_at "sd")) (ev_var 4 rfl (.inl rfl) rfl) (ev_var 5 rfl (.inl rfl) rfl)) ev_int) (ea_cons (ev_bin (o_adds (by walk_at "sd")) (ev_ix (.t (d := D.str (((courses.getD (number).toNat default).getD (place).toNat default).2)) rfl) (ev_ix (ix_L (xs := (courses.getD (number).toNat default)) (enc := (eT2 D.int D.str)) (by exact rfl) (by walk_at "sd") (by walk_at "sd")) (ev_var 4 rfl (.inl rfl) rfl) (ev_var 5 rfl (.inl rfl) rfl)) ev_int) ev_str) ea_nil)) (by simp only [List.length_cons, List.length_nil]; decide))) ((nm_T2 nm_int nm_str).ok _)) (ev_var 4 rfl (.inl rfl) rfl) (ev_var 5 rfl (.inl rfl) rfl) ?_)
      show Exs _ _ _ ⟨[some (.fr ((eL D.int) numbers)), some (.fr (D.int at_)), some (.ad 0), some (.fr (D.int number)), some (.ad (1 + (number).toNat)), some (.fr (D.int place))], [] ++ nest 0 1 (eT2 D.int D.str) (courses.set (number).toNat ((courses.getD (number).toNat default).set (place).toNat (((courses.getD (number).toNat default).getD (place).toNat default).1, (((courses.getD (number).toNat default).getD (place).toNat default).2 ++ (Str.ofString "0000000000000")))))⟩ _
      have hl2 := sp_get (xs := courses) (i := number.toNat) (j := place.toNat) (y := (((courses.getD number.toNat default).getD place.toNat default).1, ((courses.getD number.toNat default).getD place.toNat default).2 ++ Str.ofString "0000000000000")) (by omega) (by omega)
      have hl3 := cut10 (((courses.getD number.toNat default).getD place.toNat default).2 ++ Str.ofString "0000000000000")
      refine exs_one (ex_setAl (enc := (eT2 D.int D.str)) ((((courses.set (number).toNat ((courses.getD (number).toNat default).set (place).toNat (((courses.getD (number).toNat default).getD (place).toNat default).1, (((courses.getD (number).toNat default).getD (place).toNat default).2 ++ (Str.ofString "0000000000000"))))).getD (number).toNat default).getD (place).toNat default).1, ((Str.ofString "zz") ++ (cutS ((((courses.set (number).toNat ((courses.getD (number).toNat default).set (place).toNat (((courses.getD (number).toNat default).getD (place).toNat default).1, (((courses.getD (number).toNat default).getD (place).toNat default).2 ++ (Str.ofString "0000000000000"))))).getD (number).toNat default).getD (place).toNat default).2) none (some (10 : Int))))) rfl rfl (by decide) (by walk_at "sd") (by walk_at "sdN") (by walk_at "sd") (by walk_at "sdI") (ev_lendN (ρ' := [some (.fr ((eL D.int) numbers)), some (.fr (D.int at_)), some (.fr ((eL (eL (eT2 D.int D.str))) (courses.set (number).toNat ((courses.getD (number).toNat default).set (place).toNat (((courses.getD (number).toNat default).getD (place).toNat default).1, (((courses.getD (number).toNat default).getD (place).toNat default).2 ++ (Str.ofString "0000000000000"))))))), some (.fr (D.int number)), some (.fr ((eL (eT2 D.int D.str)) ((courses.set (number).toNat ((courses.getD (number).toNat default).set (place).toNat (((courses.getD (number).toNat default).getD (place).toNat default).1, (((courses.getD (number).toNat default).getD (place).toNat default).2 ++ (Str.ofString "0000000000000"))))).getD (number).toNat default))), some (.fr (D.int place))]) (.cons .fr (.cons .fr (.cons (.cl rfl (boOf_nest rfl (by decide))) (.cons .fr (.cons (.fl (getL_al rfl (by decide) (by walk_at "sd") (by walk_at "sd"))) (.cons .fr .nil)))))) (fun _ => (ev_tup (ds := [D.int ((((courses.set (number).toNat ((courses.getD (number).toNat default).set (place).toNat (((courses.getD (number).toNat default).getD (place).toNat default).1, (((courses.getD (number).toNat default).getD (place).toNat default).2 ++ (Str.ofString "0000000000000"))))).getD (number).toNat default).getD (place).toNat default).1), D.str ((Str.ofString "zz") ++ (cutS ((((courses.set (number).toNat ((courses.getD (number).toNat default).set (place).toNat (((courses.getD (number).toNat default).getD (place).toNat default).1, (((courses.getD (number).toNat default).getD (place).toNat default).2 ++ (Str.ofString "0000000000000"))))).getD (number).toNat default).getD (place).toNat default).2) none (some (10 : Int))))]) (ea_cons (ev_ix (.t (d := D.int ((((courses.set (number).toNat ((courses.getD (number).toNat default).set (place).toNat (((courses.getD (number).toNat default).getD (place).toNat default).1, (((courses.getD (number).toNat default).getD (place).toNat default).2 ++ (Str.ofString "0000000000000"))))).getD (number).toNat default).getD (place).toNat default).1)) rfl) (ev_ix (ix_L (xs := ((courses.set (number).toNat ((courses.getD (number).toNat default).set (place).toNat (((courses.getD (number).toNat default).getD (place).toNat default).1, (((courses.getD (number).toNat default).getD (place).toNat default).2 ++ (Str.ofString "0000000000000"))))).getD (number).toNat default)) (enc := (eT2 D.int D.str)) (by exact rfl) (by walk_at "sd") (by walk_at "sd")) (ev_var 4 rfl (.inl rfl) rfl) (ev_var 5 rfl (.inl rfl) rfl)) ev_int) (ea_cons (ev_bin (o_adds (by walk_at "sd")) ev_str (ev_sliceS (ev_ix (.t (d := D.str ((((courses.set (number).toNat ((courses.getD (number).toNat default).set (place).toNat (((courses.getD (number).toNat default).getD (place).toNat default).1, (((courses.getD (number).toNat default).getD (place).toNat default).2 ++ (Str.ofString "0000000000000"))))).getD (number).toNat default).getD (place).toNat default).2)) rfl) (ev_ix (ix_L (xs := ((courses.set (number).toNat ((courses.getD (number).toNat default).set (place).toNat (((courses.getD (number).toNat default).getD (place).toNat default).1, (((courses.getD (number).toNat default).getD (place).toNat default).2 ++ (Str.ofString "0000000000000"))))).getD (number).toNat default)) (enc := (eT2 D.int D.str)) (by exact rfl) (by walk_at "sd") (by walk_at "sd")) (ev_var 4 rfl (.inl rfl) rfl) (ev_var 5 rfl (.inl rfl) rfl)) ev_int) eo_none (eo_some ev_int) (by walk_at "sd"))) ea_nil)) (by simp only [List.length_cons, List.length_nil]; decide))) ((nm_T2 nm_int nm_str).ok _)) (ev_var 4 rfl (.inl rfl) rfl) (ev_var 5 rfl (.inl rfl) rfl) ?_)
      exact ⟨_, rfl, by simp only [if_neg zh2]; exact ⟨⟨.inr rfl, .inr rfl, .inr rfl, .inr rfl, .inr rfl, .inr rfl, trivial⟩, rfl⟩⟩
    · skip
      show Exs _ _ _ ⟨[some (.fr ((eL D.int) numbers)), some (.fr (D.int at_)), some (.ad 0), some (.fr (D.int number)), some (.ad (1 + (number).toNat)), some (.fr (D.int place))], [] ++ nest 0 1 (eT2 D.int D.str) (if (((numbers.getD ((at_ + (2 : Int))).toNat default) % (2 : Int)) = (0 : Int)) then (courses.set (number).toNat ((courses.getD (number).toNat default).set (place).toNat ((if ((((courses.getD (number).toNat default).getD (place).toNat default).1 - (1 : Int)) - ((numbers.getD ((at_ + (2 : Int))).toNat default) % (5 : Int))) > (0 : Int) then ((((courses.getD (number).toNat default).getD (place).toNat default).1 - (1 : Int)) - ((numbers.getD ((at_ + (2 : Int))).toNat default) % (5 : Int))) else (0 : Int)), ((courses.getD (number).toNat default).getD (place).toNat default).2))) else ((courses.set (number).toNat ((courses.getD (number).toNat default).set (place).toNat (((courses.getD (number).toNat default).getD (place).toNat default).1, (((courses.getD (number).toNat default).getD (place).toNat default).2 ++ (Str.ofString "0000000000000"))))).set (number).toNat (((courses.set (number).toNat ((courses.getD (number).toNat default).set (place).toNat (((courses.getD (number).toNat default).getD (place).toNat default).1, (((courses.getD (number).toNat default).getD (place).toNat default).2 ++ (Str.ofString "0000000000000"))))).getD (number).toNat default).set (place).toNat ((((courses.set (number).toNat ((courses.getD (number).toNat default).set (place).toNat (((courses.getD (number).toNat default).getD (place).toNat default).1, (((courses.getD (number).toNat default).getD (place).toNat default).2 ++ (Str.ofString "0000000000000"))))).getD (number).toNat default).getD (place).toNat default).1, ((Str.ofString "zz") ++ (cutS ((((courses.set (number).toNat ((courses.getD (number).toNat default).set (place).toNat (((courses.getD (number).toNat default).getD (place).toNat default).1, (((courses.getD (number).toNat default).getD (place).toNat default).2 ++ (Str.ofString "0000000000000"))))).getD (number).toNat default).getD (place).toNat default).2) none (some (10 : Int))))))))⟩ _
      generalize zg_courses1 : (if (((numbers.getD ((at_ + (2 : Int))).toNat default) % (2 : Int)) = (0 : Int)) then (courses.set (number).toNat ((courses.getD (number).toNat default).set (place).toNat ((if ((((courses.getD (number).toNat default).getD (place).toNat default).1 - (1 : Int)) - ((numbers.getD ((at_ + (2 : Int))).toNat default) % (5 : Int))) > (0 : Int) then ((((courses.getD (number).toNat default).getD (place).toNat default).1 - (1 : Int)) - ((numbers.getD ((at_ + (2 : Int))).toNat default) % (5 : Int))) else (0 : Int)), ((courses.getD (number).toNat default).getD (place).toNat default).2))) else ((courses.set (number).toNat ((courses.getD (number).toNat default).set (place).toNat (((courses.getD (number).toNat default).getD (place).toNat default).1, (((courses.getD (number).toNat default).getD (place).toNat default).2 ++ (Str.ofString "0000000000000"))))).set (number).toNat (((courses.set (number).toNat ((courses.getD (number).toNat default).set (place).toNat (((courses.getD (number).toNat default).getD (place).toNat default).1, (((courses.getD (number).toNat default).getD (place).toNat default).2 ++ (Str.ofString "0000000000000"))))).getD (number).toNat default).set (place).toNat ((((courses.set (number).toNat ((courses.getD (number).toNat default).set (place).toNat (((courses.getD (number).toNat default).getD (place).toNat default).1, (((courses.getD (number).toNat default).getD (place).toNat default).2 ++ (Str.ofString "0000000000000"))))).getD (number).toNat default).getD (place).toNat default).1, ((Str.ofString "zz") ++ (cutS ((((courses.set (number).toNat ((courses.getD (number).toNat default).set (place).toNat (((courses.getD (number).toNat default).getD (place).toNat default).1, (((courses.getD (number).toNat default).getD (place).toNat default).2 ++ (Str.ofString "0000000000000"))))).getD (number).toNat default).getD (place).toNat default).2) none (some (10 : Int)))))))) = courses1
      show Exs _ _ _ ⟨[some (.fr ((eL D.int) numbers)), some (.fr (D.int at_)), some (.ad 0), some (.fr (D.int number)), some (.ad (1 + (number).toNat)), some (.fr (D.int place))], [] ++ nest 0 1 (eT2 D.int D.str) courses1⟩ _
      show Exs _ _ _ ⟨[some (.fr ((eL D.int) numbers)), some (.fr (D.int at_)), some (.ad 0), some (.fr (D.int number)), some (.ad (1 + (number).toNat)), some (.fr (D.int place))], [] ++ nest 0 1 (eT2 D.int D.str) courses1⟩ _
      generalize zg_course : (courses1.getD (number).toNat default) = course
      show Exs _ _ _ ⟨[some (.fr ((eL D.int) numbers)), some (.fr (D.int at_)), some (.ad 0), some (.fr (D.int number)), some (.ad (1 + (number).toNat)), some (.fr (D.int place))], [] ++ nest 0 1 (eT2 D.int D.str) courses1⟩ _
      refine exs_one (ex_ret ev_non ?_)
      have efin : m_law_spoil numbers at_ courses = courses1 := by subst zg_course; subst zg_courses1; subst zg_place; subst zg_number; simp only [m_law_spoil, not_true_eq_false, not_false_eq_true, ↓reduceIte, ↓if_neg zh1]
      rw [efin] at zk
      exact zk
def m_law_l0 (numbers : List Int) (zs0 : (List ((List (Str × Int × Int)) × (List (Str × Str × Int)))) × (List Task) × (List (List (Int × Str)))) (zy0 : Nat) : (List ((List (Str × Int × Int)) × (List (Str × Str × Int)))) × (List Task) × (List (List (Int × Str))) :=
  let kinds : List (Str × Int × Int) := (m_law_kinds numbers ((82 : Int) * ((0 : Int) + (zy0 : Int))))
  let ways : List (Str × Str × Int) := (m_law_ways numbers (((82 : Int) * ((0 : Int) + (zy0 : Int))) + (18 : Int)) kinds)
  ((zs0.1 ++ [(kinds, ways)]), (zs0.2.1 ++ [(m_Task_init__ ((Str.ofString "t") ++ (Str.ofString (toString ((0 : Int) + (zy0 : Int))))) kinds ways)]), (zs0.2.2 ++ [(m_law_coursen numbers (((82 : Int) * ((0 : Int) + (zy0 : Int))) + (67 : Int)) kinds ways ((numbers.getD ((((82 : Int) * ((0 : Int) + (zy0 : Int))) + (81 : Int))).toNat default) % (7 : Int)))]))
def m_law_l1 (numbers : List Int) (zs0 : (List (List (Int × Str)))) (zy0 : Nat) : (List (List (Int × Str))) :=
  (m_law_spoil numbers ((250 : Int) + ((3 : Int) * ((0 : Int) + (zy0 : Int)))) zs0)
def m_law (script : List Int) : Bool :=
  let numbers1 : List Int := (m_law_numbers script (260 : Int))
  let fault1 : Option (Int × Int) := (m_law_fault (((List.range (((1 : Int) + ((numbers1.getD ((259 : Int)).toNat default) % (3 : Int)))).toNat).foldl (m_law_l0 numbers1) (([] : List ((List (Str × Int × Int)) × (List (Str × Str × Int)))), ([] : List Task), ([] : List (List (Int × Str))))).1) ((List.range (((numbers1.getD ((258 : Int)).toNat default) % (3 : Int))).toNat).foldl (m_law_l1 numbers1) ((List.range (((1 : Int) + ((numbers1.getD ((259 : Int)).toNat default) % (3 : Int)))).toNat).foldl (m_law_l0 numbers1) (([] : List ((List (Str × Int × Int)) × (List (Str × Str × Int)))), ([] : List Task), ([] : List (List (Int × Str))))).2.2))
  let system1 : System := (m_System_init__ (((List.range (((1 : Int) + ((numbers1.getD ((259 : Int)).toNat default) % (3 : Int)))).toNat).foldl (m_law_l0 numbers1) (([] : List ((List (Str × Int × Int)) × (List (Str × Str × Int)))), ([] : List Task), ([] : List (List (Int × Str))))).2.1) [(1 : Int)])
  let passed1 : List (List (Int × Str)) := (((List.range (((numbers1.getD ((258 : Int)).toNat default) % (3 : Int))).toNat).foldl (m_law_l1 numbers1) ((List.range (((1 : Int) + ((numbers1.getD ((259 : Int)).toNat default) % (3 : Int)))).toNat).foldl (m_law_l0 numbers1) (([] : List ((List (Str × Int × Int)) × (List (Str × Str × Int)))), ([] : List Task), ([] : List (List (Int × Str))))).2.2).map (fun zc2 : List (Int × Str) => zc2))
  match (m_check_releasesx system1 passed1) with | none => (let actual : Unit := (m_check_releases system1 passed1); ((fault1.isNone) && (((none : Option Int).isNone) && (decide (passed1 = ((List.range (((numbers1.getD ((258 : Int)).toNat default) % (3 : Int))).toNat).foldl (m_law_l1 numbers1) ((List.range (((1 : Int) + ((numbers1.getD ((259 : Int)).toNat default) % (3 : Int)))).toNat).foldl (m_law_l0 numbers1) (([] : List ((List (Str × Int × Int)) × (List (Str × Str × Int)))), ([] : List Task), ([] : List (List (Int × Str))))).2.2)))))) | some zx => (if ((fault1.isNone = true) ∨ ((¬ (true = true)) ∨ (¬ (true = true)))) then false else if ((false = true) ∨ ((false = true) ∨ (false = true))) then false else ((decide ((some ((exI zx "task_number"), (exI zx "release_number"))) = fault1)) && (decide (passed1 = ((List.range (((numbers1.getD ((258 : Int)).toNat default) % (3 : Int))).toNat).foldl (m_law_l1 numbers1) ((List.range (((1 : Int) + ((numbers1.getD ((259 : Int)).toNat default) % (3 : Int)))).toNat).foldl (m_law_l0 numbers1) (([] : List ((List (Str × Int × Int)) × (List (Str × Str × Int)))), ([] : List Task), ([] : List (List (Int × Str))))).2.2)))))
theorem getD_mem {τ : Type} [Inhabited τ] {xs : List τ} {i : Nat} (h : i < xs.length) : xs.getD i default ∈ xs := by
  rw [List.getD_eq_getElem?_getD, List.getElem?_eq_getElem h]; exact List.getElem_mem h
theorem modi {τ : Type} {xs : List τ} (h : 0 < xs.length) (x : Int) : (x % (xs.length : Int)).toNat < xs.length := by
  have := Int.emod_lt_of_pos x (show (0 : Int) < (xs.length : Int) by omega)
  have := Int.emod_nonneg x (show (xs.length : Int) ≠ 0 by omega)
  omega
theorem init_eq {name : Str} {kinds : List (Str × Int × Int)} {ways : List (Str × Str × Int)} (h1 : m_is_name name = true) (h2 : m_are_kinds kinds = true) (h3 : m_are_ways ways kinds = true) : m_Task_init__ name kinds ways = { name := name, kinds := kinds, ways := ways } := by
  unfold m_Task_init__
  rw [if_neg (fun q => q h1), if_neg (fun q => q h2), if_neg (fun q => q h3)]
def wayOf (numbers : List Int) (at_ : Int) (kinds : List (Str × Int × Int)) (y : Nat) : Str × Str × Int :=
  ((kinds.getD ((numbers.getD (at_ + 1 + 3 * (0 + (y : Int))).toNat default) % (kinds.length : Int)).toNat default).1,
   (kinds.getD ((numbers.getD (at_ + 2 + 3 * (0 + (y : Int))).toNat default) % (kinds.length : Int)).toNat default).1,
   if (numbers.getD at_.toNat default) % 7 = 0 then 1 + (numbers.getD (at_ + 3 + 3 * (0 + (y : Int))).toNat default) % 1000 else 1 + (numbers.getD (at_ + 3 + 3 * (0 + (y : Int))).toNat default) % 6)
theorem ways_facts (numbers : List Int) (at_ : Int) (kinds : List (Str × Int × Int)) (h0 : 0 ≤ at_) (h : ∀ x ∈ numbers, 0 ≤ x ∧ x ≤ 1008) (hk : 0 < kinds.length) : m_are_ways (m_law_ways numbers at_ kinds) kinds = true ∧ (m_law_ways numbers at_ kinds).length ≤ 16 := by
  have key : ∃ n : Nat, n ≤ 16 ∧ m_law_ways numbers at_ kinds = (List.range n).map (wayOf numbers at_ kinds) := by
    unfold m_law_ways
    dsimp only
    have hb0 := getD_bound h at_.toNat
    have ef : ∀ ys : List Nat, ys.foldl (m_law_ways_l0 numbers at_ kinds) [] = ys.map (wayOf numbers at_ kinds) := fun ys => by
      rw [fold_snoc (wayOf numbers at_ kinds) (m_law_ways_l0 numbers at_ kinds) (fun s y => rfl), List.nil_append]
    exact ⟨_, by split <;> omega, ef (List.range (if numbers.getD at_.toNat default / 5 % 4 = 0 then numbers.getD at_.toNat default / 20 % 17 else numbers.getD at_.toNat default % 5).toNat)⟩
  obtain ⟨n, hn, e⟩ := key
  rw [e]
  have hmem : ∀ x : Int, (kinds.getD (x % (kinds.length : Int)).toNat default).1 ∈ kinds.map (fun zc3 : Str × Int × Int => zc3.1) := fun x =>
    List.mem_map.mpr ⟨_, getD_mem (by have := Int.emod_lt_of_pos x (show (0 : Int) < (kinds.length : Int) by omega); have := Int.emod_nonneg x (show (kinds.length : Int) ≠ 0 by omega); omega), rfl⟩
  refine ⟨?_, by rw [List.length_map, List.length_range]; exact hn⟩
  unfold m_are_ways
  rw [if_neg (by rw [List.length_map, List.length_range]; omega), List.all_eq_true]
  intro b hb
  obtain ⟨w, hw, rfl⟩ := List.mem_map.mp hb
  obtain ⟨y, _, rfl⟩ := List.mem_map.mp hw
  unfold m_is_way m_is_integer
  rw [if_neg (by rintro (q | q) <;> exact q rfl)]
  have b3 : 1 ≤ (wayOf numbers at_ kinds y).2.2 ∧ (wayOf numbers at_ kinds y).2.2 ≤ 1000 := by unfold wayOf; dsimp only; split <;> omega
  rw [decide_eq_true (show (wayOf numbers at_ kinds y).1 ∈ _ from hmem _), decide_eq_true (show (wayOf numbers at_ kinds y).2.1 ∈ _ from hmem _), decide_eq_true b3.1, decide_eq_true b3.2]
  rfl
def ALPH : Str := Str.ofString "abcdefghijklmnopqrstuvwxyz0123456789"
def Good (z : Str) : Prop := ∀ c ∈ z.cps.toList, ∃ i : Nat, i < 36 ∧ (⟨#[c]⟩ : Str) = chA ALPH (i : Int)
theorem good_app {a b : Str} (h1 : Good a) (h2 : Good b) : Good (a ++ b) := fun c hc => by
  rw [cs_append] at hc
  rcases List.mem_append.mp hc with q | q
  · exact h1 c q
  · exact h2 c q
theorem good_cut {z : Str} (h : Good z) (a b : Option Int) : Good (cutS z a b) := fun c hc => by
  unfold cutS at hc
  exact h c (List.mem_of_mem_drop (List.mem_of_mem_take (by simpa using hc)))
theorem good_ch (i : Int) (h0 : 0 ≤ i) (h1 : i < 36) : Good (chA ALPH i) := fun c hc => by
  have e : c = ALPH.cps.toList.getD i.toNat 0 := by unfold chA at hc; simpa using hc
  exact ⟨i.toNat, by omega, by rw [e, Int.toNat_of_nonneg h0]; rfl⟩
theorem good_join {ys : List Str} (h : ∀ y ∈ ys, Good y) : Good (Txt.join (Str.ofString "") ys) := fun c hc => by
  rw [cs_join0] at hc
  obtain ⟨l, hl, hcl⟩ := List.mem_flatten.mp hc
  obtain ⟨y, hy, rfl⟩ := List.mem_map.mp hl
  exact h y hy c hcl
theorem alph_in : ∀ i : Fin 36, inS (chA ALPH (i.val : Int)) ALPH = true := by decide +kernel
theorem alph_inj : ∀ i j : Fin 36, ALPH.cps.toList.getD i.val 0 = ALPH.cps.toList.getD j.val 0 → i = j := by decide +kernel
theorem good_name {z : Str} (h : Good z) (h1 : 1 ≤ z.length) (h2 : z.length ≤ 12) : m_is_name z = true := by
  unfold m_is_name
  rw [if_neg (by rintro (q | q); exact q rfl; exact q ⟨by omega, by omega⟩), List.all_eq_true]
  intro b hb
  obtain ⟨c, hc, rfl⟩ := List.mem_map.mp hb
  obtain ⟨n, hn, rfl⟩ := List.mem_map.mp hc
  obtain ⟨i, hi, e⟩ := h n hn
  rw [e]
  exact alph_in ⟨i, hi⟩
theorem cut_two (z : Str) (p : Int) (hp : 0 ≤ p) : (cutS z none (some p)).length + (cutS z (some p) none).length = z.length := by
  obtain ⟨n, rfl⟩ := Int.eq_ofNat_of_zero_le hp
  unfold cutS
  show (List.toArray _).size + (List.toArray _).size = z.cps.size
  rw [List.size_toArray, List.size_toArray, List.length_take, List.length_take, List.length_drop, List.length_drop, Array.length_toList, HT.sIx_none, HT.sIx_none, HT.sIx_nat, HT.sIx_nat]
  have : z.length = z.cps.size := rfl
  omega
def nameOf (A B : Str) (number : Int) (k : Nat) : Str := (A ++ chA ALPH ((number + 5 * (0 + (k : Int))) % 36)) ++ B
theorem names_shape (number many : Int) (h0 : 0 ≤ number) (h1 : 0 ≤ many) : ∃ A B : Str, Good A ∧ Good B ∧ A.length + B.length ≤ 11 ∧ m_law_names number many = (List.range many.toNat).map (nameOf A B number) := by
  unfold m_law_names
  dsimp only
  generalize hr : Txt.join (Str.ofString "") ((List.range (number % 12).toNat).map _) = rest
  have gr : Good rest := by
    rw [← hr]
    refine good_join fun y hy => ?_
    obtain ⟨i, _, rfl⟩ := List.mem_map.mp hy
    exact good_ch _ (by omega) (by omega)
  have lr : rest.length ≤ 11 := by
    rw [← hr, join0_len, List.length_map, List.length_range]
    · omega
    · intro y hy; obtain ⟨i, _, rfl⟩ := List.mem_map.mp hy; rfl
  have hp : 0 ≤ number / 12 % (number % 12 + 1) := Int.emod_nonneg _ (by omega)
  have h2 := cut_two rest _ hp
  exact ⟨_, _, good_cut gr _ _, good_cut gr _ _, by omega, rfl⟩
theorem nameOf_len (A B : Str) (number : Int) (k : Nat) : (nameOf A B number k).length = A.length + B.length + 1 := by
  unfold nameOf
  rw [str_len_append, str_len_append, chA_len]; omega
theorem nameOf_inj {A B : Str} {number : Int} {a b : Nat} (ha : a < 8) (hb : b < 8) (h : nameOf A B number a = nameOf A B number b) : a = b := by
  have e := congrArg (fun z : Str => z.cps.toList) h
  unfold nameOf at e
  rw [cs_append, cs_append, cs_append, cs_append] at e
  have e2 := List.append_cancel_left (List.append_cancel_right e)
  unfold chA at e2
  have e3 : ALPH.cps.toList.getD ((number + 5 * (0 + (a : Int))) % 36).toNat 0 = ALPH.cps.toList.getD ((number + 5 * (0 + (b : Int))) % 36).toNat 0 := by simpa using e2
  have e4 := alph_inj ⟨((number + 5 * (0 + (a : Int))) % 36).toNat, by omega⟩ ⟨((number + 5 * (0 + (b : Int))) % 36).toNat, by omega⟩ e3
  have e5 := congrArg Fin.val e4
  dsimp only at e5
  omega
def kindOf (numbers : List Int) (at_ : Int) (names_ : List Str) (y : Nat) : Str × Int × Int :=
  (names_.getD (0 + (y : Int)).toNat default,
   (if (numbers.getD at_.toNat default) % 5 = 0 then 1 + (numbers.getD (at_ + 2 + 2 * (0 + (y : Int))).toNat default) % 1000 else 1 + (numbers.getD (at_ + 2 + 2 * (0 + (y : Int))).toNat default) % 4),
   (if (numbers.getD at_.toNat default) % 5 = 0 then 1 + (numbers.getD (at_ + 3 + 2 * (0 + (y : Int))).toNat default) % 1000 else 1 + (numbers.getD (at_ + 3 + 2 * (0 + (y : Int))).toNat default) % 9))
theorem kinds_facts (numbers : List Int) (at_ : Int) (h0 : 0 ≤ at_) (h : ∀ x ∈ numbers, 0 ≤ x ∧ x ≤ 1008) : m_are_kinds (m_law_kinds numbers at_) = true ∧ (m_law_kinds numbers at_).length ≤ 8 ∧ 1 ≤ (m_law_kinds numbers at_).length ∧ ∀ k ∈ m_law_kinds numbers at_, k.1.length ≤ 1000 := by
  have key : ∃ (n : Nat) (A B : Str) (number : Int), 1 ≤ n ∧ n ≤ 8 ∧ Good A ∧ Good B ∧ A.length + B.length ≤ 11 ∧ m_law_kinds numbers at_ = (List.range n).map (kindOf numbers at_ ((List.range n).map (nameOf A B number))) := by
    unfold m_law_kinds
    dsimp only
    have hb0 := getD_bound h at_.toNat
    have hb1 := getD_bound h (at_ + 1).toNat
    generalize hm : (if numbers.getD at_.toNat default / 3 % 4 = 0 then 1 + numbers.getD at_.toNat default / 12 % 8 else 1 + numbers.getD at_.toNat default % 3) = many
    have hm2 : 1 ≤ many ∧ many ≤ 8 := by rw [← hm]; split <;> omega
    obtain ⟨A, B, g1, g2, g3, e⟩ := names_shape (numbers.getD (at_ + 1).toNat default) many hb1.1 (by omega)
    rw [e]
    have ef : ∀ (nm : List Str) (ys : List Nat), ys.foldl (m_law_kinds_l0 numbers at_ nm) [] = ys.map (kindOf numbers at_ nm) := fun nm ys => by
      rw [fold_snoc (kindOf numbers at_ nm) (m_law_kinds_l0 numbers at_ nm) (fun s y => rfl), List.nil_append]
    exact ⟨many.toNat, A, B, _, by omega, by omega, g1, g2, g3, ef _ _⟩
  obtain ⟨n, A, B, number, n1, n8, g1, g2, g3, e⟩ := key
  have nm : ∀ y, y < n → (kindOf numbers at_ ((List.range n).map (nameOf A B number)) y).1 = nameOf A B number y := fun y hy => by
    unfold kindOf
    dsimp only
    rw [Int.zero_add, Int.toNat_natCast, List.getD_eq_getElem?_getD, List.getElem?_map, List.getElem?_range hy]; rfl
  have el : (m_law_kinds numbers at_).length = n := by rw [e, List.length_map, List.length_range]
  have en : (m_law_kinds numbers at_).map (fun z : Str × Int × Int => z.1) = (List.range n).map (nameOf A B number) := by
    rw [e, List.map_map]
    exact List.map_congr_left fun y hy => nm y (List.mem_range.mp hy)
  have gn : ∀ y, Good (nameOf A B number y) := fun y => good_app (good_app g1 (good_ch _ (by omega) (by omega))) g2
  have nd : ((List.range n).map (nameOf A B number)).Nodup := by
    unfold List.Nodup
    rw [List.pairwise_map]
    exact List.Pairwise.imp_of_mem (fun ha hb hne q => hne (nameOf_inj (by have := List.mem_range.mp ha; omega) (by have := List.mem_range.mp hb; omega) q)) (List.nodup_range (n := n))
  refine ⟨?_, by omega, by omega, fun k hk => ?_⟩
  · unfold m_are_kinds
    rw [if_neg (fun q => q ⟨by omega, by omega⟩), Bool.and_eq_true]
    constructor
    · rw [List.all_eq_true]
      intro b hb
      obtain ⟨k, hk, rfl⟩ := List.mem_map.mp hb
      rw [e] at hk
      obtain ⟨y, hy, rfl⟩ := List.mem_map.mp hk
      have hy := List.mem_range.mp hy
      unfold m_is_kind m_is_integer
      rw [if_neg (by rintro (q | q) <;> exact q rfl), nm y hy, good_name (gn y) (by rw [nameOf_len]; omega) (by rw [nameOf_len]; omega)]
      have b2 : 1 ≤ (kindOf numbers at_ ((List.range n).map (nameOf A B number)) y).2.1 ∧ (kindOf numbers at_ ((List.range n).map (nameOf A B number)) y).2.1 ≤ 1000 := by unfold kindOf; dsimp only; split <;> omega
      have b3 : 1 ≤ (kindOf numbers at_ ((List.range n).map (nameOf A B number)) y).2.2 ∧ (kindOf numbers at_ ((List.range n).map (nameOf A B number)) y).2.2 ≤ 1000 := by unfold kindOf; dsimp only; split <;> omega
      rw [decide_eq_true b2.1, decide_eq_true b2.2, decide_eq_true b3.1, decide_eq_true b3.2]; rfl
    · unfold m_are_different
      rw [en]
      exact decide_eq_true (by rw [(cntS_nodup _).mpr nd])
  · rw [e] at hk
    obtain ⟨y, hy, rfl⟩ := List.mem_map.mp hk
    rw [nm y (List.mem_range.mp hy), nameOf_len]; omega
theorem course_facts (numbers : List Int) (at_ : Int) (kinds : List (Str × Int × Int)) (ways : List (Str × Str × Int)) (many : Int) (hk : 0 < kinds.length) (hw : ∀ w ∈ ways, w.2.1 ∈ kinds.map (·.1)) (hm : 0 ≤ many) : (∀ r ∈ m_law_coursen numbers at_ kinds ways many, r.2 ∈ kinds.map (·.1)) ∧ (m_law_coursen numbers at_ kinds ways many).length ≤ many.toNat := by
  unfold m_law_coursen
  by_cases h0 : many = 0
  · rw [if_pos h0]; exact ⟨fun r hr => absurd hr (by simp), by simp⟩
  · rw [if_neg h0]
    dsimp only
    generalize hS : ((kinds.getD (numbers.getD at_.toNat default % (kinds.length : Int)).toNat default).1, numbers.getD (at_ + 1).toNat default % 40, [(numbers.getD (at_ + 1).toNat default % 40, (kinds.getD (numbers.getD at_.toNat default % (kinds.length : Int)).toNat default).1)]) = s0
    have h1 : (kinds.getD (numbers.getD at_.toNat default % (kinds.length : Int)).toNat default).1 ∈ kinds.map (·.1) := List.mem_map.mpr ⟨_, getD_mem (modi hk _), rfl⟩
    have key : ∀ (n : Nat) (ys : List Nat) (s : Str × Int × List (Int × Str)), (∀ r ∈ s.2.2, r.2 ∈ kinds.map (·.1)) → s.2.2.length + ys.length ≤ n →
       (∀ s', runE (m_law_coursen_l0 numbers at_ ways) ys s = .ok s' → (∀ r ∈ s'.2.2, r.2 ∈ kinds.map (·.1)) ∧ s'.2.2.length ≤ n) ∧ ∀ c, runE (m_law_coursen_l0 numbers at_ ways) ys s = .error c → (∀ r ∈ c, r.2 ∈ kinds.map (·.1)) ∧ c.length ≤ n := by
      intro n ys
      induction ys with
      | nil => intro s h1 h2; exact ⟨fun s' e => by cases e; exact ⟨h1, by simpa using h2⟩, fun r e => by cases e⟩
      | cons y ys ih =>
        intro s h1 h2
        rw [List.length_cons] at h2
        rw [runE_cons]
        cases e : m_law_coursen_l0 numbers at_ ways s y with
        | error r =>
          refine ⟨fun s' q => (by cases q), fun c q => ?_⟩
          · cases q
            unfold m_law_coursen_l0 at e
            dsimp only at e
            split at e
            · cases e; exact ⟨h1, by omega⟩
            · cases e
        | ok s1 =>
          have : (∀ r ∈ s1.2.2, r.2 ∈ kinds.map (·.1)) ∧ s1.2.2.length = s.2.2.length + 1 := by
            unfold m_law_coursen_l0 at e
            dsimp only at e
            split at e
            · cases e
            · rename_i hc
              cases e
              refine ⟨fun r hr => ?_, by simp⟩
              rcases List.mem_append.mp hr with q | q
              · exact h1 r q
              · rw [List.mem_singleton.mp q]
                refine hw _ ?_
                have := getD_mem (modi (Nat.pos_of_ne_zero fun q => hc (by rw [q]; rfl)) (numbers.getD (at_ + 2 + 2 * (0 + (y : Int))).toNat default))
                exact (List.mem_filter.mp (by simpa only [List.map_id'] using this)).1
          exact ih s1 this.1 (by omega)
    obtain ⟨k1, k2⟩ := key many.toNat (List.range (many - 1).toNat) s0 (by rw [← hS]; intro r hr; rw [List.mem_singleton.mp hr]; exact h1) (by rw [← hS]; simp; omega)
    cases e : runE (m_law_coursen_l0 numbers at_ ways) (List.range (many - 1).toNat) s0 with
    | error r => exact k2 r e
    | ok s' => exact k1 s' e
def tname (k : Nat) : Str := Str.ofString "t" ++ Str.ofString (toString (k : Int))
theorem tnames_all : ∀ n : Fin 7, m_are_task_names ((List.range n.val).map tname) = true := by decide +kernel
theorem tname_all : ∀ n : Fin 7, m_is_name (tname n.val) = true := by decide +kernel
theorem tname_ok (k : Nat) (h : k < 7) : m_is_name (Str.ofString "t" ++ Str.ofString (toString ((0 : Int) + (k : Int)))) = true := by
  rw [Int.zero_add]; exact tname_all ⟨k, h⟩
theorem tnames_ok {n : Nat} (h : n ≤ 6) : m_are_task_names ((List.range n).map tname) = true := tnames_all ⟨n, by omega⟩
theorem tname_len : ∀ n : Fin 7, (tname n.val).length ≤ 1000 := by decide +kernel
theorem tadd_all : ∀ n : Fin 7, (Str.ofString "t").length + (Str.ofString (toString (n.val : Int))).length ≤ 1000 := by decide +kernel
theorem tadd_len (k : Nat) (h : k < 7) : (Str.ofString "t").length + (Str.ofString (toString ((0 : Int) + (k : Int)))).length ≤ sizeLine := by
  have := tadd_all ⟨k, h⟩
  rw [Int.zero_add, sizeLine_eq]; dsimp only at this; omega
set_option hygiene false in
local macro_rules | `(tactic| walk_at "sd") => `(tactic| first | exact tadd_len zy0 (by omega) | fail)
structure Inv14 (i : Nat) (ps : List (List (Str × Int × Int) × List (Str × Str × Int))) (ts : List Task) (cs : List (List (Int × Str))) : Prop where
  lp : ps.length = i
  lt : ts.length = i
  lc : cs.length = i
  nm : ts.map (fun t => t.name) = (List.range i).map tname
  all : ∀ j, j < i → ∃ t c, ts[j]? = some t ∧ ps[j]? = some (t.kinds, t.ways) ∧ cs[j]? = some c ∧ t.ok ∧ c.length ≤ 20 ∧ ∀ r ∈ c, r.2.length ≤ 12
theorem inv14_zero : Inv14 0 [] [] [] := ⟨rfl, rfl, rfl, rfl, fun j h => absurd h (by omega)⟩
theorem Inv14.next {i : Nat} {ps : List (List (Str × Int × Int) × List (Str × Str × Int))} {ts : List Task} {cs : List (List (Int × Str))} (h : Inv14 i ps ts cs) {t : Task} {c : List (Int × Str)} (hn : t.name = tname i) (ok : t.ok) (hl : c.length ≤ 20) (ht : ∀ r ∈ c, r.2.length ≤ 12) :
    Inv14 (i + 1) (ps ++ [(t.kinds, t.ways)]) (ts ++ [t]) (cs ++ [c]) := by
  obtain ⟨h1, h2, h3, h4, h5⟩ := h
  refine ⟨by simp [h1], by simp [h2], by simp [h3], by rw [List.map_append, h4, List.range_succ, List.map_append, List.map_singleton, List.map_singleton, hn], fun j hj => ?_⟩
  by_cases q : j = i
  · subst q
    exact ⟨t, c, by rw [List.getElem?_append_right (by omega), h2, Nat.sub_self]; rfl, by rw [List.getElem?_append_right (by omega), h1, Nat.sub_self]; rfl, by rw [List.getElem?_append_right (by omega), h3, Nat.sub_self]; rfl, ok, hl, ht⟩
  · obtain ⟨t', c', a1, a2, a3, a4⟩ := h5 j (by omega)
    exact ⟨t', c', by rw [List.getElem?_append_left (by omega)]; exact a1, by rw [List.getElem?_append_left (by omega)]; exact a2, by rw [List.getElem?_append_left (by omega)]; exact a3, a4⟩
theorem kind_nm {kinds : List (Str × Int × Int)} (h : m_are_kinds kinds = true) : ∀ k ∈ kinds, k.1.length ≤ 12 := by
  unfold m_are_kinds at h
  split at h
  · cases h
  · intro k hk
    rw [Bool.and_eq_true] at h
    have q1 := List.all_eq_true.mp h.1 _ (List.mem_map.mpr ⟨k, hk, rfl⟩)
    unfold m_is_kind at q1
    split at q1
    · cases q1
    · rw [Bool.and_eq_true] at q1
      have q2 := q1.1
      unfold m_is_name at q2
      split at q2
      · cases q2
      · rename_i q
        rcases Classical.em (1 ≤ (k.1.length : Int) ∧ (k.1.length : Int) ≤ 12) with z | z
        · omega
        · exact absurd (.inr z) q
theorem Inv14.step {i : Nat} {ps : List (List (Str × Int × Int) × List (Str × Str × Int))} {ts : List Task} {cs : List (List (Int × Str))} (h : Inv14 i ps ts cs) (hi : i < 7) (numbers : List Int) {kinds : List (Str × Int × Int)} {ways : List (Str × Str × Int)} (hk0 : m_are_kinds kinds = true) (hk1 : 1 ≤ kinds.length) (hw0 : m_are_ways ways kinds = true) (a : Int) {many : Int} (hm : 0 ≤ many ∧ many ≤ 20) {y : Nat} (hy : y = i) :
    Inv14 (i + 1) (ps ++ [(kinds, ways)]) (ts ++ [m_Task_init__ ((Str.ofString "t") ++ (Str.ofString (toString ((0 : Int) + (y : Int))))) kinds ways]) (cs ++ [m_law_coursen numbers a kinds ways many]) := by
  subst hy
  rw [init_eq (tname_ok y hi) hk0 hw0, Int.zero_add]
  have ok : Task.ok { name := Str.ofString "t" ++ Str.ofString (toString (y : Int)), kinds := kinds, ways := ways } := ⟨hk0, hw0⟩
  have hcf := course_facts numbers a kinds ways many (by omega) (fun w hw => (ok.wn w hw).2) hm.1
  exact h.next (t := { name := Str.ofString "t" ++ Str.ofString (toString (y : Int)), kinds := kinds, ways := ways }) rfl ok (by have := hcf.2; omega) (fun r hr => by
    obtain ⟨k, hk, e⟩ := List.mem_map.mp (hcf.1 r hr)
    rw [← e]; exact kind_nm hk0 k hk)
structure Rows14 (n : Nat) (cs : List (List (Int × Str))) : Prop where
  len : cs.length = n
  row : ∀ c ∈ cs, c.length ≤ 20 ∧ ∀ r ∈ c, r.2.length ≤ 12
theorem Inv14.rows {i : Nat} {ps : List (List (Str × Int × Int) × List (Str × Str × Int))} {ts : List Task} {cs : List (List (Int × Str))} (h : Inv14 i ps ts cs) : Rows14 i cs := ⟨h.lc, fun c hc => by
  obtain ⟨j, hj, rfl⟩ := List.getElem_of_mem hc
  obtain ⟨t, c, a1, a2, a3, a4, a5⟩ := h.all j (by rw [← h.lc]; exact hj)
  rw [List.getElem?_eq_getElem hj] at a3
  rw [Option.some.inj a3]; exact a5⟩
theorem set_row14 {n : Nat} {cs : List (List (Int × Str))} (h : Rows14 n cs) {i j : Nat} {x : Int × Str} (hx : x.2.length ≤ 12) : Rows14 n (cs.set i ((cs.getD i default).set j x)) := by
  refine ⟨by rw [List.length_set]; exact h.len, fun c hc => ?_⟩
  rcases List.mem_or_eq_of_mem_set hc with q | q
  · exact h.row c q
  · rw [q]
    cases e : cs[i]? with
    | none => rw [List.getD_eq_getElem?_getD, e]; exact ⟨(by show (([] : List (Int × Str)).set j x).length ≤ 20; simp), fun r hr => (by have hr : r ∈ ([] : List (Int × Str)).set j x := hr; simp at hr)⟩
    | some y =>
      have hy := h.row y (List.mem_of_getElem? e)
      rw [List.getD_eq_getElem?_getD, e]
      refine ⟨by rw [List.length_set]; exact hy.1, fun r hr => ?_⟩
      rcases List.mem_or_eq_of_mem_set hr with z | z
      · exact hy.2 r z
      · rw [z]; exact hx
theorem spoil_len {numbers : List Int} {at_ : Int} {cs : List (List (Int × Str))} : (m_law_spoil numbers at_ cs).length = cs.length := by
  unfold m_law_spoil
  dsimp only
  repeat' split
  all_goals simp only [List.length_set]
theorem len12 (z : Str) : (Str.ofString "zz" ++ cutS z none (some (10 : Int))).length ≤ 12 := by
  rw [str_len_append]
  have h1 : (Str.ofString "zz").length = 2 := by decide
  have h2 : (cutS z none (some (10 : Int))).length ≤ 10 := by
    unfold cutS
    show (List.toArray _).size ≤ 10
    rw [List.size_toArray, List.length_take, List.length_drop, Array.length_toList, HT.sIx_none, show (10 : Int) = ((10 : Nat) : Int) from rfl, HT.sIx_nat]
    omega
  omega
theorem setset {τ : Type} {xs : List (List τ)} {i j : Nat} {x y : τ} : (xs.set i ((xs.getD i default).set j x)).set i (((xs.set i ((xs.getD i default).set j x)).getD i default).set j y) = xs.set i ((xs.getD i default).set j y) := by
  rw [List.set_set]
  by_cases hi : i < xs.length
  · congr 1
    rw [List.getD_eq_getElem?_getD (l := xs.set i _), List.getElem?_set_self hi]
    show ((xs.getD i default).set j x).set j y = _
    rw [List.set_set]
  · rw [List.set_eq_of_length_le (by omega), List.set_eq_of_length_le (by omega)]
theorem spoil_rows {n : Nat} {numbers : List Int} {at_ : Int} {cs : List (List (Int × Str))} (h : Rows14 n cs) : Rows14 n (m_law_spoil numbers at_ cs) := by
  have hg : ∀ i j : Nat, ((cs.getD i default).getD j default).2.length ≤ 12 := fun i j => by
    rw [List.getD_eq_getElem?_getD (l := cs)]
    cases e : cs[i]? with
    | none => simp [default]; decide
    | some c =>
      rw [Option.getD_some, List.getD_eq_getElem?_getD]
      cases e2 : c[j]? with
      | none => decide
      | some r => exact (h.row c (List.mem_of_getElem? e)).2 r (List.mem_of_getElem? e2)
  unfold m_law_spoil
  dsimp only
  split
  · exact h
  · split
    · exact set_row14 h (hg _ _)
    · rw [setset]; exact set_row14 h (len12 _)
theorem fault_pre {i : Nat} {ps : List (List (Str × Int × Int) × List (Str × Str × Int))} {ts : List Task} {cs cs' : List (List (Int × Str))} (h : Inv14 i ps ts cs) (hR : Rows14 i cs') (hi : i ≤ 6) : ps.length ≤ cs'.length ∧ cs'.length ≤ 1000 ∧ ∀ c ∈ cs', c.length ≤ 1000 :=
  ⟨by rw [h.lp, hR.len]; exact Nat.le_refl _, by rw [hR.len]; omega, fun c hc => by have := (hR.row c hc).1; omega⟩
theorem sys14 {i : Nat} {ps : List (List (Str × Int × Int) × List (Str × Str × Int))} {ts : List Task} {cs : List (List (Int × Str))} (h : Inv14 i ps ts cs) (hi : i ≤ 6) : (∀ t ∈ (m_System_init__ ts [(1 : Int)]).tasks, t.ok) ∧ (m_System_init__ ts [(1 : Int)]).tasks.length ≤ 6 := by
  rw [sys_eq (by decide +kernel) (by rw [h.nm]; exact tnames_ok hi)]
  refine ⟨fun t ht => ?_, by show ts.length ≤ 6; rw [h.lt]; exact hi⟩
  obtain ⟨j, hj, rfl⟩ := List.getElem_of_mem (show t ∈ ts from ht)
  obtain ⟨t, c, a1, a2, a3, a4, a5⟩ := h.all j (by rw [← h.lt]; exact hj)
  have a1 : ts[j]? = some t := a1
  rw [List.getElem?_eq_getElem hj] at a1
  rw [Option.some.inj a1]; exact a4
theorem pass14 {n : Nat} {cs : List (List (Int × Str))} (h : Rows14 n cs) : (cs.map fun zc2 : List (Int × Str) => zc2).length = n ∧ ∀ r ∈ (cs.map fun zc2 : List (Int × Str) => zc2), r.length ≤ 20 := by
  rw [List.map_id']; exact ⟨h.len, fun r hr => (h.row r hr).1⟩
set_option hygiene false in
local macro_rules | `(tactic| walk_at "pre") => `(tactic| first | exact ⟨by rw [Int.zero_add]; exact tname_len ⟨zy0, by omega⟩, tname_ok zy0 (by omega), hkl, by omega, hk0, by omega, hw0⟩ | exact ⟨by omega, by omega, hnf.2⟩ | exact ⟨by omega, by omega, hnf.2, by omega, by omega⟩ | exact ⟨by omega, by omega, hnf.2, by omega, by omega, by omega, by omega, by omega⟩ | exact ⟨by rw [hI.lt]; omega, by decide, by decide +kernel, by rw [hI.nm]; exact tnames_ok (by omega)⟩ | exact hspoil | exact hfault | exact hchk | exact ⟨hchk, by assumption⟩ | fail)
set_option hygiene false in
local macro_rules | `(tactic| walk_at "lnl") => `(tactic| first | exact spoil_len | fail)
theorem sc_law : FnScope ["script", "numbers", "parts", "tasks", "courses", "k", "kinds", "ways", "fault", "system", "passed", "actual", "e", "course"] ["script"] (defScope s_law) := ⟨rfl, rfl, rfl, by decide +kernel, rfl, by decide +kernel, by decide +kernel⟩
def sp_law : SpN := fun zcs zL zKc => ∃ script : List Int, zcs = [.fr ((eL D.int) script)] ∧ zL = [] ∧ (script.length ≤ 63) ∧ ∀ zL', zKc (.fr (D.bl (m_law script))) zL'
theorem ok_law (T : TX P K mg) : FnOk P w K mg base CX0 7 T.a_law T.d_law ["script"] (SpOf K mg sp_law) := by
  have O_System_init__ := ok_System_init__ (P := P) (w := w) (base := base) T
  have O_Task_init__ := ok_Task_init__ (P := P) (w := w) (base := base) T
  have O_law_coursen := ok_law_coursen (P := P) (w := w) (base := base) T
  have O_law_fault := ok_law_fault (P := P) (w := w) (base := base) T
  have O_law_kinds := ok_law_kinds (P := P) (w := w) (base := base) T
  have O_law_numbers := ok_law_numbers (P := P) (w := w) (base := base) T
  have O_law_spoil := ok_law_spoil (P := P) (w := w) (base := base) T
  have O_law_ways := ok_law_ways (P := P) (w := w) (base := base) T
  have O_check_releases := ok_check_releases (P := P) (w := w) (base := base) T
  have O_check_releasesx := ok_check_releasesx (P := P) (w := w) (base := base) T
  refine T.F_law.okN sc_law (fun zcs zL zKc zh => by obtain ⟨script, rfl, _⟩ := zh; rfl) fun zcdv zA zout zst zH zE zB zcs zL zKc zhr zh => ?_
  obtain ⟨script, rfl, rfl, hpre, zk⟩ := zh
  have nd := sc_law.nd
  have hSL := sizeLine_eq
  show Exs _ _ _ ⟨[some (.fr ((eL D.int) script)), none, none, none, none, none, none, none, none, none, none, none, none, none], []⟩ _
  refine exs_cons (ex_set 1 (ev_call (ds := [(eL D.int) script, D.int (260 : Int)]) (ds' := []) (dvs := []) (dfs := []) O_law_numbers (zhr.mono (by decide)) T.m_law_numbers T.k_law_numbers T.b_law_numbers .nil (fun _ => .nil) (ea_cons (ev_var 0 rfl (.inl rfl) rfl) (ea_cons ev_int ea_nil)) (fun _ zkk => ⟨script, (260 : Int), rfl, rfl, (by walk_at "pre"), zkk⟩) (by exact rfl)) ?_ nd rfl (.inl rfl))
  show Exs _ _ _ ⟨[some (.fr ((eL D.int) script)), some (.fr ((eL D.int) (m_law_numbers script (260 : Int)))), none, none, none, none, none, none, none, none, none, none, none, none], []⟩ _
  generalize zg_numbers : (m_law_numbers script (260 : Int)) = numbers
  show Exs _ _ _ ⟨[some (.fr ((eL D.int) script)), some (.fr ((eL D.int) numbers)), none, none, none, none, none, none, none, none, none, none, none, none], []⟩ _
  have hnf := numbers_facts script (260 : Int) (by decide)
  rw [zg_numbers] at hnf
  have hnum : numbers.length = 260 := hnf.1
  refine exs_cons (ex_set 2 (ev_lstN 100 (enc := (eT2 (eL (eT3 D.str D.int D.int)) (eL (eT3 D.str D.str D.int)))) ([] : List ((List (Str × Int × Int)) × (List (Str × Str × Int)))) ea_nil rfl (by simp only [List.length_cons, List.length_nil]; decide) (by simp [names]) (by decide)) ?_ nd rfl (.inl rfl))
  show Exs _ _ _ ⟨[some (.fr ((eL D.int) script)), some (.fr ((eL D.int) numbers)), some (.ad 100), none, none, none, none, none, none, none, none, none, none, none], [(100, .fl ((([] : List ((List (Str × Int × Int)) × (List (Str × Str × Int))))).map (eT2 (eL (eT3 D.str D.int D.int)) (eL (eT3 D.str D.str D.int)))))]⟩ _
  refine exs_cons (ex_set 3 (ev_lstN 101 (enc := eTask) ([] : List Task) ea_nil rfl (by simp only [List.length_cons, List.length_nil]; decide) (by simp [names]) (by decide)) ?_ nd rfl (.inl rfl))
  show Exs _ _ _ ⟨[some (.fr ((eL D.int) script)), some (.fr ((eL D.int) numbers)), some (.ad 100), some (.ad 101), none, none, none, none, none, none, none, none, none, none], [(100, .fl ((([] : List ((List (Str × Int × Int)) × (List (Str × Str × Int))))).map (eT2 (eL (eT3 D.str D.int D.int)) (eL (eT3 D.str D.str D.int))))), (101, .fl ((([] : List Task)).map eTask))]⟩ _
  refine exs_cons (ex_set 4 (ev_lstN 300 (enc := (eL (eT2 D.int D.str))) [] ea_nil rfl (by decide) (by simp [names]) (by decide)) ?_ nd rfl (.inl rfl))
  show Exs _ _ _ ⟨[some (.fr ((eL D.int) script)), some (.fr ((eL D.int) numbers)), some (.ad 100), some (.ad 101), some (.ad 300), none, none, none, none, none, none, none, none, none], [(100, .fl ((([] : List ((List (Str × Int × Int)) × (List (Str × Str × Int))))).map (eT2 (eL (eT3 D.str D.int D.int)) (eL (eT3 D.str D.str D.int))))), (101, .fl ((([] : List Task)).map eTask))] ++ [(300, .fl [])]⟩ _
  refine exs_emptyC 400 (eT2 D.int D.str) ?_
  show Exs _ _ _ ⟨[some (.fr ((eL D.int) script)), some (.fr ((eL D.int) numbers)), some (.ad 100), some (.ad 101), some (.ad 300), none, none, none, none, none, none, none, none, none], [(100, .fl ((([] : List ((List (Str × Int × Int)) × (List (Str × Str × Int))))).map (eT2 (eL (eT3 D.str D.int D.int)) (eL (eT3 D.str D.str D.int))))), (101, .fl ((([] : List Task)).map eTask))] ++ nest 300 400 (eT2 D.int D.str) ([] : List (List (Int × Str)))⟩ _
  refine exs_cons (ex_forF (enc := (fun i : Nat => D.int ((0 : Int) + (i : Int)))) (fun (zs0 : (List ((List (Str × Int × Int)) × (List (Str × Str × Int)))) × (List Task) × (List (List (Int × Str)))) => (⟨[some (.fr ((eL D.int) script)), some (.fr ((eL D.int) numbers)), some (.ad 100), some (.ad 101), some (.ad 300), none, none, none, none, none, none, none, none, none], [(100, .fl ((zs0.1).map (eT2 (eL (eT3 D.str D.int D.int)) (eL (eT3 D.str D.str D.int))))), (101, .fl ((zs0.2.1).map eTask))] ++ nest 300 400 (eT2 D.int D.str) zs0.2.2⟩ : Nz.S)) (m_law_l0 numbers) (([] : List ((List (Str × Int × Int)) × (List (Str × Str × Int)))), ([] : List Task), ([] : List (List (Int × Str)))) (fun (zi0 : Nat) (zs0 : (List ((List (Str × Int × Int)) × (List (Str × Str × Int)))) × (List Task) × (List (List (Int × Str)))) => Inv14 zi0 zs0.1 zs0.2.1 zs0.2.2) (src_range1 (ea_cons (ev_bin o_add ev_int (ev_bin (o_mod (by walk_at "sd")) (ev_ix (ix_L (xs := numbers) (enc := D.int) (by exact rfl) (by walk_at "sd") (by walk_at "sd")) (ev_var 1 rfl (.inl rfl) rfl) ev_int) ev_int)) ea_nil) (by exact rfl) T.n_range (by walk_at "sd") (by walk_at "sd")) ⟨⟨.inr rfl, .inr rfl, .inr rfl, .inr rfl, .inr rfl, .inl rfl, .inl rfl, .inl rfl, .inl rfl, .inl rfl, .inl rfl, .inl rfl, .inl rfl, .inl rfl, trivial⟩, rfl⟩ inv14_zero ?_ ?_ PassesOwn.never rfl)
  · intro zi0 zy0 zs0 zhy0 zq0
    skip
    have hy0 := seq_range zhy0
    have hi := (List.getElem?_eq_some_iff.mp zhy0).1
    simp only [List.length_range] at hi
    have hlp := zq0.lp
    have hlt := zq0.lt
    have hlc := zq0.lc
    refine ⟨⟨[some (.fr ((eL D.int) script)), some (.fr ((eL D.int) numbers)), some (.ad 100), some (.ad 101), some (.ad 300), some (.fr (D.int ((0 : Int) + (zy0 : Int)))), none, none, none, none, none, none, none, none], [(100, .fl ((zs0.1).map (eT2 (eL (eT3 D.str D.int D.int)) (eL (eT3 D.str D.str D.int))))), (101, .fl ((zs0.2.1).map eTask))] ++ nest 300 400 (eT2 D.int D.str) zs0.2.2⟩, (eg_name 5 nd rfl (.inl rfl)), ?_⟩
    refine exs_cons (ex_set 6 (ev_call (ds := [(eL D.int) numbers, D.int ((82 : Int) * ((0 : Int) + (zy0 : Int)))]) (ds' := []) (dvs := []) (dfs := []) O_law_kinds (zhr.mono (by decide)) T.m_law_kinds T.k_law_kinds T.b_law_kinds .nil (fun _ => .nil) (ea_cons (ev_var 1 rfl (.inl rfl) rfl) (ea_cons (ev_bin (o_mul (by walk_at "mul")) ev_int (ev_var 5 rfl (.inl rfl) rfl)) ea_nil)) (fun _ zkk => ⟨numbers, ((82 : Int) * ((0 : Int) + (zy0 : Int))), rfl, rfl, (by walk_at "pre"), zkk⟩) (by exact rfl)) ?_ nd rfl (.inl rfl))
    show Exs _ _ _ ⟨[some (.fr ((eL D.int) script)), some (.fr ((eL D.int) numbers)), some (.ad 100), some (.ad 101), some (.ad 300), some (.fr (D.int ((0 : Int) + (zy0 : Int)))), some (.fr ((eL (eT3 D.str D.int D.int)) (m_law_kinds numbers ((82 : Int) * ((0 : Int) + (zy0 : Int)))))), none, none, none, none, none, none, none], [(100, .fl ((zs0.1).map (eT2 (eL (eT3 D.str D.int D.int)) (eL (eT3 D.str D.str D.int))))), (101, .fl ((zs0.2.1).map eTask))] ++ nest 300 400 (eT2 D.int D.str) zs0.2.2⟩ _
    generalize zg_kinds : (m_law_kinds numbers ((82 : Int) * ((0 : Int) + (zy0 : Int)))) = kinds
    show Exs _ _ _ ⟨[some (.fr ((eL D.int) script)), some (.fr ((eL D.int) numbers)), some (.ad 100), some (.ad 101), some (.ad 300), some (.fr (D.int ((0 : Int) + (zy0 : Int)))), some (.fr ((eL (eT3 D.str D.int D.int)) kinds)), none, none, none, none, none, none, none], [(100, .fl ((zs0.1).map (eT2 (eL (eT3 D.str D.int D.int)) (eL (eT3 D.str D.str D.int))))), (101, .fl ((zs0.2.1).map eTask))] ++ nest 300 400 (eT2 D.int D.str) zs0.2.2⟩ _
    have hkf := kinds_facts numbers (82 * (0 + (zy0 : Int))) (by omega) hnf.2
    rw [zg_kinds] at hkf
    obtain ⟨hk0, hk8, hk1, hkl⟩ := hkf
    refine exs_cons (ex_set 7 (ev_call (ds := [(eL D.int) numbers, D.int (((82 : Int) * ((0 : Int) + (zy0 : Int))) + (18 : Int)), (eL (eT3 D.str D.int D.int)) kinds]) (ds' := []) (dvs := []) (dfs := []) O_law_ways (zhr.mono (by decide)) T.m_law_ways T.k_law_ways T.b_law_ways .nil (fun _ => .nil) (ea_cons (ev_var 1 rfl (.inl rfl) rfl) (ea_cons (ev_bin o_add (ev_bin (o_mul (by walk_at "mul")) ev_int (ev_var 5 rfl (.inl rfl) rfl)) ev_int) (ea_cons (ev_var 6 rfl (.inl rfl) rfl) ea_nil))) (fun _ zkk => ⟨numbers, (((82 : Int) * ((0 : Int) + (zy0 : Int))) + (18 : Int)), kinds, rfl, rfl, (by walk_at "pre"), zkk⟩) (by exact rfl)) ?_ nd rfl (.inl rfl))
    show Exs _ _ _ ⟨[some (.fr ((eL D.int) script)), some (.fr ((eL D.int) numbers)), some (.ad 100), some (.ad 101), some (.ad 300), some (.fr (D.int ((0 : Int) + (zy0 : Int)))), some (.fr ((eL (eT3 D.str D.int D.int)) kinds)), some (.fr ((eL (eT3 D.str D.str D.int)) (m_law_ways numbers (((82 : Int) * ((0 : Int) + (zy0 : Int))) + (18 : Int)) kinds))), none, none, none, none, none, none], [(100, .fl ((zs0.1).map (eT2 (eL (eT3 D.str D.int D.int)) (eL (eT3 D.str D.str D.int))))), (101, .fl ((zs0.2.1).map eTask))] ++ nest 300 400 (eT2 D.int D.str) zs0.2.2⟩ _
    generalize zg_ways : (m_law_ways numbers (((82 : Int) * ((0 : Int) + (zy0 : Int))) + (18 : Int)) kinds) = ways
    show Exs _ _ _ ⟨[some (.fr ((eL D.int) script)), some (.fr ((eL D.int) numbers)), some (.ad 100), some (.ad 101), some (.ad 300), some (.fr (D.int ((0 : Int) + (zy0 : Int)))), some (.fr ((eL (eT3 D.str D.int D.int)) kinds)), some (.fr ((eL (eT3 D.str D.str D.int)) ways)), none, none, none, none, none, none], [(100, .fl ((zs0.1).map (eT2 (eL (eT3 D.str D.int D.int)) (eL (eT3 D.str D.str D.int))))), (101, .fl ((zs0.2.1).map eTask))] ++ nest 300 400 (eT2 D.int D.str) zs0.2.2⟩ _
    have hwf := ways_facts numbers (82 * (0 + (zy0 : Int)) + 18) kinds (by omega) hnf.2 (by omega)
    rw [zg_ways] at hwf
    obtain ⟨hw0, hw16⟩ := hwf
    refine exs_cons (ex_expr (ev_appendT (n := 100) (enc := (eT2 (eL (eT3 D.str D.int D.int)) (eL (eT3 D.str D.str D.int)))) (xs := zs0.1) (xs0 := zs0.1) (kinds, ways) rfl rfl rfl (by walk_at "sd") (ev_var 2 rfl (.inl rfl) rfl) (ev_tup (ds := [(eL (eT3 D.str D.int D.int)) kinds, (eL (eT3 D.str D.str D.int)) ways]) (ea_cons (ev_var 6 rfl (.inl rfl) rfl) (ea_cons (ev_var 7 rfl (.inl rfl) rfl) ea_nil)) (by simp only [List.length_cons, List.length_nil]; decide))) ?_)
    show Exs _ _ _ ⟨[some (.fr ((eL D.int) script)), some (.fr ((eL D.int) numbers)), some (.ad 100), some (.ad 101), some (.ad 300), some (.fr (D.int ((0 : Int) + (zy0 : Int)))), some (.fr ((eL (eT3 D.str D.int D.int)) kinds)), some (.fr ((eL (eT3 D.str D.str D.int)) ways)), none, none, none, none, none, none], [(100, .fl (((zs0.1 ++ [(kinds, ways)])).map (eT2 (eL (eT3 D.str D.int D.int)) (eL (eT3 D.str D.str D.int))))), (101, .fl ((zs0.2.1).map eTask))] ++ nest 300 400 (eT2 D.int D.str) zs0.2.2⟩ _
    refine exs_cons (ex_expr (ev_appendT (n := 101) (enc := eTask) (xs := zs0.2.1) (xs0 := zs0.2.1) (m_Task_init__ ((Str.ofString "t") ++ (Str.ofString (toString ((0 : Int) + (zy0 : Int))))) kinds ways) rfl rfl rfl (by walk_at "sd") (ev_var 3 rfl (.inl rfl) rfl) (ev_makeK (c := "Task") (fs := fTask (m_Task_init__ ((Str.ofString "t") ++ (Str.ofString (toString ((0 : Int) + (zy0 : Int))))) kinds ways)) (ds := [D.str ((Str.ofString "t") ++ (Str.ofString (toString ((0 : Int) + (zy0 : Int)))))]) (es' := [(eL (eT3 D.str D.int D.int)) kinds, (eL (eT3 D.str D.str D.int)) ways]) (n := 1) (ks := ["kinds", "ways"]) T.q_Task T.mk_Task_init__ O_Task_init__ (zhr.mono (by decide)) T.kb_Task_init___1_kinds_ways (ea_cons (ev_bin (o_adds (by walk_at "sd")) ev_str (ev_callTy (ds := [D.int ((0 : Int) + (zy0 : Int))]) (c_str (by walk_at "str")) (ea_cons (ev_var 5 rfl (.inl rfl) rfl) ea_nil) (by exact rfl) T.n_str (by decide +kernel))) ea_nil) (ek_cons (ev_callTy (ds := [(eL (eT3 D.str D.int D.int)) kinds]) c_listL (ea_cons (ev_var 6 rfl (.inl rfl) rfl) ea_nil) (by exact rfl) T.n_list (by decide +kernel)) (ek_cons (ev_callTy (ds := [(eL (eT3 D.str D.str D.int)) ways]) c_listL (ea_cons (ev_var 7 rfl (.inl rfl) rfl) ea_nil) (by exact rfl) T.n_list (by decide +kernel)) ek_nil)) rfl rfl (fun _ zkk => ⟨((Str.ofString "t") ++ (Str.ofString (toString ((0 : Int) + (zy0 : Int))))), kinds, ways, rfl, rfl, (by walk_at "pre"), zkk⟩) (by exact rfl))) ?_)
    show Exs _ _ _ ⟨[some (.fr ((eL D.int) script)), some (.fr ((eL D.int) numbers)), some (.ad 100), some (.ad 101), some (.ad 300), some (.fr (D.int ((0 : Int) + (zy0 : Int)))), some (.fr ((eL (eT3 D.str D.int D.int)) kinds)), some (.fr ((eL (eT3 D.str D.str D.int)) ways)), none, none, none, none, none, none], [(100, .fl (((zs0.1 ++ [(kinds, ways)])).map (eT2 (eL (eT3 D.str D.int D.int)) (eL (eT3 D.str D.str D.int))))), (101, .fl (((zs0.2.1 ++ [(m_Task_init__ ((Str.ofString "t") ++ (Str.ofString (toString ((0 : Int) + (zy0 : Int))))) kinds ways)])).map eTask))] ++ nest 300 400 (eT2 D.int D.str) zs0.2.2⟩ _
    refine exs_cons (ex_expr (ev_appendC (n := 300) (ev_var 4 rfl (.inl rfl) rfl) (ev_callNew 102 (ds := [(eL D.int) numbers, D.int (((82 : Int) * ((0 : Int) + (zy0 : Int))) + (67 : Int)), (eL (eT3 D.str D.int D.int)) kinds, (eL (eT3 D.str D.str D.int)) ways, D.int ((numbers.getD ((((82 : Int) * ((0 : Int) + (zy0 : Int))) + (81 : Int))).toNat default) % (7 : Int))]) (xs := ((m_law_coursen numbers (((82 : Int) * ((0 : Int) + (zy0 : Int))) + (67 : Int)) kinds ways ((numbers.getD ((((82 : Int) * ((0 : Int) + (zy0 : Int))) + (81 : Int))).toNat default) % (7 : Int)))).map (eT2 D.int D.str)) O_law_coursen (zhr.mono (by decide)) T.m_law_coursen T.k_law_coursen T.b_law_coursen (ea_cons (ev_var 1 rfl (.inl rfl) rfl) (ea_cons (ev_bin o_add (ev_bin (o_mul (by walk_at "mul")) ev_int (ev_var 5 rfl (.inl rfl) rfl)) ev_int) (ea_cons (ev_var 6 rfl (.inl rfl) rfl) (ea_cons (ev_var 7 rfl (.inl rfl) rfl) (ea_cons (ev_bin (o_mod (by walk_at "sd")) (ev_ix (ix_L (xs := numbers) (enc := D.int) (by exact rfl) (by walk_at "sd") (by walk_at "sd")) (ev_var 1 rfl (.inl rfl) rfl) (ev_bin o_add (ev_bin (o_mul (by walk_at "mul")) ev_int (ev_var 5 rfl (.inl rfl) rfl)) ev_int)) ev_int) ea_nil))))) (fresh_nest (by simp [names]) (by decide) (by decide)) (by decide) (fun _ zkk => ⟨numbers, (((82 : Int) * ((0 : Int) + (zy0 : Int))) + (67 : Int)), kinds, ways, ((numbers.getD ((((82 : Int) * ((0 : Int) + (zy0 : Int))) + (81 : Int))).toNat default) % (7 : Int)), rfl, rfl, (by walk_at "pre"), zkk⟩) (by exact rfl)) rfl rfl (by rw [ceL_length]; first | omega | walk_at "sd") Sub.app) ?_)
    show Exs _ _ _ ⟨[some (.fr ((eL D.int) script)), some (.fr ((eL D.int) numbers)), some (.ad 100), some (.ad 101), some (.ad 300), some (.fr (D.int ((0 : Int) + (zy0 : Int)))), some (.fr ((eL (eT3 D.str D.int D.int)) kinds)), some (.fr ((eL (eT3 D.str D.str D.int)) ways)), none, none, none, none, none, none], [(100, .fl (((zs0.1 ++ [(kinds, ways)])).map (eT2 (eL (eT3 D.str D.int D.int)) (eL (eT3 D.str D.str D.int))))), (101, .fl (((zs0.2.1 ++ [(m_Task_init__ ((Str.ofString "t") ++ (Str.ofString (toString ((0 : Int) + (zy0 : Int))))) kinds ways)])).map eTask))] ++ ((300, .cl (ceL 400 zs0.2.2.length ++ [.ad 102])) :: inL (eT2 D.int D.str) 400 zs0.2.2) ++ [(102, .fl (((m_law_coursen numbers (((82 : Int) * ((0 : Int) + (zy0 : Int))) + (67 : Int)) kinds ways ((numbers.getD ((((82 : Int) * ((0 : Int) + (zy0 : Int))) + (81 : Int))).toNat default) % (7 : Int)))).map (eT2 D.int D.str)))]⟩ _
    refine exs_nestIn (P := [(100, .fl (((zs0.1 ++ [(kinds, ways)])).map (eT2 (eL (eT3 D.str D.int D.int)) (eL (eT3 D.str D.str D.int))))), (101, .fl (((zs0.2.1 ++ [(m_Task_init__ ((Str.ofString "t") ++ (Str.ofString (toString ((0 : Int) + (zy0 : Int))))) kinds ways)])).map eTask))]) (m := 102) (n := 300) (b := 400) (xss := zs0.2.2) (x := (m_law_coursen numbers (((82 : Int) * ((0 : Int) + (zy0 : Int))) + (67 : Int)) kinds ways ((numbers.getD ((((82 : Int) * ((0 : Int) + (zy0 : Int))) + (81 : Int))).toNat default) % (7 : Int)))) (enc := (eT2 D.int D.str)) (perm_mv2 _ _ _) rfl rfl (by simp [names]) (by decide) (by decide) (by decide) (by decide) rfl ?_
    show Exs _ _ _ ⟨[some (.fr ((eL D.int) script)), some (.fr ((eL D.int) numbers)), some (.ad 100), some (.ad 101), some (.ad 300), some (.fr (D.int ((0 : Int) + (zy0 : Int)))), some (.fr ((eL (eT3 D.str D.int D.int)) kinds)), some (.fr ((eL (eT3 D.str D.str D.int)) ways)), none, none, none, none, none, none], [(100, .fl (((zs0.1 ++ [(kinds, ways)])).map (eT2 (eL (eT3 D.str D.int D.int)) (eL (eT3 D.str D.str D.int))))), (101, .fl (((zs0.2.1 ++ [(m_Task_init__ ((Str.ofString "t") ++ (Str.ofString (toString ((0 : Int) + (zy0 : Int))))) kinds ways)])).map eTask))] ++ nest 300 400 (eT2 D.int D.str) (zs0.2.2 ++ [(m_law_coursen numbers (((82 : Int) * ((0 : Int) + (zy0 : Int))) + (67 : Int)) kinds ways ((numbers.getD ((((82 : Int) * ((0 : Int) + (zy0 : Int))) + (81 : Int))).toNat default) % (7 : Int)))])⟩ _
    refine exs_nil ?_
    have est : (m_law_l0 numbers) zs0 zy0 = ((zs0.1 ++ [(kinds, ways)]), (zs0.2.1 ++ [(m_Task_init__ ((Str.ofString "t") ++ (Str.ofString (toString ((0 : Int) + (zy0 : Int))))) kinds ways)]), (zs0.2.2 ++ [(m_law_coursen numbers (((82 : Int) * ((0 : Int) + (zy0 : Int))) + (67 : Int)) kinds ways ((numbers.getD ((((82 : Int) * ((0 : Int) + (zy0 : Int))) + (81 : Int))).toNat default) % (7 : Int)))])) := by subst zg_ways; subst zg_kinds; simp only [m_law_l0, not_true_eq_false, not_false_eq_true, ↓reduceIte]
    show Le _ _ ∧ _
    try rw [est]
    exact ⟨⟨⟨.inr rfl, .inr rfl, .inr rfl, .inr rfl, .inr rfl, .inl rfl, .inl rfl, .inl rfl, .inl rfl, .inl rfl, .inl rfl, .inl rfl, .inl rfl, .inl rfl, trivial⟩, rfl⟩, zq0.step (by omega) numbers hk0 hk1 hw0 _ (by omega) hy0.2⟩
  · intro zq0
    have hI := zq0
    rw [List.length_range] at hI
    have hlc := hI.lc
    have hmn : 1 ≤ ((1 : Int) + numbers.getD ((259 : Int)).toNat default % (3 : Int)).toNat ∧ ((1 : Int) + numbers.getD ((259 : Int)).toNat default % (3 : Int)).toNat ≤ 3 := by omega
    show Exs _ _ _ ⟨[some (.fr ((eL D.int) script)), some (.fr ((eL D.int) numbers)), some (.ad 100), some (.ad 101), some (.ad 300), none, none, none, none, none, none, none, none, none], [(100, .fl ((((List.range (((1 : Int) + ((numbers.getD ((259 : Int)).toNat default) % (3 : Int)))).toNat).foldl (m_law_l0 numbers) (([] : List ((List (Str × Int × Int)) × (List (Str × Str × Int)))), ([] : List Task), ([] : List (List (Int × Str))))).1).map (eT2 (eL (eT3 D.str D.int D.int)) (eL (eT3 D.str D.str D.int))))), (101, .fl ((((List.range (((1 : Int) + ((numbers.getD ((259 : Int)).toNat default) % (3 : Int)))).toNat).foldl (m_law_l0 numbers) (([] : List ((List (Str × Int × Int)) × (List (Str × Str × Int)))), ([] : List Task), ([] : List (List (Int × Str))))).2.1).map eTask))] ++ nest 300 400 (eT2 D.int D.str) (((List.range (((1 : Int) + ((numbers.getD ((259 : Int)).toNat default) % (3 : Int)))).toNat).foldl (m_law_l0 numbers) (([] : List ((List (Str × Int × Int)) × (List (Str × Str × Int)))), ([] : List Task), ([] : List (List (Int × Str))))).2.2)⟩ _
    refine exs_cons (ex_forF (enc := (fun i : Nat => D.int ((0 : Int) + (i : Int)))) (fun (zs0 : (List (List (Int × Str)))) => (⟨[some (.fr ((eL D.int) script)), some (.fr ((eL D.int) numbers)), some (.ad 100), some (.ad 101), some (.ad 300), none, none, none, none, none, none, none, none, none], [(100, .fl ((((List.range (((1 : Int) + ((numbers.getD ((259 : Int)).toNat default) % (3 : Int)))).toNat).foldl (m_law_l0 numbers) (([] : List ((List (Str × Int × Int)) × (List (Str × Str × Int)))), ([] : List Task), ([] : List (List (Int × Str))))).1).map (eT2 (eL (eT3 D.str D.int D.int)) (eL (eT3 D.str D.str D.int))))), (101, .fl ((((List.range (((1 : Int) + ((numbers.getD ((259 : Int)).toNat default) % (3 : Int)))).toNat).foldl (m_law_l0 numbers) (([] : List ((List (Str × Int × Int)) × (List (Str × Str × Int)))), ([] : List Task), ([] : List (List (Int × Str))))).2.1).map eTask))] ++ nest 300 400 (eT2 D.int D.str) zs0⟩ : Nz.S)) (m_law_l1 numbers) ((List.range (((1 : Int) + ((numbers.getD ((259 : Int)).toNat default) % (3 : Int)))).toNat).foldl (m_law_l0 numbers) (([] : List ((List (Str × Int × Int)) × (List (Str × Str × Int)))), ([] : List Task), ([] : List (List (Int × Str))))).2.2 (fun (zi0 : Nat) (zs0 : (List (List (Int × Str)))) => Rows14 ((1 : Int) + numbers.getD ((259 : Int)).toNat default % (3 : Int)).toNat zs0) (src_range1 (ea_cons (ev_bin (o_mod (by walk_at "sd")) (ev_ix (ix_L (xs := numbers) (enc := D.int) (by exact rfl) (by walk_at "sd") (by walk_at "sd")) (ev_var 1 rfl (.inl rfl) rfl) ev_int) ev_int) ea_nil) (by exact rfl) T.n_range (by walk_at "sd") (by walk_at "sd")) ⟨⟨.inr rfl, .inr rfl, .inr rfl, .inr rfl, .inr rfl, .inl rfl, .inl rfl, .inl rfl, .inl rfl, .inl rfl, .inl rfl, .inl rfl, .inl rfl, .inl rfl, trivial⟩, rfl⟩ hI.rows ?_ ?_ PassesOwn.never rfl)
    · intro zi0 zy0 zs0 zhy0 zq0
      skip
      have hy0 := seq_range zhy0
      have hi := (List.getElem?_eq_some_iff.mp zhy0).1
      simp only [List.length_range] at hi
      have hlz := zq0.len
      have hspoil : 0 ≤ (250 : Int) + (3 : Int) * ((0 : Int) + (zy0 : Int)) ∧ (250 : Int) + (3 : Int) * ((0 : Int) + (zy0 : Int)) + 3 ≤ numbers.length ∧ 0 < zs0.length ∧ zs0.length ≤ 3 ∧ ∀ c ∈ zs0, c.length ≤ 20 ∧ ∀ r ∈ c, r.2.length ≤ 12 := ⟨by omega, by omega, by omega, by omega, zq0.row⟩
      refine ⟨⟨[some (.fr ((eL D.int) script)), some (.fr ((eL D.int) numbers)), some (.ad 100), some (.ad 101), some (.ad 300), some (.fr (D.int ((0 : Int) + (zy0 : Int)))), none, none, none, none, none, none, none, none], [(100, .fl ((((List.range (((1 : Int) + ((numbers.getD ((259 : Int)).toNat default) % (3 : Int)))).toNat).foldl (m_law_l0 numbers) (([] : List ((List (Str × Int × Int)) × (List (Str × Str × Int)))), ([] : List Task), ([] : List (List (Int × Str))))).1).map (eT2 (eL (eT3 D.str D.int D.int)) (eL (eT3 D.str D.str D.int))))), (101, .fl ((((List.range (((1 : Int) + ((numbers.getD ((259 : Int)).toNat default) % (3 : Int)))).toNat).foldl (m_law_l0 numbers) (([] : List ((List (Str × Int × Int)) × (List (Str × Str × Int)))), ([] : List Task), ([] : List (List (Int × Str))))).2.1).map eTask))] ++ nest 300 400 (eT2 D.int D.str) zs0⟩, (eg_name 5 nd rfl (.inl rfl)), ?_⟩
      refine exs_one (ex_expr (ev_callLN (P := [(100, .fl ((((List.range (((1 : Int) + ((numbers.getD ((259 : Int)).toNat default) % (3 : Int)))).toNat).foldl (m_law_l0 numbers) (([] : List ((List (Str × Int × Int)) × (List (Str × Str × Int)))), ([] : List Task), ([] : List (List (Int × Str))))).1).map (eT2 (eL (eT3 D.str D.int D.int)) (eL (eT3 D.str D.str D.int))))), (101, .fl ((((List.range (((1 : Int) + ((numbers.getD ((259 : Int)).toNat default) % (3 : Int)))).toNat).foldl (m_law_l0 numbers) (([] : List ((List (Str × Int × Int)) × (List (Str × Str × Int)))), ([] : List Task), ([] : List (List (Int × Str))))).2.1).map eTask))]) (n := 300) (b := 400) (enc := (eT2 D.int D.str)) (xss := zs0) (yss := (m_law_spoil numbers ((250 : Int) + ((3 : Int) * ((0 : Int) + (zy0 : Int)))) zs0)) (cs := [(.fr ((eL D.int) numbers)), (.fr (D.int ((250 : Int) + ((3 : Int) * ((0 : Int) + (zy0 : Int)))))), (.ad 300)]) O_law_spoil (zhr.mono (by decide)) T.m_law_spoil T.k_law_spoil T.b_law_spoil (ea_cons (ev_var 1 rfl (.inl rfl) rfl) (ea_cons (ev_bin o_add ev_int (ev_bin (o_mul (by walk_at "mul")) ev_int (ev_var 5 rfl (.inl rfl) rfl))) (ea_cons (ev_var 4 rfl (.inl rfl) rfl) ea_nil))) (by exact rfl) (by exact rfl) (by walk_at "lnl") (by walk_at "sd") (fun _ zkk => ⟨numbers, ((250 : Int) + ((3 : Int) * ((0 : Int) + (zy0 : Int)))), zs0, rfl, rfl, (by walk_at "pre"), zkk⟩) (by exact rfl)) ?_)
      have est : (m_law_l1 numbers) zs0 zy0 = (m_law_spoil numbers ((250 : Int) + ((3 : Int) * ((0 : Int) + (zy0 : Int)))) zs0) := by simp only [m_law_l1, not_true_eq_false, not_false_eq_true, ↓reduceIte]
      show Le _ _ ∧ _
      try rw [est]
      exact ⟨⟨⟨.inr rfl, .inr rfl, .inr rfl, .inr rfl, .inr rfl, .inl rfl, .inl rfl, .inl rfl, .inl rfl, .inl rfl, .inl rfl, .inl rfl, .inl rfl, .inl rfl, trivial⟩, rfl⟩, (spoil_rows zq0)⟩
    · intro zq0
      have hR := zq0
      have hlr := hR.len
      show Exs _ _ _ ⟨[some (.fr ((eL D.int) script)), some (.fr ((eL D.int) numbers)), some (.ad 100), some (.ad 101), some (.ad 300), none, none, none, none, none, none, none, none, none], [(100, .fl ((((List.range (((1 : Int) + ((numbers.getD ((259 : Int)).toNat default) % (3 : Int)))).toNat).foldl (m_law_l0 numbers) (([] : List ((List (Str × Int × Int)) × (List (Str × Str × Int)))), ([] : List Task), ([] : List (List (Int × Str))))).1).map (eT2 (eL (eT3 D.str D.int D.int)) (eL (eT3 D.str D.str D.int))))), (101, .fl ((((List.range (((1 : Int) + ((numbers.getD ((259 : Int)).toNat default) % (3 : Int)))).toNat).foldl (m_law_l0 numbers) (([] : List ((List (Str × Int × Int)) × (List (Str × Str × Int)))), ([] : List Task), ([] : List (List (Int × Str))))).2.1).map eTask))] ++ nest 300 400 (eT2 D.int D.str) ((List.range (((numbers.getD ((258 : Int)).toNat default) % (3 : Int))).toNat).foldl (m_law_l1 numbers) ((List.range (((1 : Int) + ((numbers.getD ((259 : Int)).toNat default) % (3 : Int)))).toNat).foldl (m_law_l0 numbers) (([] : List ((List (Str × Int × Int)) × (List (Str × Str × Int)))), ([] : List Task), ([] : List (List (Int × Str))))).2.2)⟩ _
      have hfault := fault_pre hI hR (by omega)
      refine exs_freezeAll (ρ' := [some (.fr ((eL D.int) script)), some (.fr ((eL D.int) numbers)), some (.fr ((eL (eT2 (eL (eT3 D.str D.int D.int)) (eL (eT3 D.str D.str D.int)))) (((List.range (((1 : Int) + ((numbers.getD ((259 : Int)).toNat default) % (3 : Int)))).toNat).foldl (m_law_l0 numbers) (([] : List ((List (Str × Int × Int)) × (List (Str × Str × Int)))), ([] : List Task), ([] : List (List (Int × Str))))).1))), some (.fr ((eL eTask) (((List.range (((1 : Int) + ((numbers.getD ((259 : Int)).toNat default) % (3 : Int)))).toNat).foldl (m_law_l0 numbers) (([] : List ((List (Str × Int × Int)) × (List (Str × Str × Int)))), ([] : List Task), ([] : List (List (Int × Str))))).2.1))), some (.fr ((eL (eL (eT2 D.int D.str))) ((List.range (((numbers.getD ((258 : Int)).toNat default) % (3 : Int))).toNat).foldl (m_law_l1 numbers) ((List.range (((1 : Int) + ((numbers.getD ((259 : Int)).toNat default) % (3 : Int)))).toNat).foldl (m_law_l0 numbers) (([] : List ((List (Str × Int × Int)) × (List (Str × Str × Int)))), ([] : List Task), ([] : List (List (Int × Str))))).2.2))), none, none, none, none, none, none, none, none, none]) (.cons .fr (.cons .fr (.cons (.fl rfl) (.cons (.fl rfl) (.cons (.cl rfl (boOf_nest rfl (by decide))) (.cons .no (.cons .no (.cons .no (.cons .no (.cons .no (.cons .no (.cons .no (.cons .no (.cons .no .nil)))))))))))))) ?_
      show Exs _ _ _ ⟨[some (.fr ((eL D.int) script)), some (.fr ((eL D.int) numbers)), some (.fr ((eL (eT2 (eL (eT3 D.str D.int D.int)) (eL (eT3 D.str D.str D.int)))) (((List.range (((1 : Int) + ((numbers.getD ((259 : Int)).toNat default) % (3 : Int)))).toNat).foldl (m_law_l0 numbers) (([] : List ((List (Str × Int × Int)) × (List (Str × Str × Int)))), ([] : List Task), ([] : List (List (Int × Str))))).1))), some (.fr ((eL eTask) (((List.range (((1 : Int) + ((numbers.getD ((259 : Int)).toNat default) % (3 : Int)))).toNat).foldl (m_law_l0 numbers) (([] : List ((List (Str × Int × Int)) × (List (Str × Str × Int)))), ([] : List Task), ([] : List (List (Int × Str))))).2.1))), some (.fr ((eL (eL (eT2 D.int D.str))) ((List.range (((numbers.getD ((258 : Int)).toNat default) % (3 : Int))).toNat).foldl (m_law_l1 numbers) ((List.range (((1 : Int) + ((numbers.getD ((259 : Int)).toNat default) % (3 : Int)))).toNat).foldl (m_law_l0 numbers) (([] : List ((List (Str × Int × Int)) × (List (Str × Str × Int)))), ([] : List Task), ([] : List (List (Int × Str))))).2.2))), none, none, none, none, none, none, none, none, none], []⟩ _
      refine exs_cons (ex_set 8 (ev_call (ds := [(eL (eT2 (eL (eT3 D.str D.int D.int)) (eL (eT3 D.str D.str D.int)))) (((List.range (((1 : Int) + ((numbers.getD ((259 : Int)).toNat default) % (3 : Int)))).toNat).foldl (m_law_l0 numbers) (([] : List ((List (Str × Int × Int)) × (List (Str × Str × Int)))), ([] : List Task), ([] : List (List (Int × Str))))).1), (eL (eL (eT2 D.int D.str))) ((List.range (((numbers.getD ((258 : Int)).toNat default) % (3 : Int))).toNat).foldl (m_law_l1 numbers) ((List.range (((1 : Int) + ((numbers.getD ((259 : Int)).toNat default) % (3 : Int)))).toNat).foldl (m_law_l0 numbers) (([] : List ((List (Str × Int × Int)) × (List (Str × Str × Int)))), ([] : List Task), ([] : List (List (Int × Str))))).2.2)]) (ds' := []) (dvs := []) (dfs := []) O_law_fault (zhr.mono (by decide)) T.m_law_fault T.k_law_fault T.b_law_fault .nil (fun _ => .nil) (ea_cons (ev_var 2 rfl (.inl rfl) rfl) (ea_cons (ev_var 4 rfl (.inl rfl) rfl) ea_nil)) (fun _ zkk => ⟨((List.range (((1 : Int) + ((numbers.getD ((259 : Int)).toNat default) % (3 : Int)))).toNat).foldl (m_law_l0 numbers) (([] : List ((List (Str × Int × Int)) × (List (Str × Str × Int)))), ([] : List Task), ([] : List (List (Int × Str))))).1, ((List.range (((numbers.getD ((258 : Int)).toNat default) % (3 : Int))).toNat).foldl (m_law_l1 numbers) ((List.range (((1 : Int) + ((numbers.getD ((259 : Int)).toNat default) % (3 : Int)))).toNat).foldl (m_law_l0 numbers) (([] : List ((List (Str × Int × Int)) × (List (Str × Str × Int)))), ([] : List Task), ([] : List (List (Int × Str))))).2.2), rfl, rfl, (by walk_at "pre"), zkk⟩) (by exact rfl)) ?_ nd rfl (.inl rfl))
      show Exs _ _ _ ⟨[some (.fr ((eL D.int) script)), some (.fr ((eL D.int) numbers)), some (.fr ((eL (eT2 (eL (eT3 D.str D.int D.int)) (eL (eT3 D.str D.str D.int)))) (((List.range (((1 : Int) + ((numbers.getD ((259 : Int)).toNat default) % (3 : Int)))).toNat).foldl (m_law_l0 numbers) (([] : List ((List (Str × Int × Int)) × (List (Str × Str × Int)))), ([] : List Task), ([] : List (List (Int × Str))))).1))), some (.fr ((eL eTask) (((List.range (((1 : Int) + ((numbers.getD ((259 : Int)).toNat default) % (3 : Int)))).toNat).foldl (m_law_l0 numbers) (([] : List ((List (Str × Int × Int)) × (List (Str × Str × Int)))), ([] : List Task), ([] : List (List (Int × Str))))).2.1))), some (.fr ((eL (eL (eT2 D.int D.str))) ((List.range (((numbers.getD ((258 : Int)).toNat default) % (3 : Int))).toNat).foldl (m_law_l1 numbers) ((List.range (((1 : Int) + ((numbers.getD ((259 : Int)).toNat default) % (3 : Int)))).toNat).foldl (m_law_l0 numbers) (([] : List ((List (Str × Int × Int)) × (List (Str × Str × Int)))), ([] : List Task), ([] : List (List (Int × Str))))).2.2))), none, none, none, some (.fr ((eO (eT2 D.int D.int)) (m_law_fault (((List.range (((1 : Int) + ((numbers.getD ((259 : Int)).toNat default) % (3 : Int)))).toNat).foldl (m_law_l0 numbers) (([] : List ((List (Str × Int × Int)) × (List (Str × Str × Int)))), ([] : List Task), ([] : List (List (Int × Str))))).1) ((List.range (((numbers.getD ((258 : Int)).toNat default) % (3 : Int))).toNat).foldl (m_law_l1 numbers) ((List.range (((1 : Int) + ((numbers.getD ((259 : Int)).toNat default) % (3 : Int)))).toNat).foldl (m_law_l0 numbers) (([] : List ((List (Str × Int × Int)) × (List (Str × Str × Int)))), ([] : List Task), ([] : List (List (Int × Str))))).2.2)))), none, none, none, none, none], []⟩ _
      generalize zg_fault : (m_law_fault (((List.range (((1 : Int) + ((numbers.getD ((259 : Int)).toNat default) % (3 : Int)))).toNat).foldl (m_law_l0 numbers) (([] : List ((List (Str × Int × Int)) × (List (Str × Str × Int)))), ([] : List Task), ([] : List (List (Int × Str))))).1) ((List.range (((numbers.getD ((258 : Int)).toNat default) % (3 : Int))).toNat).foldl (m_law_l1 numbers) ((List.range (((1 : Int) + ((numbers.getD ((259 : Int)).toNat default) % (3 : Int)))).toNat).foldl (m_law_l0 numbers) (([] : List ((List (Str × Int × Int)) × (List (Str × Str × Int)))), ([] : List Task), ([] : List (List (Int × Str))))).2.2)) = fault
      show Exs _ _ _ ⟨[some (.fr ((eL D.int) script)), some (.fr ((eL D.int) numbers)), some (.fr ((eL (eT2 (eL (eT3 D.str D.int D.int)) (eL (eT3 D.str D.str D.int)))) (((List.range (((1 : Int) + ((numbers.getD ((259 : Int)).toNat default) % (3 : Int)))).toNat).foldl (m_law_l0 numbers) (([] : List ((List (Str × Int × Int)) × (List (Str × Str × Int)))), ([] : List Task), ([] : List (List (Int × Str))))).1))), some (.fr ((eL eTask) (((List.range (((1 : Int) + ((numbers.getD ((259 : Int)).toNat default) % (3 : Int)))).toNat).foldl (m_law_l0 numbers) (([] : List ((List (Str × Int × Int)) × (List (Str × Str × Int)))), ([] : List Task), ([] : List (List (Int × Str))))).2.1))), some (.fr ((eL (eL (eT2 D.int D.str))) ((List.range (((numbers.getD ((258 : Int)).toNat default) % (3 : Int))).toNat).foldl (m_law_l1 numbers) ((List.range (((1 : Int) + ((numbers.getD ((259 : Int)).toNat default) % (3 : Int)))).toNat).foldl (m_law_l0 numbers) (([] : List ((List (Str × Int × Int)) × (List (Str × Str × Int)))), ([] : List Task), ([] : List (List (Int × Str))))).2.2))), none, none, none, some (.fr ((eO (eT2 D.int D.int)) fault)), none, none, none, none, none], []⟩ _
      refine exs_cons (ex_set 9 (ev_makeK (c := "System") (fs := fSystem (m_System_init__ (((List.range (((1 : Int) + ((numbers.getD ((259 : Int)).toNat default) % (3 : Int)))).toNat).foldl (m_law_l0 numbers) (([] : List ((List (Str × Int × Int)) × (List (Str × Str × Int)))), ([] : List Task), ([] : List (List (Int × Str))))).2.1) [(1 : Int)])) (ds := [(eL eTask) (((List.range (((1 : Int) + ((numbers.getD ((259 : Int)).toNat default) % (3 : Int)))).toNat).foldl (m_law_l0 numbers) (([] : List ((List (Str × Int × Int)) × (List (Str × Str × Int)))), ([] : List Task), ([] : List (List (Int × Str))))).2.1)]) (es' := [(eL D.int) [(1 : Int)]]) (n := 1) (ks := ["table"]) T.q_System T.mk_System_init__ O_System_init__ (zhr.mono (by decide)) T.kb_System_init___1_table (ea_cons (ev_var 3 rfl (.inl rfl) rfl) ea_nil) (ek_cons (ev_lstF (enc := D.int) [(1 : Int)] (ea_cons ev_int ea_nil) rfl (by simp only [List.length_cons, List.length_nil]; decide)) ek_nil) rfl rfl (fun _ zkk => ⟨((List.range (((1 : Int) + ((numbers.getD ((259 : Int)).toNat default) % (3 : Int)))).toNat).foldl (m_law_l0 numbers) (([] : List ((List (Str × Int × Int)) × (List (Str × Str × Int)))), ([] : List Task), ([] : List (List (Int × Str))))).2.1, [(1 : Int)], rfl, rfl, (by walk_at "pre"), zkk⟩) (by exact rfl)) ?_ nd rfl (.inl rfl))
      show Exs _ _ _ ⟨[some (.fr ((eL D.int) script)), some (.fr ((eL D.int) numbers)), some (.fr ((eL (eT2 (eL (eT3 D.str D.int D.int)) (eL (eT3 D.str D.str D.int)))) (((List.range (((1 : Int) + ((numbers.getD ((259 : Int)).toNat default) % (3 : Int)))).toNat).foldl (m_law_l0 numbers) (([] : List ((List (Str × Int × Int)) × (List (Str × Str × Int)))), ([] : List Task), ([] : List (List (Int × Str))))).1))), some (.fr ((eL eTask) (((List.range (((1 : Int) + ((numbers.getD ((259 : Int)).toNat default) % (3 : Int)))).toNat).foldl (m_law_l0 numbers) (([] : List ((List (Str × Int × Int)) × (List (Str × Str × Int)))), ([] : List Task), ([] : List (List (Int × Str))))).2.1))), some (.fr ((eL (eL (eT2 D.int D.str))) ((List.range (((numbers.getD ((258 : Int)).toNat default) % (3 : Int))).toNat).foldl (m_law_l1 numbers) ((List.range (((1 : Int) + ((numbers.getD ((259 : Int)).toNat default) % (3 : Int)))).toNat).foldl (m_law_l0 numbers) (([] : List ((List (Str × Int × Int)) × (List (Str × Str × Int)))), ([] : List Task), ([] : List (List (Int × Str))))).2.2))), none, none, none, some (.fr ((eO (eT2 D.int D.int)) fault)), some (.fr (eSystem (m_System_init__ (((List.range (((1 : Int) + ((numbers.getD ((259 : Int)).toNat default) % (3 : Int)))).toNat).foldl (m_law_l0 numbers) (([] : List ((List (Str × Int × Int)) × (List (Str × Str × Int)))), ([] : List Task), ([] : List (List (Int × Str))))).2.1) [(1 : Int)]))), none, none, none, none], []⟩ _
      generalize zg_system : (m_System_init__ (((List.range (((1 : Int) + ((numbers.getD ((259 : Int)).toNat default) % (3 : Int)))).toNat).foldl (m_law_l0 numbers) (([] : List ((List (Str × Int × Int)) × (List (Str × Str × Int)))), ([] : List Task), ([] : List (List (Int × Str))))).2.1) [(1 : Int)]) = system
      show Exs _ _ _ ⟨[some (.fr ((eL D.int) script)), some (.fr ((eL D.int) numbers)), some (.fr ((eL (eT2 (eL (eT3 D.str D.int D.int)) (eL (eT3 D.str D.str D.int)))) (((List.range (((1 : Int) + ((numbers.getD ((259 : Int)).toNat default) % (3 : Int)))).toNat).foldl (m_law_l0 numbers) (([] : List ((List (Str × Int × Int)) × (List (Str × Str × Int)))), ([] : List Task), ([] : List (List (Int × Str))))).1))), some (.fr ((eL eTask) (((List.range (((1 : Int) + ((numbers.getD ((259 : Int)).toNat default) % (3 : Int)))).toNat).foldl (m_law_l0 numbers) (([] : List ((List (Str × Int × Int)) × (List (Str × Str × Int)))), ([] : List Task), ([] : List (List (Int × Str))))).2.1))), some (.fr ((eL (eL (eT2 D.int D.str))) ((List.range (((numbers.getD ((258 : Int)).toNat default) % (3 : Int))).toNat).foldl (m_law_l1 numbers) ((List.range (((1 : Int) + ((numbers.getD ((259 : Int)).toNat default) % (3 : Int)))).toNat).foldl (m_law_l0 numbers) (([] : List ((List (Str × Int × Int)) × (List (Str × Str × Int)))), ([] : List Task), ([] : List (List (Int × Str))))).2.2))), none, none, none, some (.fr ((eO (eT2 D.int D.int)) fault)), some (.fr (eSystem system)), none, none, none, none], []⟩ _
      have hsy := sys14 hI (by omega)
      rw [zg_system] at hsy
      refine exs_cons (ex_setLcM 10 (enc2 := (eL (eT2 D.int D.str))) 199 (fun zc1 : List (Int × Str) => zc1) _ rfl nd rfl rfl (sw_true rfl rfl rfl (by decide +kernel)) (blkOk_by (N := ["script", "numbers", "parts", "tasks", "courses", "k", "kinds", "ways", "fault", "system", "passed", "actual", "e", "course"]) (sc := defScope s_law) (own := [(("course" : Str), 13)]) (by decide +kernel)) (src_listT (ev_var 4 rfl (.inl rfl) rfl)) (by simp [names]) (by decide) (by walk_at "sd") (fun _ zc1 _ zhyzc1 _ _ _ _ _ => (eg_nameC 13 nd rfl (.inl rfl) (by decide) (.inr rfl))) (fun _ zc1 _ zhyzc1 _ _ _ _ _ => (ev_callTy (ds := [(eL (eT2 D.int D.str)) zc1]) c_listL (ea_cons (ev_var 13 rfl (.inl rfl) rfl) ea_nil) (by exact rfl) T.n_list (by decide +kernel))) ?_)
      show Exs _ _ _ ⟨[some (.fr ((eL D.int) script)), some (.fr ((eL D.int) numbers)), some (.fr ((eL (eT2 (eL (eT3 D.str D.int D.int)) (eL (eT3 D.str D.str D.int)))) (((List.range (((1 : Int) + ((numbers.getD ((259 : Int)).toNat default) % (3 : Int)))).toNat).foldl (m_law_l0 numbers) (([] : List ((List (Str × Int × Int)) × (List (Str × Str × Int)))), ([] : List Task), ([] : List (List (Int × Str))))).1))), some (.fr ((eL eTask) (((List.range (((1 : Int) + ((numbers.getD ((259 : Int)).toNat default) % (3 : Int)))).toNat).foldl (m_law_l0 numbers) (([] : List ((List (Str × Int × Int)) × (List (Str × Str × Int)))), ([] : List Task), ([] : List (List (Int × Str))))).2.1))), some (.fr ((eL (eL (eT2 D.int D.str))) ((List.range (((numbers.getD ((258 : Int)).toNat default) % (3 : Int))).toNat).foldl (m_law_l1 numbers) ((List.range (((1 : Int) + ((numbers.getD ((259 : Int)).toNat default) % (3 : Int)))).toNat).foldl (m_law_l0 numbers) (([] : List ((List (Str × Int × Int)) × (List (Str × Str × Int)))), ([] : List Task), ([] : List (List (Int × Str))))).2.2))), none, none, none, some (.fr ((eO (eT2 D.int D.int)) fault)), some (.fr (eSystem system)), some (.fr ((eL (eL (eT2 D.int D.str))) (((List.range (((numbers.getD ((258 : Int)).toNat default) % (3 : Int))).toNat).foldl (m_law_l1 numbers) ((List.range (((1 : Int) + ((numbers.getD ((259 : Int)).toNat default) % (3 : Int)))).toNat).foldl (m_law_l0 numbers) (([] : List ((List (Str × Int × Int)) × (List (Str × Str × Int)))), ([] : List Task), ([] : List (List (Int × Str))))).2.2).map (fun zc1 : List (Int × Str) => zc1)))), none, none, none], []⟩ _
      generalize zg_passed : (((List.range (((numbers.getD ((258 : Int)).toNat default) % (3 : Int))).toNat).foldl (m_law_l1 numbers) ((List.range (((1 : Int) + ((numbers.getD ((259 : Int)).toNat default) % (3 : Int)))).toNat).foldl (m_law_l0 numbers) (([] : List ((List (Str × Int × Int)) × (List (Str × Str × Int)))), ([] : List Task), ([] : List (List (Int × Str))))).2.2).map (fun zc1 : List (Int × Str) => zc1)) = passed
      show Exs _ _ _ ⟨[some (.fr ((eL D.int) script)), some (.fr ((eL D.int) numbers)), some (.fr ((eL (eT2 (eL (eT3 D.str D.int D.int)) (eL (eT3 D.str D.str D.int)))) (((List.range (((1 : Int) + ((numbers.getD ((259 : Int)).toNat default) % (3 : Int)))).toNat).foldl (m_law_l0 numbers) (([] : List ((List (Str × Int × Int)) × (List (Str × Str × Int)))), ([] : List Task), ([] : List (List (Int × Str))))).1))), some (.fr ((eL eTask) (((List.range (((1 : Int) + ((numbers.getD ((259 : Int)).toNat default) % (3 : Int)))).toNat).foldl (m_law_l0 numbers) (([] : List ((List (Str × Int × Int)) × (List (Str × Str × Int)))), ([] : List Task), ([] : List (List (Int × Str))))).2.1))), some (.fr ((eL (eL (eT2 D.int D.str))) ((List.range (((numbers.getD ((258 : Int)).toNat default) % (3 : Int))).toNat).foldl (m_law_l1 numbers) ((List.range (((1 : Int) + ((numbers.getD ((259 : Int)).toNat default) % (3 : Int)))).toNat).foldl (m_law_l0 numbers) (([] : List ((List (Str × Int × Int)) × (List (Str × Str × Int)))), ([] : List Task), ([] : List (List (Int × Str))))).2.2))), none, none, none, some (.fr ((eO (eT2 D.int D.int)) fault)), some (.fr (eSystem system)), some (.fr ((eL (eL (eT2 D.int D.str))) passed)), none, none, none], []⟩ _
      have hps := pass14 hR
      rw [zg_passed] at hps
      have hchk := And.intro hsy.1 (And.intro hsy.2 (And.intro (show passed.length ≤ 6 by omega) hps.2))
      rcases zh1 : (m_check_releasesx system passed) with _ | zx
      · skip
        refine exs_cons (ex_tryThru ?_)
        refine exs_one (ex_set 11 (ev_call (ds := [eSystem system, (eL (eL (eT2 D.int D.str))) passed]) (ds' := []) (dvs := []) (dfs := []) O_check_releases (zhr.mono (by decide)) T.m_check_releases T.k_check_releases T.b_check_releases .nil (fun _ => .nil) (ea_cons (ev_var 9 rfl (.inl rfl) rfl) (ea_cons (ev_var 10 rfl (.inl rfl) rfl) ea_nil)) (fun _ zkk => ⟨system, passed, rfl, rfl, (by walk_at "pre"), zkk⟩) (by exact rfl)) ?_ nd rfl (.inl rfl))
        show Exs _ _ _ ⟨[some (.fr ((eL D.int) script)), some (.fr ((eL D.int) numbers)), some (.fr ((eL (eT2 (eL (eT3 D.str D.int D.int)) (eL (eT3 D.str D.str D.int)))) (((List.range (((1 : Int) + ((numbers.getD ((259 : Int)).toNat default) % (3 : Int)))).toNat).foldl (m_law_l0 numbers) (([] : List ((List (Str × Int × Int)) × (List (Str × Str × Int)))), ([] : List Task), ([] : List (List (Int × Str))))).1))), some (.fr ((eL eTask) (((List.range (((1 : Int) + ((numbers.getD ((259 : Int)).toNat default) % (3 : Int)))).toNat).foldl (m_law_l0 numbers) (([] : List ((List (Str × Int × Int)) × (List (Str × Str × Int)))), ([] : List Task), ([] : List (List (Int × Str))))).2.1))), some (.fr ((eL (eL (eT2 D.int D.str))) ((List.range (((numbers.getD ((258 : Int)).toNat default) % (3 : Int))).toNat).foldl (m_law_l1 numbers) ((List.range (((1 : Int) + ((numbers.getD ((259 : Int)).toNat default) % (3 : Int)))).toNat).foldl (m_law_l0 numbers) (([] : List ((List (Str × Int × Int)) × (List (Str × Str × Int)))), ([] : List Task), ([] : List (List (Int × Str))))).2.2))), none, none, none, some (.fr ((eO (eT2 D.int D.int)) fault)), some (.fr (eSystem system)), some (.fr ((eL (eL (eT2 D.int D.str))) passed)), some (.fr (eN (m_check_releases system passed))), none, none], []⟩ _
        refine exs_one (ex_ret (ev_andP Iff.rfl (ev_cmp (o_isO (enc := (eT2 D.int D.int)) (y := fault) (fun _ => rfl)) (ev_var 8 rfl (.inl rfl) rfl) ev_non (by rfl)) (fun zhp => (ev_andP Iff.rfl (ev_cmp (o_isO (enc := D.int) (y := (none : Option Int)) (fun _ => rfl)) (ev_var 11 rfl (.inl rfl) rfl) ev_non (by rfl)) (fun zhp => (ev_one (ev_cmp (o_eqD (e := (eL (eL (eT2 D.int D.str)))) (x := passed) (y := ((List.range (((numbers.getD ((258 : Int)).toNat default) % (3 : Int))).toNat).foldl (m_law_l1 numbers) ((List.range (((1 : Int) + ((numbers.getD ((259 : Int)).toNat default) % (3 : Int)))).toNat).foldl (m_law_l0 numbers) (([] : List ((List (Str × Int × Int)) × (List (Str × Str × Int)))), ([] : List Task), ([] : List (List (Int × Str))))).2.2)) zhr.units (ee_L (ee_L (ee_T2 ee_int ee_str)))) (ev_var 10 rfl (.inl rfl) rfl) (ev_var 4 rfl (.inl rfl) rfl) (nomark _))))))) ?_)
        have efin : m_law script = ((fault.isNone) && (((none : Option Int).isNone) && (decide (passed = ((List.range (((numbers.getD ((258 : Int)).toNat default) % (3 : Int))).toNat).foldl (m_law_l1 numbers) ((List.range (((1 : Int) + ((numbers.getD ((259 : Int)).toNat default) % (3 : Int)))).toNat).foldl (m_law_l0 numbers) (([] : List ((List (Str × Int × Int)) × (List (Str × Str × Int)))), ([] : List Task), ([] : List (List (Int × Str))))).2.2))))) := by subst zg_passed; subst zg_system; subst zg_fault; subst zg_numbers; unfold m_law; dsimp only; simp only [not_true_eq_false, not_false_eq_true, ↓reduceIte, ↓zh1]
        rw [efin] at zk
        exact zk _
      · skip
        obtain ⟨zhc, zhf⟩ := xc_check_releasesx zh1
        refine exs_cons (ex_tryAsF (x := zx) (S1 := ⟨[some (.fr ((eL D.int) script)), some (.fr ((eL D.int) numbers)), some (.fr ((eL (eT2 (eL (eT3 D.str D.int D.int)) (eL (eT3 D.str D.str D.int)))) (((List.range (((1 : Int) + ((numbers.getD ((259 : Int)).toNat default) % (3 : Int)))).toNat).foldl (m_law_l0 numbers) (([] : List ((List (Str × Int × Int)) × (List (Str × Str × Int)))), ([] : List Task), ([] : List (List (Int × Str))))).1))), some (.fr ((eL eTask) (((List.range (((1 : Int) + ((numbers.getD ((259 : Int)).toNat default) % (3 : Int)))).toNat).foldl (m_law_l0 numbers) (([] : List ((List (Str × Int × Int)) × (List (Str × Str × Int)))), ([] : List Task), ([] : List (List (Int × Str))))).2.1))), some (.fr ((eL (eL (eT2 D.int D.str))) ((List.range (((numbers.getD ((258 : Int)).toNat default) % (3 : Int))).toNat).foldl (m_law_l1 numbers) ((List.range (((1 : Int) + ((numbers.getD ((259 : Int)).toNat default) % (3 : Int)))).toNat).foldl (m_law_l0 numbers) (([] : List ((List (Str × Int × Int)) × (List (Str × Str × Int)))), ([] : List Task), ([] : List (List (Int × Str))))).2.2))), none, none, none, some (.fr ((eO (eT2 D.int D.int)) fault)), some (.fr (eSystem system)), some (.fr ((eL (eL (eT2 D.int D.str))) passed)), none, none, none], []⟩) 12 rfl rfl nd rfl rfl T.q_InvalidReleases (by exact rfl) (by rw [zhc]; exact T.q_InvalidReleases) T.ex_InvalidReleases_InvalidReleases ?_ ?_)
        · intro zB2 zpn zxe hTk
          exact exs_head (exr_set (st := .Pass ⟨0, 0, 0, 0⟩) 11 (er_call (ds := [eSystem system, (eL (eL (eT2 D.int D.str))) passed]) hTk O_check_releasesx (zhr.mono (by decide)) T.m_check_releasesx T.k_check_releasesx T.b_check_releasesx (ea_cons (ev_var 9 rfl (.inl rfl) rfl) (ea_cons (ev_var 10 rfl (.inl rfl) rfl) ea_nil)) (fun _ zkk => ⟨system, passed, rfl, rfl, (by walk_at "pre"), _, zh1, zkk⟩) ⟨rfl, rfl⟩ (by exact rfl)) nd rfl (.inl rfl))
        · intro zB3 za zoe zd zpn zhz zhv zhd
          rw [zhf] at zhd
          show Exs _ _ _ ⟨[some (.fr ((eL D.int) script)), some (.fr ((eL D.int) numbers)), some (.fr ((eL (eT2 (eL (eT3 D.str D.int D.int)) (eL (eT3 D.str D.str D.int)))) (((List.range (((1 : Int) + ((numbers.getD ((259 : Int)).toNat default) % (3 : Int)))).toNat).foldl (m_law_l0 numbers) (([] : List ((List (Str × Int × Int)) × (List (Str × Str × Int)))), ([] : List Task), ([] : List (List (Int × Str))))).1))), some (.fr ((eL eTask) (((List.range (((1 : Int) + ((numbers.getD ((259 : Int)).toNat default) % (3 : Int)))).toNat).foldl (m_law_l0 numbers) (([] : List ((List (Str × Int × Int)) × (List (Str × Str × Int)))), ([] : List Task), ([] : List (List (Int × Str))))).2.1))), some (.fr ((eL (eL (eT2 D.int D.str))) ((List.range (((numbers.getD ((258 : Int)).toNat default) % (3 : Int))).toNat).foldl (m_law_l1 numbers) ((List.range (((1 : Int) + ((numbers.getD ((259 : Int)).toNat default) % (3 : Int)))).toNat).foldl (m_law_l0 numbers) (([] : List ((List (Str × Int × Int)) × (List (Str × Str × Int)))), ([] : List Task), ([] : List (List (Int × Str))))).2.2))), none, none, none, some (.fr ((eO (eT2 D.int D.int)) fault)), some (.fr (eSystem system)), some (.fr ((eL (eL (eT2 D.int D.str))) passed)), none, some (.xv (.ref za)), none], []⟩ _
          refine exs_cons (ex_ifP (bd_or Iff.rfl (bd_or (bd_not Iff.rfl) (bd_not Iff.rfl))) (Ew.et (ew_orP Iff.rfl (et_cmp (o_isO (enc := (eT2 D.int D.int)) (y := fault) (fun _ => rfl)) (ev_var 8 rfl (.inl rfl) rfl) ev_non (by rfl)) (fun zhp => (ew_orP (bd_not Iff.rfl) (et_not (et_val (ev_isF (fs := ([("release_number", D.int (exI zx "release_number")), ("task_number", D.int (exI zx "task_number"))] : List (Str × D))) (i := 12) (bb := true) T.xc_InvalidReleases zhz zhv zhd (by simp) rfl (.inl rfl) rfl T.ki_InvalidReleases_NeverlateError (by exact rfl) T.n_isinstance (by exact rfl) T.q_NeverlateError))) (fun zhp => (ew_or1 (et_not (et_val (ev_isFB (fs := ([("release_number", D.int (exI zx "release_number")), ("task_number", D.int (exI zx "task_number"))] : List (Str × D))) (i := 12) (bb := true) T.xc_InvalidReleases zhz zhv zhd (by simp) rfl (.inl rfl) rfl T.kb_InvalidReleases_ValueError (by exact rfl) T.n_isinstance (by exact rfl) T.n_ValueError (by decide +kernel)))))))))) (fun (zh2 : ((fault.isNone = true) ∨ ((¬ (true = true)) ∨ (¬ (true = true))))) => ?_) (fun (zh2 : ¬ ((fault.isNone = true) ∨ ((¬ (true = true)) ∨ (¬ (true = true))))) => ?_))
          · skip
            refine exs_one (ex_ret ev_bl ?_)
            have efin : m_law script = false := by subst zg_passed; subst zg_system; subst zg_fault; subst zg_numbers; unfold m_law; dsimp only; simp only [not_true_eq_false, not_false_eq_true, ↓reduceIte, ↓zh1, ↓if_pos zh2]
            rw [efin] at zk
            exact zk _
          · skip
            refine exs_nil ?_
            show Exs _ _ _ ⟨[some (.fr ((eL D.int) script)), some (.fr ((eL D.int) numbers)), some (.fr ((eL (eT2 (eL (eT3 D.str D.int D.int)) (eL (eT3 D.str D.str D.int)))) (((List.range (((1 : Int) + ((numbers.getD ((259 : Int)).toNat default) % (3 : Int)))).toNat).foldl (m_law_l0 numbers) (([] : List ((List (Str × Int × Int)) × (List (Str × Str × Int)))), ([] : List Task), ([] : List (List (Int × Str))))).1))), some (.fr ((eL eTask) (((List.range (((1 : Int) + ((numbers.getD ((259 : Int)).toNat default) % (3 : Int)))).toNat).foldl (m_law_l0 numbers) (([] : List ((List (Str × Int × Int)) × (List (Str × Str × Int)))), ([] : List Task), ([] : List (List (Int × Str))))).2.1))), some (.fr ((eL (eL (eT2 D.int D.str))) ((List.range (((numbers.getD ((258 : Int)).toNat default) % (3 : Int))).toNat).foldl (m_law_l1 numbers) ((List.range (((1 : Int) + ((numbers.getD ((259 : Int)).toNat default) % (3 : Int)))).toNat).foldl (m_law_l0 numbers) (([] : List ((List (Str × Int × Int)) × (List (Str × Str × Int)))), ([] : List Task), ([] : List (List (Int × Str))))).2.2))), none, none, none, some (.fr ((eO (eT2 D.int D.int)) fault)), some (.fr (eSystem system)), some (.fr ((eL (eL (eT2 D.int D.str))) passed)), none, some (.xv (.ref za)), none], []⟩ _
            refine exs_cons (ex_ifP (bd_or Iff.rfl (bd_or Iff.rfl Iff.rfl)) (Ew.et (ew_orP Iff.rfl (et_val (ev_isF (fs := ([("release_number", D.int (exI zx "release_number")), ("task_number", D.int (exI zx "task_number"))] : List (Str × D))) (i := 12) (bb := false) T.xc_InvalidReleases zhz zhv zhd (by simp) rfl (.inl rfl) rfl T.ki_InvalidReleases_UnknownName (by exact rfl) T.n_isinstance (by exact rfl) T.q_UnknownName)) (fun zhp => (ew_orP Iff.rfl (et_val (ev_isi (T := "bool") (b := false) (ev_xf (fs := ([("release_number", D.int (exI zx "release_number")), ("task_number", D.int (exI zx "task_number"))] : List (Str × D))) (i := 12) T.xd_InvalidReleases T.nf_InvalidReleases_task_number zhz zhv zhd rfl rfl (.inl rfl) rfl) rfl (by decide) (by exact rfl) T.n_isinstance (by exact rfl) T.n_bool (by decide +kernel))) (fun zhp => (ew_or1 (et_val (ev_isi (T := "bool") (b := false) (ev_xf (fs := ([("release_number", D.int (exI zx "release_number")), ("task_number", D.int (exI zx "task_number"))] : List (Str × D))) (i := 12) T.xd_InvalidReleases T.nf_InvalidReleases_release_number zhz zhv zhd rfl rfl (.inl rfl) rfl) rfl (by decide) (by exact rfl) T.n_isinstance (by exact rfl) T.n_bool (by decide +kernel))))))))) (fun (zh3 : ((false = true) ∨ ((false = true) ∨ (false = true)))) => ?_) (fun (zh3 : ¬ ((false = true) ∨ ((false = true) ∨ (false = true)))) => ?_))
            · skip
              refine exs_one (ex_ret ev_bl ?_)
              have efin : m_law script = false := by subst zg_passed; subst zg_system; subst zg_fault; subst zg_numbers; unfold m_law; dsimp only; simp only [not_true_eq_false, not_false_eq_true, ↓reduceIte, ↓zh1, ↓if_neg zh2, ↓if_pos zh3]
              rw [efin] at zk
              exact zk _
            · skip
              refine exs_nil ?_
              show Exs _ _ _ ⟨[some (.fr ((eL D.int) script)), some (.fr ((eL D.int) numbers)), some (.fr ((eL (eT2 (eL (eT3 D.str D.int D.int)) (eL (eT3 D.str D.str D.int)))) (((List.range (((1 : Int) + ((numbers.getD ((259 : Int)).toNat default) % (3 : Int)))).toNat).foldl (m_law_l0 numbers) (([] : List ((List (Str × Int × Int)) × (List (Str × Str × Int)))), ([] : List Task), ([] : List (List (Int × Str))))).1))), some (.fr ((eL eTask) (((List.range (((1 : Int) + ((numbers.getD ((259 : Int)).toNat default) % (3 : Int)))).toNat).foldl (m_law_l0 numbers) (([] : List ((List (Str × Int × Int)) × (List (Str × Str × Int)))), ([] : List Task), ([] : List (List (Int × Str))))).2.1))), some (.fr ((eL (eL (eT2 D.int D.str))) ((List.range (((numbers.getD ((258 : Int)).toNat default) % (3 : Int))).toNat).foldl (m_law_l1 numbers) ((List.range (((1 : Int) + ((numbers.getD ((259 : Int)).toNat default) % (3 : Int)))).toNat).foldl (m_law_l0 numbers) (([] : List ((List (Str × Int × Int)) × (List (Str × Str × Int)))), ([] : List Task), ([] : List (List (Int × Str))))).2.2))), none, none, none, some (.fr ((eO (eT2 D.int D.int)) fault)), some (.fr (eSystem system)), some (.fr ((eL (eL (eT2 D.int D.str))) passed)), none, some (.xv (.ref za)), none], []⟩ _
              refine exs_one (ex_ret (ev_andP bd_d (ev_cmp (o_eqD (e := (eO (eT2 D.int D.int))) (x := (some ((exI zx "task_number"), (exI zx "release_number")))) (y := fault) zhr.units (ee_O (ee_T2 ee_int ee_int) nn_T2)) (ev_tup (ds := [D.int (exI zx "task_number"), D.int (exI zx "release_number")]) (ea_cons (ev_xf (fs := ([("release_number", D.int (exI zx "release_number")), ("task_number", D.int (exI zx "task_number"))] : List (Str × D))) (i := 12) T.xd_InvalidReleases T.nf_InvalidReleases_task_number zhz zhv zhd rfl rfl (.inl rfl) rfl) (ea_cons (ev_xf (fs := ([("release_number", D.int (exI zx "release_number")), ("task_number", D.int (exI zx "task_number"))] : List (Str × D))) (i := 12) T.xd_InvalidReleases T.nf_InvalidReleases_release_number zhz zhv zhd rfl rfl (.inl rfl) rfl) ea_nil)) (by simp only [List.length_cons, List.length_nil]; decide)) (ev_var 8 rfl (.inl rfl) rfl) (nomark _)) (fun zhp => (ev_one (ev_cmp (o_eqD (e := (eL (eL (eT2 D.int D.str)))) (x := passed) (y := ((List.range (((numbers.getD ((258 : Int)).toNat default) % (3 : Int))).toNat).foldl (m_law_l1 numbers) ((List.range (((1 : Int) + ((numbers.getD ((259 : Int)).toNat default) % (3 : Int)))).toNat).foldl (m_law_l0 numbers) (([] : List ((List (Str × Int × Int)) × (List (Str × Str × Int)))), ([] : List Task), ([] : List (List (Int × Str))))).2.2)) zhr.units (ee_L (ee_L (ee_T2 ee_int ee_str)))) (ev_var 10 rfl (.inl rfl) rfl) (ev_var 4 rfl (.inl rfl) rfl) (nomark _))))) ?_)
              have efin : m_law script = ((decide ((some ((exI zx "task_number"), (exI zx "release_number"))) = fault)) && (decide (passed = ((List.range (((numbers.getD ((258 : Int)).toNat default) % (3 : Int))).toNat).foldl (m_law_l1 numbers) ((List.range (((1 : Int) + ((numbers.getD ((259 : Int)).toNat default) % (3 : Int)))).toNat).foldl (m_law_l0 numbers) (([] : List ((List (Str × Int × Int)) × (List (Str × Str × Int)))), ([] : List Task), ([] : List (List (Int × Str))))).2.2)))) := by subst zg_passed; subst zg_system; subst zg_fault; subst zg_numbers; unfold m_law; dsimp only; simp only [not_true_eq_false, not_false_eq_true, ↓reduceIte, ↓zh1, ↓if_neg zh2, ↓if_neg zh3]
              rw [efin] at zk
              exact zk _
theorem number_inj {t : Task} {a b : Str} (ha : a ∈ t.kinds.map (·.1)) (hb : b ∈ t.kinds.map (·.1)) : m_Task_kind_number t a = m_Task_kind_number t b ↔ a = b := by
  obtain ⟨i, e1, h1, ⟨c1, q1, r1⟩, _⟩ := kind_number_spec ha
  obtain ⟨j, e2, h2, ⟨c2, q2, r2⟩, _⟩ := kind_number_spec hb
  rw [e1, e2]
  constructor
  · intro h
    have : i = j := by omega
    subst this
    rw [q1] at q2; cases q2; rw [← r1, ← r2]
  · rintro rfl
    rw [e1] at e2; exact e2
theorem kind_name {t : Task} {a : Str} (ha : a ∈ t.kinds.map (·.1)) : (m_Task_kind t a).1 = a := by
  obtain ⟨i, e1, h1, ⟨c1, q1, r1⟩, _⟩ := kind_number_spec ha
  unfold m_Task_kind
  rw [e1, Int.toNat_natCast, List.getD_eq_getElem?_getD, q1]; exact r1
theorem follows_iff {t : Task} (ok : t.ok) {a b : Int × Str} (h1 : a.2 ∈ t.kinds.map (·.1)) (h2 : b.2 ∈ t.kinds.map (·.1)) : m_follows t a b = true ↔ ∃ w ∈ t.ways, w.1 = a.2 ∧ w.2.1 = b.2 ∧ w.2.2 ≤ b.1 - a.1 := by
  unfold m_follows m_Task_ways_from
  dsimp only
  rw [kind_name h1, List.any_eq_true]
  constructor
  · rintro ⟨x, hx, q⟩
    obtain ⟨y, hy, rfl⟩ := List.mem_map.mp hx
    obtain ⟨w, hw, rfl⟩ := List.mem_map.mp hy
    obtain ⟨hw1, hw2⟩ := List.mem_filter.mp hw
    dsimp only at q
    rw [Bool.and_eq_true, decide_eq_true_iff, decide_eq_true_iff] at q
    exact ⟨w, hw1, of_decide_eq_true hw2, (number_inj (ok.wn w hw1).2 h2).mp q.1, q.2⟩
  · rintro ⟨w, hw, q1, q2, q3⟩
    refine ⟨true, List.mem_map.mpr ⟨(w.2.1, w.2.2), List.mem_map.mpr ⟨w, List.mem_filter.mpr ⟨hw, decide_eq_true q1⟩, rfl⟩, ?_⟩, rfl⟩
    dsimp only
    rw [q2, decide_eq_true rfl, decide_eq_true q3]; rfl
def Gd (t : Task) (row : List (Int × Str)) (k : Nat) : Prop := (row.getD k default).2 ∈ t.kinds.map (·.1) ∧ (k = 0 ∨ ∃ w ∈ t.ways, w.1 = (row.getD (k - 1) default).2 ∧ w.2.1 = (row.getD k default).2 ∧ w.2.2 ≤ (row.getD k default).1 - (row.getD (k - 1) default).1)
theorem at_iff {t : Task} (ok : t.ok) {row : List (Int × Str)} {k : Nat} (hp : k = 0 ∨ (row.getD (k - 1) default).2 ∈ t.kinds.map (·.1)) : m_is_legal_at t row ((0 : Int) + (k : Int)) = true ↔ Gd t row k := by
  unfold m_is_legal_at Gd
  dsimp only
  rw [show ((0 : Int) + (k : Int)).toNat = k by omega, show ((0 : Int) + (k : Int) - 1).toNat = k - 1 by omega]
  by_cases h : (row.getD k default).2 ∈ t.kinds.map (·.1)
  · rw [if_neg (fun q => q h), Bool.or_eq_true, decide_eq_true_iff]
    constructor
    · rintro (q | q)
      · exact ⟨h, .inl (by omega)⟩
      · refine ⟨h, ?_⟩
        rcases hp with z | z
        · exact .inl z
        · exact .inr ((follows_iff ok z h).mp q)
    · rintro ⟨_, q | q⟩
      · exact .inl (by omega)
      · rcases hp with z | z
        · exact .inl (by omega)
        · exact .inr ((follows_iff ok z h).mpr q)
  · rw [if_pos h]
    exact ⟨fun q => (by cases q), fun q => absurd q.1 h⟩
theorem known_iff (name : Str) : ∀ kinds : List (Str × Int × Int), m_law_known kinds name = true ↔ name ∈ kinds.map (·.1)
  | [] => by unfold m_law_known runE; simp
  | k :: ks => by
    have ih := known_iff name ks
    unfold m_law_known at ih ⊢
    rw [runE_cons]
    by_cases h : k.1 = name
    · rw [show m_law_known_l0 name () k = .error true from by unfold m_law_known_l0; rw [if_pos h]]
      exact ⟨fun _ => by rw [List.map_cons, h]; exact List.mem_cons_self, fun _ => rfl⟩
    · rw [show m_law_known_l0 name () k = .ok () from by unfold m_law_known_l0; rw [if_neg h]]
      dsimp only
      rw [ih, List.map_cons, List.mem_cons]
      exact ⟨fun q => .inr q, fun q => q.resolve_left (fun z => h z.symm)⟩
theorem ways_iff (course : List (Int × Str)) (place : Int) (b : Int × Str) : ∀ ws : List (Str × Str × Int), (match runE (m_law_good_l0 course place b) ws () with | .error r => r | .ok _ => false) = true ↔ ∃ w ∈ ws, w.1 = b.2 ∧ w.2.1 = (course.getD place.toNat default).2 ∧ w.2.2 ≤ (course.getD place.toNat default).1 - b.1
  | [] => by simp [runE]
  | w :: r => by
    rw [runE_cons]
    by_cases h : w.1 = b.2 ∧ w.2.1 = (course.getD place.toNat default).2 ∧ w.2.2 ≤ (course.getD place.toNat default).1 - b.1
    · rw [show m_law_good_l0 course place b () w = .error true from by unfold m_law_good_l0; rw [if_pos h]]
      exact ⟨fun _ => ⟨w, List.mem_cons_self, h⟩, fun _ => rfl⟩
    · rw [show m_law_good_l0 course place b () w = .ok () from by unfold m_law_good_l0; rw [if_neg h]]
      dsimp only
      rw [ways_iff course place b r]
      constructor
      · rintro ⟨x, hx, q⟩; exact ⟨x, List.mem_cons_of_mem _ hx, q⟩
      · rintro ⟨x, hx, q⟩
        rcases List.mem_cons.mp hx with rfl | hx
        · exact absurd q h
        · exact ⟨x, hx, q⟩
theorem good_iff {t : Task} {row : List (Int × Str)} {k : Nat} : m_law_good t.kinds t.ways row ((0 : Int) + (k : Int)) = true ↔ Gd t row k := by
  unfold m_law_good Gd
  dsimp only
  by_cases h : (row.getD ((0 : Int) + (k : Int)).toNat default).2 ∈ t.kinds.map (·.1)
  · rw [if_neg (fun q => q ((known_iff _ _).mpr h))]
    rw [show ((0 : Int) + (k : Int)).toNat = k by omega] at h
    by_cases hk : ((0 : Int) + (k : Int)) = 0
    · rw [if_pos hk]; exact ⟨fun _ => ⟨h, .inl (by omega)⟩, fun _ => rfl⟩
    · rw [if_neg hk]
      refine Iff.trans (ways_iff row ((0 : Int) + (k : Int)) _ t.ways) ?_
      rw [show ((0 : Int) + (k : Int) - 1).toNat = k - 1 by omega, show ((0 : Int) + (k : Int)).toNat = k by omega]
      exact ⟨fun q => ⟨h, .inr q⟩, fun q => q.2.resolve_left (by omega)⟩
  · rw [if_pos (fun q => h ((known_iff _ _).mp q))]
    rw [show ((0 : Int) + (k : Int)).toNat = k by omega] at h
    exact ⟨fun q => (by cases q), fun q => absurd q.1 h⟩
def xe (p : Int × Int) : Exn := ⟨"InvalidReleases", [("release_number", D.int p.2), ("task_number", D.int p.1)]⟩
def cv : Except (Option (Int × Int)) Unit → Except (Option Exn) Unit
  | .ok _ => .ok ()
  | .error r => .error (r.map xe)
theorem row_run {t : Task} (ok : t.ok) {parts : List (List (Str × Int × Int) × List (Str × Str × Int))} {courses : List (List (Int × Str))} {number : Int} {row : List (Int × Str)} (hp : parts.getD number.toNat default = (t.kinds, t.ways)) (hr : courses.getD number.toNat default = row) : ∀ m k : Nat, (k = 0 ∨ (row.getD (k - 1) default).2 ∈ t.kinds.map (·.1)) →
    runE (m_check_releasesx_l1 number t row) (List.range' k m) () = cv (runE (m_law_fault_l1 parts courses number) (List.range' k m) ())
  | 0, k, _ => rfl
  | m + 1, k, hk => by
    rw [List.range'_succ, runE_cons, runE_cons]
    by_cases h : Gd t row k
    · rw [show m_check_releasesx_l1 number t row () k = .ok () from by unfold m_check_releasesx_l1; rw [if_neg (fun q => q ((at_iff ok hk).mpr h))],
        show m_law_fault_l1 parts courses number () k = .ok () from by unfold m_law_fault_l1; rw [hp, hr, if_neg (fun q => q (good_iff.mpr h))]]
      exact row_run ok hp hr m (k + 1) (.inr h.1)
    · rw [show m_check_releasesx_l1 number t row () k = .error (some (xe (number, (0 : Int) + (k : Int)))) from by unfold m_check_releasesx_l1; rw [if_pos (fun q => h ((at_iff ok hk).mp q))]; rfl,
        show m_law_fault_l1 parts courses number () k = .error (some (number, (0 : Int) + (k : Int))) from by unfold m_law_fault_l1; rw [hp, hr, if_pos (fun q => h (good_iff.mp q))]]
      rfl
theorem all_run {n : Nat} {ps : List (List (Str × Int × Int) × List (Str × Str × Int))} {ts : List Task} {cs cs' : List (List (Int × Str))} (hI : Inv14 n ps ts cs) (hR : Rows14 n cs') : ∀ m k : Nat, k + m = n →
    runE m_check_releasesx_l0 (enL k ((ts.zip cs').drop k)) () = cv (runE (m_law_fault_l0 ps cs') (List.range' k m) ())
  | 0, k, h => by
    rw [List.drop_of_length_le (by rw [List.length_zip, hI.lt, hR.len]; omega)]; rfl
  | m + 1, k, h => by
    obtain ⟨t, c, a1, a2, _, a4, _⟩ := hI.all k (by omega)
    have hk : k < (ts.zip cs').length := by rw [List.length_zip, hI.lt, hR.len]; omega
    have hk1 : k < ts.length := by rw [hI.lt]; omega
    have hk2 : k < cs'.length := by rw [hR.len]; omega
    rw [List.drop_eq_getElem_cons hk, List.range'_succ]
    show runE m_check_releasesx_l0 ((((k : Nat) : Int), (ts.zip cs')[k]) :: enL (k + 1) ((ts.zip cs').drop (k + 1))) () = _
    rw [runE_cons, runE_cons]
    have e1 : (ts.zip cs')[k] = (t, cs'.getD k default) := by
      rw [List.getElem_zip]
      rw [List.getElem?_eq_getElem hk1] at a1
      rw [Option.some.inj a1, List.getD_eq_getElem?_getD, List.getElem?_eq_getElem hk2]; rfl
    have ez : ((0 : Int) + (k : Int)).toNat = k := by omega
    have hp : ps.getD ((0 : Int) + (k : Int)).toNat default = (t.kinds, t.ways) := by
      rw [ez, List.getD_eq_getElem?_getD, a2]; rfl
    have hrow := row_run (parts := ps) (courses := cs') a4 hp (by rw [ez]) (cs'.getD k default).length 0 (.inl rfl)
    rw [← List.range_eq_range'] at hrow
    have E1 : m_check_releasesx_l0 () (((k : Nat) : Int), (ts.zip cs')[k]) = cv (m_law_fault_l0 ps cs' () k) := by
      rw [e1]
      unfold m_check_releasesx_l0 m_law_fault_l0
      dsimp only
      rw [Int.toNat_natCast, ez, Int.toNat_natCast]
      rw [Int.zero_add] at hrow ⊢
      rw [hrow]
      cases runE (m_law_fault_l1 ps cs' (k : Int)) (List.range (cs'.getD k default).length) () with
      | error r => rfl
      | ok u => rfl
    rw [E1]
    cases m_law_fault_l0 ps cs' () k with
    | error r => rfl
    | ok u => exact all_run hI hR m (k + 1) (by omega)
theorem check_eq {n : Nat} {ps : List (List (Str × Int × Int) × List (Str × Str × Int))} {ts : List Task} {cs cs' : List (List (Int × Str))} (hI : Inv14 n ps ts cs) (hR : Rows14 n cs') {tb : List Int} : m_check_releasesx { tasks := ts, table := tb } cs' = (m_law_fault ps cs').map xe := by
  have h := all_run hI hR n 0 (by omega)
  rw [List.drop_zero, ← List.range_eq_range'] at h
  unfold m_check_releasesx m_law_fault
  dsimp only
  rw [h, Int.toNat_natCast, hI.lp]
  cases runE (m_law_fault_l0 ps cs') (List.range n) () with
  | error r => rfl
  | ok u => rfl
theorem inv14_all {N : List Int} (hnf : N.length = 260 ∧ ∀ x ∈ N, 0 ≤ x ∧ x ≤ 1008) : ∀ n : Nat, n ≤ 3 → Inv14 n ((List.range n).foldl (m_law_l0 N) (([] : List (List (Str × Int × Int) × List (Str × Str × Int))), ([] : List Task), ([] : List (List (Int × Str))))).1 ((List.range n).foldl (m_law_l0 N) (([] : List (List (Str × Int × Int) × List (Str × Str × Int))), ([] : List Task), ([] : List (List (Int × Str))))).2.1 ((List.range n).foldl (m_law_l0 N) (([] : List (List (Str × Int × Int) × List (Str × Str × Int))), ([] : List Task), ([] : List (List (Int × Str))))).2.2
  | 0, _ => inv14_zero
  | n + 1, h => by
    have ih := inv14_all hnf n (by omega)
    rw [List.range_succ, List.foldl_append, List.foldl_cons, List.foldl_nil]
    generalize (List.range n).foldl (m_law_l0 N) (([] : List (List (Str × Int × Int) × List (Str × Str × Int))), ([] : List Task), ([] : List (List (Int × Str)))) = s at ih
    have hkf := kinds_facts N (82 * (0 + (n : Int))) (by omega) hnf.2
    have hwf := ways_facts N (82 * (0 + (n : Int)) + 18) (m_law_kinds N (82 * (0 + (n : Int)))) (by omega) hnf.2 (by omega)
    exact ih.step (by omega) N hkf.1 hkf.2.2.1 hwf.1 _ (by omega) rfl
theorem rows14_all {n : Nat} {N : List Int} : ∀ (ys : List Nat) {cs : List (List (Int × Str))}, Rows14 n cs → Rows14 n (ys.foldl (m_law_l1 N) cs)
  | [], _, h => h
  | y :: ys, _, h => rows14_all ys (spoil_rows h)
theorem law_true : ∀ ns : List Int, ns.length ≤ 63 → m_law ns = true := by
  intro ns _
  unfold m_law
  dsimp only
  have hnf := numbers_facts ns (260 : Int) (by decide)
  generalize m_law_numbers ns (260 : Int) = N at hnf
  have hI := inv14_all hnf ((1 : Int) + N.getD ((259 : Int)).toNat default % (3 : Int)).toNat (by omega)
  generalize (List.range ((1 : Int) + N.getD ((259 : Int)).toNat default % (3 : Int)).toNat).foldl (m_law_l0 N) _ = s at hI ⊢
  obtain ⟨ps, ts, cs⟩ := s
  dsimp only at hI ⊢
  have hi6 : ((1 : Int) + N.getD ((259 : Int)).toNat default % (3 : Int)).toNat ≤ 6 := by omega
  generalize ((1 : Int) + N.getD ((259 : Int)).toNat default % (3 : Int)).toNat = i at hI hi6
  have hR := rows14_all (N := N) (List.range (N.getD ((258 : Int)).toNat default % (3 : Int)).toNat) hI.rows
  generalize (List.range (N.getD ((258 : Int)).toNat default % (3 : Int)).toNat).foldl (m_law_l1 N) cs = cs' at hR ⊢
  rw [sys_eq (by decide +kernel) (by rw [hI.nm]; exact tnames_ok hi6), List.map_id', check_eq hI hR]
  cases m_law_fault ps cs' with
  | none => simp
  | some p =>
    obtain ⟨a, b⟩ := p
    have e1 : exI (xe (a, b)) "task_number" = a := rfl
    have e2 : exI (xe (a, b)) "release_number" = b := rfl
    simp [e1, e2]
end
section
theorem all_mk {l : PySem.W.OpenLaw} {w : World} {K : Frag} {h : Heap} {mg : Mg} {fa : Addr} (X : K.In h) (G : h.Ns mainGlobals mg) (hfa : mg "law" = some (.ref fa))
    (z_ValueError : PySem.W.nsIn K mainGlobals "ValueError" = some none)
    (z_abs : PySem.W.nsIn K mainGlobals "abs" = some none)
    (z_all : PySem.W.nsIn K mainGlobals "all" = some none)
    (z_any : PySem.W.nsIn K mainGlobals "any" = some none)
    (z_bool : PySem.W.nsIn K mainGlobals "bool" = some none)
    (z_enumerate : PySem.W.nsIn K mainGlobals "enumerate" = some none)
    (z_int : PySem.W.nsIn K mainGlobals "int" = some none)
    (z_isinstance : PySem.W.nsIn K mainGlobals "isinstance" = some none)
    (z_len : PySem.W.nsIn K mainGlobals "len" = some none)
    (z_list : PySem.W.nsIn K mainGlobals "list" = some none)
    (z_max : PySem.W.nsIn K mainGlobals "max" = some none)
    (z_range : PySem.W.nsIn K mainGlobals "range" = some none)
    (z_set : PySem.W.nsIn K mainGlobals "set" = some none)
    (z_str : PySem.W.nsIn K mainGlobals "str" = some none)
    (z_tuple : PySem.W.nsIn K mainGlobals "tuple" = some none)
    (z_zip : PySem.W.nsIn K mainGlobals "zip" = some none)
    {u_LONGEST_NAME : Tok} (z_LONGEST_NAME : PySem.W.nsIn K mainGlobals "LONGEST_NAME" = some (some (.int 12 u_LONGEST_NAME)))
    {u_LONGEST_TABLE : Tok} (z_LONGEST_TABLE : PySem.W.nsIn K mainGlobals "LONGEST_TABLE" = some (some (.int 1001 u_LONGEST_TABLE)))
    {u_MOST_CAPACITY : Tok} (z_MOST_CAPACITY : PySem.W.nsIn K mainGlobals "MOST_CAPACITY" = some (some (.int 1000000 u_MOST_CAPACITY)))
    {u_MOST_KINDS : Tok} (z_MOST_KINDS : PySem.W.nsIn K mainGlobals "MOST_KINDS" = some (some (.int 8 u_MOST_KINDS)))
    {u_MOST_TASKS : Tok} (z_MOST_TASKS : PySem.W.nsIn K mainGlobals "MOST_TASKS" = some (some (.int 6 u_MOST_TASKS)))
    {u_MOST_UNITS : Tok} (z_MOST_UNITS : PySem.W.nsIn K mainGlobals "MOST_UNITS" = some (some (.int 1000 u_MOST_UNITS)))
    {u_MOST_WAYS : Tok} (z_MOST_WAYS : PySem.W.nsIn K mainGlobals "MOST_WAYS" = some (some (.int 16 u_MOST_WAYS)))
    {u_NAME_CHARACTERS : Tok} (z_NAME_CHARACTERS : PySem.W.nsIn K mainGlobals "NAME_CHARACTERS" = some (some (.str "abcdefghijklmnopqrstuvwxyz0123456789" u_NAME_CHARACTERS)))
    {c_System : Addr} (gC_System : PySem.W.nsIn K mainGlobals "System" = some (some (.ref c_System)))
    (pg_System : PySem.W.plainGet K c_System Str.empty = true) (hd_System : PySem.W.hasDictIn K c_System = true) (po_System : PySem.W.plainOver K c_System = true) (sa_System : PySem.W.findIn K (.ref c_System) "__setattr__" = some (some (.builtin "object.__setattr__")))
    (na_System_tasks : PySem.W.findIn K (.ref c_System) "tasks" = some none)
    (na_System_table : PySem.W.findIn K (.ref c_System) "table" = some none)
    (mk_System : PySem.W.makesIn K c_System = true) (kc_System : PySem.W.keepIn K (.ref c_System) = true)
    {c_Task : Addr} (gC_Task : PySem.W.nsIn K mainGlobals "Task" = some (some (.ref c_Task)))
    (pg_Task : PySem.W.plainGet K c_Task Str.empty = true) (hd_Task : PySem.W.hasDictIn K c_Task = true) (po_Task : PySem.W.plainOver K c_Task = true) (sa_Task : PySem.W.findIn K (.ref c_Task) "__setattr__" = some (some (.builtin "object.__setattr__")))
    (na_Task_name : PySem.W.findIn K (.ref c_Task) "name" = some none)
    (na_Task_kinds : PySem.W.findIn K (.ref c_Task) "kinds" = some none)
    (na_Task_ways : PySem.W.findIn K (.ref c_Task) "ways" = some none)
    (mk_Task : PySem.W.makesIn K c_Task = true) (kc_Task : PySem.W.keepIn K (.ref c_Task) = true)
    {c_InvalidReleases : Addr} (gC_InvalidReleases : PySem.W.nsIn K mainGlobals "InvalidReleases" = some (some (.ref c_InvalidReleases)))
    {c_NeverlateError : Addr} (gC_NeverlateError : PySem.W.nsIn K mainGlobals "NeverlateError" = some (some (.ref c_NeverlateError)))
    {c_UnknownName : Addr} (gC_UnknownName : PySem.W.nsIn K mainGlobals "UnknownName" = some (some (.ref c_UnknownName)))
    (xg_InvalidReleases : PySem.W.findIn K (.ref c_InvalidReleases) "__getattribute__" = some (some (.builtin "BaseException.__getattribute__")))
    (xh_InvalidReleases : PySem.W.findIn K (.ref c_InvalidReleases) "__getattr__" = some none)
    (xl_InvalidReleases : PySem.W.findIn K (.ref c_InvalidReleases) "__class__" = some (some (.builtin "object.__class__")))
    (xoc : PySem.W.specialIn K (.builtin "object.__class__") "__get__" = some (some (.builtin "getset_descriptor.__get__")))
    (xot : PySem.W.takesIn K (.builtin "object.__class__") = some true)
    (xm_InvalidReleases : PySem.W.mroIn K c_InvalidReleases (.type "object") = some true)
    (su_InvalidReleases : PySem.W.subIn K (.ref c_InvalidReleases) (.type "BaseException") = some true)
    (hx_InvalidReleases : PySem.W.hasDictIn K c_InvalidReleases = true)
    {fi_InvalidReleases cda_InvalidReleases cc_InvalidReleases xN_InvalidReleases : Addr} {xoc_InvalidReleases xkV_InvalidReleases xdoc_InvalidReleases xpm_InvalidReleases xct_InvalidReleases xccl_InvalidReleases xcl_InvalidReleases : Value} {xod_InvalidReleases xan_InvalidReleases xcdd_InvalidReleases xcld_InvalidReleases xdd_InvalidReleases : Option Addr} {xosl_InvalidReleases xccs_InvalidReleases xcsl_InvalidReleases : Array (Option Value)} {xvs_InvalidReleases : Array Value} {xfile_InvalidReleases xnm_InvalidReleases xq_InvalidReleases xin_InvalidReleases xiq_InvalidReleases : Str} {xtf_InvalidReleases : Tok} {xcd_InvalidReleases : ClassData} {xbs_InvalidReleases xbm_InvalidReleases xsub_InvalidReleases : List Value} {xsn_InvalidReleases : List Str} {xab_InvalidReleases : Bool} {xcol_InvalidReleases : Option Bool} {xk0_InvalidReleases xk1_InvalidReleases xk2_InvalidReleases xk3_InvalidReleases xk5_InvalidReleases : Option Value}
    (yi_InvalidReleases : PySem.W.findIn K (.ref c_InvalidReleases) "__init__" = some (some (.ref fi_InvalidReleases)))
    (yt_InvalidReleases : PySem.W.typeIn K (.ref fi_InvalidReleases) = some (.type "function"))
    (yl_InvalidReleases : K.lookup fi_InvalidReleases = some ⟨xoc_InvalidReleases, xod_InvalidReleases, .func (PySem.W.fnX xin_InvalidReleases xiq_InvalidReleases (defArgs se_s_InvalidReleases) (defBody se_s_InvalidReleases) (defScope se_s_InvalidReleases) [("__class__", cc_InvalidReleases)] .none xkV_InvalidReleases xdoc_InvalidReleases xpm_InvalidReleases xan_InvalidReleases (.ref cda_InvalidReleases) xct_InvalidReleases), xosl_InvalidReleases⟩)
    (yc_InvalidReleases : PySem.W.codeIn K (.ref cda_InvalidReleases) xiq_InvalidReleases = true)
    (yd_InvalidReleases : K.lookup cda_InvalidReleases = some ⟨xccl_InvalidReleases, xcdd_InvalidReleases, .fields xvs_InvalidReleases, xccs_InvalidReleases⟩)
    (yv_InvalidReleases : xvs_InvalidReleases[2]? = some (.str xfile_InvalidReleases xtf_InvalidReleases))
    (yf_InvalidReleases : (l.prog.main.file == xfile_InvalidReleases) = true)
    (ye_InvalidReleases : K.lookup cc_InvalidReleases = some ⟨xcl_InvalidReleases, xcld_InvalidReleases, .cell (some (.ref c_InvalidReleases)), xcsl_InvalidReleases⟩)
    (yk_InvalidReleases : PySem.W.clsIn K c_InvalidReleases = some xcd_InvalidReleases)
    (ytop : (l.prog.main.scope.names.lookup ("super" : Str)).isSome = false)
    (ysup : PySem.W.nsIn K mainGlobals "super" = some none)
    (ym_InvalidReleases : PySem.W.mroIn K c_InvalidReleases (.ref c_InvalidReleases) = some true)
    (y3rd : PySem.W.nsIn K cStatics "thirdparty.any" = some none)
    (yS_InvalidReleases : PySem.W.ks_superIn K c_InvalidReleases c_InvalidReleases "__init__" = some (some (.builtin "ValueError.__init__")))
    (yV_InvalidReleases : PySem.W.subIn K (.ref c_InvalidReleases) (.type "ValueError") = some true)
    (yX_InvalidReleases : K.lookup c_InvalidReleases = some (excClassObj xnm_InvalidReleases xq_InvalidReleases c_InvalidReleases xN_InvalidReleases xbs_InvalidReleases xbm_InvalidReleases true xsn_InvalidReleases xsub_InvalidReleases xab_InvalidReleases xcol_InvalidReleases xdd_InvalidReleases xk0_InvalidReleases xk1_InvalidReleases xk2_InvalidReleases xk3_InvalidReleases xk5_InvalidReleases "ValueError.__new__"))
    (yR_InvalidReleases : PySem.HandSPX.refsVE xbm_InvalidReleases = true)
    (yA_InvalidReleases : PySem.W.findIn K (.ref c_InvalidReleases) "__setattr__" = some (some (.builtin "object.__setattr__")))
    (ty_InvalidReleases : PySem.W.typeIn K (.ref c_InvalidReleases) = some (.type "type"))
    (kp_InvalidReleases : PySem.W.keepIn K (.ref c_InvalidReleases) = true)
    (nf_InvalidReleases_task_number : PySem.W.findIn K (.ref c_InvalidReleases) "task_number" = some none)
    (nf_InvalidReleases_release_number : PySem.W.findIn K (.ref c_InvalidReleases) "release_number" = some none)
    (sb_InvalidReleases_InvalidReleases : PySem.W.subIn K (.ref c_InvalidReleases) (.ref c_InvalidReleases) = some true)
    (ki_InvalidReleases_NeverlateError : PySem.W.kitOne K (.ref c_InvalidReleases) (.ref c_NeverlateError) = some true)
    (ki_InvalidReleases_UnknownName : PySem.W.kitOne K (.ref c_InvalidReleases) (.ref c_UnknownName) = some false)
    (kj_InvalidReleases_ValueError : PySem.W.kitOne K (.ref c_InvalidReleases) (.type "ValueError") = some true)
    {f_law_row : Addr} {od_law_row an_law_row : Option Addr} {sl_law_row : Array (Option Value)} {oc_law_row dc_law_row pm_law_row cd_law_row ct_law_row : Value} {kV_law_row : Value}
    (g_law_row : PySem.W.nsIn K mainGlobals "_law_row" = some (some (.ref f_law_row)))
    (l_law_row : K.lookup f_law_row = some ⟨oc_law_row, od_law_row, .func (PySem.W.fnOf "_law_row" "_law_row" (defArgs s_law_row) (defBody s_law_row) (defScope s_law_row) .none kV_law_row dc_law_row pm_law_row an_law_row cd_law_row ct_law_row), sl_law_row⟩)
    (c_law_row : PySem.W.codeIn K cd_law_row "_law_row" = true) (k_law_row : PySem.W.keepIn K (.ref f_law_row) = true)
    {f_law_numbers : Addr} {od_law_numbers an_law_numbers : Option Addr} {sl_law_numbers : Array (Option Value)} {oc_law_numbers dc_law_numbers pm_law_numbers cd_law_numbers ct_law_numbers : Value} {kV_law_numbers : Value}
    (g_law_numbers : PySem.W.nsIn K mainGlobals "_law_numbers" = some (some (.ref f_law_numbers)))
    (l_law_numbers : K.lookup f_law_numbers = some ⟨oc_law_numbers, od_law_numbers, .func (PySem.W.fnOf "_law_numbers" "_law_numbers" (defArgs s_law_numbers) (defBody s_law_numbers) (defScope s_law_numbers) .none kV_law_numbers dc_law_numbers pm_law_numbers an_law_numbers cd_law_numbers ct_law_numbers), sl_law_numbers⟩)
    (c_law_numbers : PySem.W.codeIn K cd_law_numbers "_law_numbers" = true) (k_law_numbers : PySem.W.keepIn K (.ref f_law_numbers) = true)
    {f_is_integer : Addr} {od_is_integer an_is_integer : Option Addr} {sl_is_integer : Array (Option Value)} {oc_is_integer dc_is_integer pm_is_integer cd_is_integer ct_is_integer : Value} {kV_is_integer : Value}
    (g_is_integer : PySem.W.nsIn K mainGlobals "is_integer" = some (some (.ref f_is_integer)))
    (l_is_integer : K.lookup f_is_integer = some ⟨oc_is_integer, od_is_integer, .func (PySem.W.fnOf "is_integer" "is_integer" (defArgs s_is_integer) (defBody s_is_integer) (defScope s_is_integer) .none kV_is_integer dc_is_integer pm_is_integer an_is_integer cd_is_integer ct_is_integer), sl_is_integer⟩)
    (c_is_integer : PySem.W.codeIn K cd_is_integer "is_integer" = true) (k_is_integer : PySem.W.keepIn K (.ref f_is_integer) = true)
    {f_is_name : Addr} {od_is_name an_is_name : Option Addr} {sl_is_name : Array (Option Value)} {oc_is_name dc_is_name pm_is_name cd_is_name ct_is_name : Value} {kV_is_name : Value}
    (g_is_name : PySem.W.nsIn K mainGlobals "is_name" = some (some (.ref f_is_name)))
    (l_is_name : K.lookup f_is_name = some ⟨oc_is_name, od_is_name, .func (PySem.W.fnOf "is_name" "is_name" (defArgs s_is_name) (defBody s_is_name) (defScope s_is_name) .none kV_is_name dc_is_name pm_is_name an_is_name cd_is_name ct_is_name), sl_is_name⟩)
    (c_is_name : PySem.W.codeIn K cd_is_name "is_name" = true) (k_is_name : PySem.W.keepIn K (.ref f_is_name) = true)
    {f_is_kind : Addr} {od_is_kind an_is_kind : Option Addr} {sl_is_kind : Array (Option Value)} {oc_is_kind dc_is_kind pm_is_kind cd_is_kind ct_is_kind : Value} {kV_is_kind : Value}
    (g_is_kind : PySem.W.nsIn K mainGlobals "is_kind" = some (some (.ref f_is_kind)))
    (l_is_kind : K.lookup f_is_kind = some ⟨oc_is_kind, od_is_kind, .func (PySem.W.fnOf "is_kind" "is_kind" (defArgs s_is_kind) (defBody s_is_kind) (defScope s_is_kind) .none kV_is_kind dc_is_kind pm_is_kind an_is_kind cd_is_kind ct_is_kind), sl_is_kind⟩)
    (c_is_kind : PySem.W.codeIn K cd_is_kind "is_kind" = true) (k_is_kind : PySem.W.keepIn K (.ref f_is_kind) = true)
    {f_is_way : Addr} {od_is_way an_is_way : Option Addr} {sl_is_way : Array (Option Value)} {oc_is_way dc_is_way pm_is_way cd_is_way ct_is_way : Value} {kV_is_way : Value}
    (g_is_way : PySem.W.nsIn K mainGlobals "is_way" = some (some (.ref f_is_way)))
    (l_is_way : K.lookup f_is_way = some ⟨oc_is_way, od_is_way, .func (PySem.W.fnOf "is_way" "is_way" (defArgs s_is_way) (defBody s_is_way) (defScope s_is_way) .none kV_is_way dc_is_way pm_is_way an_is_way cd_is_way ct_is_way), sl_is_way⟩)
    (c_is_way : PySem.W.codeIn K cd_is_way "is_way" = true) (k_is_way : PySem.W.keepIn K (.ref f_is_way) = true)
    {f_are_different : Addr} {od_are_different an_are_different : Option Addr} {sl_are_different : Array (Option Value)} {oc_are_different dc_are_different pm_are_different cd_are_different ct_are_different : Value} {kV_are_different : Value}
    (g_are_different : PySem.W.nsIn K mainGlobals "are_different" = some (some (.ref f_are_different)))
    (l_are_different : K.lookup f_are_different = some ⟨oc_are_different, od_are_different, .func (PySem.W.fnOf "are_different" "are_different" (defArgs s_are_different) (defBody s_are_different) (defScope s_are_different) .none kV_are_different dc_are_different pm_are_different an_are_different cd_are_different ct_are_different), sl_are_different⟩)
    (c_are_different : PySem.W.codeIn K cd_are_different "are_different" = true) (k_are_different : PySem.W.keepIn K (.ref f_are_different) = true)
    {f_are_kinds : Addr} {od_are_kinds an_are_kinds : Option Addr} {sl_are_kinds : Array (Option Value)} {oc_are_kinds dc_are_kinds pm_are_kinds cd_are_kinds ct_are_kinds : Value} {kV_are_kinds : Value}
    (g_are_kinds : PySem.W.nsIn K mainGlobals "are_kinds" = some (some (.ref f_are_kinds)))
    (l_are_kinds : K.lookup f_are_kinds = some ⟨oc_are_kinds, od_are_kinds, .func (PySem.W.fnOf "are_kinds" "are_kinds" (defArgs s_are_kinds) (defBody s_are_kinds) (defScope s_are_kinds) .none kV_are_kinds dc_are_kinds pm_are_kinds an_are_kinds cd_are_kinds ct_are_kinds), sl_are_kinds⟩)
    (c_are_kinds : PySem.W.codeIn K cd_are_kinds "are_kinds" = true) (k_are_kinds : PySem.W.keepIn K (.ref f_are_kinds) = true)
    {f_are_ways : Addr} {od_are_ways an_are_ways : Option Addr} {sl_are_ways : Array (Option Value)} {oc_are_ways dc_are_ways pm_are_ways cd_are_ways ct_are_ways : Value} {kV_are_ways : Value}
    (g_are_ways : PySem.W.nsIn K mainGlobals "are_ways" = some (some (.ref f_are_ways)))
    (l_are_ways : K.lookup f_are_ways = some ⟨oc_are_ways, od_are_ways, .func (PySem.W.fnOf "are_ways" "are_ways" (defArgs s_are_ways) (defBody s_are_ways) (defScope s_are_ways) .none kV_are_ways dc_are_ways pm_are_ways an_are_ways cd_are_ways ct_are_ways), sl_are_ways⟩)
    (c_are_ways : PySem.W.codeIn K cd_are_ways "are_ways" = true) (k_are_ways : PySem.W.keepIn K (.ref f_are_ways) = true)
    {f_Task_init__ : Addr} {od_Task_init__ an_Task_init__ : Option Addr} {sl_Task_init__ : Array (Option Value)} {oc_Task_init__ dc_Task_init__ pm_Task_init__ cd_Task_init__ ct_Task_init__ : Value} {kV_Task_init__ : Value}
    (at_Task_init__ : PySem.W.findIn K (.ref c_Task) "__init__" = some (some (.ref f_Task_init__))) (is_Task_init__ : PySem.W.isFn K (.ref f_Task_init__) = true)
    (l_Task_init__ : K.lookup f_Task_init__ = some ⟨oc_Task_init__, od_Task_init__, .func (PySem.W.fnOf "__init__" "Task.__init__" (defArgs s_Task_init__) (defBody s_Task_init__) (defScope s_Task_init__) .none kV_Task_init__ dc_Task_init__ pm_Task_init__ an_Task_init__ cd_Task_init__ ct_Task_init__), sl_Task_init__⟩)
    (c_Task_init__ : PySem.W.codeIn K cd_Task_init__ "Task.__init__" = true) (k_Task_init__ : PySem.W.keepIn K (.ref f_Task_init__) = true)
    {f_Task_kind_number : Addr} {od_Task_kind_number an_Task_kind_number : Option Addr} {sl_Task_kind_number : Array (Option Value)} {oc_Task_kind_number dc_Task_kind_number pm_Task_kind_number cd_Task_kind_number ct_Task_kind_number : Value} {kV_Task_kind_number : Value}
    (at_Task_kind_number : PySem.W.findIn K (.ref c_Task) "kind_number" = some (some (.ref f_Task_kind_number))) (is_Task_kind_number : PySem.W.isFn K (.ref f_Task_kind_number) = true)
    (l_Task_kind_number : K.lookup f_Task_kind_number = some ⟨oc_Task_kind_number, od_Task_kind_number, .func (PySem.W.fnOf "kind_number" "Task.kind_number" (defArgs s_Task_kind_number) (defBody s_Task_kind_number) (defScope s_Task_kind_number) .none kV_Task_kind_number dc_Task_kind_number pm_Task_kind_number an_Task_kind_number cd_Task_kind_number ct_Task_kind_number), sl_Task_kind_number⟩)
    (c_Task_kind_number : PySem.W.codeIn K cd_Task_kind_number "Task.kind_number" = true) (k_Task_kind_number : PySem.W.keepIn K (.ref f_Task_kind_number) = true)
    {f_Task_kind : Addr} {od_Task_kind an_Task_kind : Option Addr} {sl_Task_kind : Array (Option Value)} {oc_Task_kind dc_Task_kind pm_Task_kind cd_Task_kind ct_Task_kind : Value} {kV_Task_kind : Value}
    (at_Task_kind : PySem.W.findIn K (.ref c_Task) "_kind" = some (some (.ref f_Task_kind))) (is_Task_kind : PySem.W.isFn K (.ref f_Task_kind) = true)
    (l_Task_kind : K.lookup f_Task_kind = some ⟨oc_Task_kind, od_Task_kind, .func (PySem.W.fnOf "_kind" "Task._kind" (defArgs s_Task_kind) (defBody s_Task_kind) (defScope s_Task_kind) .none kV_Task_kind dc_Task_kind pm_Task_kind an_Task_kind cd_Task_kind ct_Task_kind), sl_Task_kind⟩)
    (c_Task_kind : PySem.W.codeIn K cd_Task_kind "Task._kind" = true) (k_Task_kind : PySem.W.keepIn K (.ref f_Task_kind) = true)
    {f_law_names : Addr} {od_law_names an_law_names : Option Addr} {sl_law_names : Array (Option Value)} {oc_law_names dc_law_names pm_law_names cd_law_names ct_law_names : Value} {kV_law_names : Value}
    (g_law_names : PySem.W.nsIn K mainGlobals "_law_names" = some (some (.ref f_law_names)))
    (l_law_names : K.lookup f_law_names = some ⟨oc_law_names, od_law_names, .func (PySem.W.fnOf "_law_names" "_law_names" (defArgs s_law_names) (defBody s_law_names) (defScope s_law_names) .none kV_law_names dc_law_names pm_law_names an_law_names cd_law_names ct_law_names), sl_law_names⟩)
    (c_law_names : PySem.W.codeIn K cd_law_names "_law_names" = true) (k_law_names : PySem.W.keepIn K (.ref f_law_names) = true)
    {f_law_kinds : Addr} {od_law_kinds an_law_kinds : Option Addr} {sl_law_kinds : Array (Option Value)} {oc_law_kinds dc_law_kinds pm_law_kinds cd_law_kinds ct_law_kinds : Value} {kV_law_kinds : Value}
    (g_law_kinds : PySem.W.nsIn K mainGlobals "_law_kinds" = some (some (.ref f_law_kinds)))
    (l_law_kinds : K.lookup f_law_kinds = some ⟨oc_law_kinds, od_law_kinds, .func (PySem.W.fnOf "_law_kinds" "_law_kinds" (defArgs s_law_kinds) (defBody s_law_kinds) (defScope s_law_kinds) .none kV_law_kinds dc_law_kinds pm_law_kinds an_law_kinds cd_law_kinds ct_law_kinds), sl_law_kinds⟩)
    (c_law_kinds : PySem.W.codeIn K cd_law_kinds "_law_kinds" = true) (k_law_kinds : PySem.W.keepIn K (.ref f_law_kinds) = true)
    {f_law_ways : Addr} {od_law_ways an_law_ways : Option Addr} {sl_law_ways : Array (Option Value)} {oc_law_ways dc_law_ways pm_law_ways cd_law_ways ct_law_ways : Value} {kV_law_ways : Value}
    (g_law_ways : PySem.W.nsIn K mainGlobals "_law_ways" = some (some (.ref f_law_ways)))
    (l_law_ways : K.lookup f_law_ways = some ⟨oc_law_ways, od_law_ways, .func (PySem.W.fnOf "_law_ways" "_law_ways" (defArgs s_law_ways) (defBody s_law_ways) (defScope s_law_ways) .none kV_law_ways dc_law_ways pm_law_ways an_law_ways cd_law_ways ct_law_ways), sl_law_ways⟩)
    (c_law_ways : PySem.W.codeIn K cd_law_ways "_law_ways" = true) (k_law_ways : PySem.W.keepIn K (.ref f_law_ways) = true)
    {f_is_table : Addr} {od_is_table an_is_table : Option Addr} {sl_is_table : Array (Option Value)} {oc_is_table dc_is_table pm_is_table cd_is_table ct_is_table : Value} {kV_is_table : Value}
    (g_is_table : PySem.W.nsIn K mainGlobals "is_table" = some (some (.ref f_is_table)))
    (l_is_table : K.lookup f_is_table = some ⟨oc_is_table, od_is_table, .func (PySem.W.fnOf "is_table" "is_table" (defArgs s_is_table) (defBody s_is_table) (defScope s_is_table) .none kV_is_table dc_is_table pm_is_table an_is_table cd_is_table ct_is_table), sl_is_table⟩)
    (c_is_table : PySem.W.codeIn K cd_is_table "is_table" = true) (k_is_table : PySem.W.keepIn K (.ref f_is_table) = true)
    {f_are_task_names : Addr} {od_are_task_names an_are_task_names : Option Addr} {sl_are_task_names : Array (Option Value)} {oc_are_task_names dc_are_task_names pm_are_task_names cd_are_task_names ct_are_task_names : Value} {kV_are_task_names : Value}
    (g_are_task_names : PySem.W.nsIn K mainGlobals "are_task_names" = some (some (.ref f_are_task_names)))
    (l_are_task_names : K.lookup f_are_task_names = some ⟨oc_are_task_names, od_are_task_names, .func (PySem.W.fnOf "are_task_names" "are_task_names" (defArgs s_are_task_names) (defBody s_are_task_names) (defScope s_are_task_names) .none kV_are_task_names dc_are_task_names pm_are_task_names an_are_task_names cd_are_task_names ct_are_task_names), sl_are_task_names⟩)
    (c_are_task_names : PySem.W.codeIn K cd_are_task_names "are_task_names" = true) (k_are_task_names : PySem.W.keepIn K (.ref f_are_task_names) = true)
    {f_System_init__ : Addr} {od_System_init__ an_System_init__ : Option Addr} {sl_System_init__ : Array (Option Value)} {oc_System_init__ dc_System_init__ pm_System_init__ cd_System_init__ ct_System_init__ : Value} {kV_System_init__ : Value}
    (at_System_init__ : PySem.W.findIn K (.ref c_System) "__init__" = some (some (.ref f_System_init__))) (is_System_init__ : PySem.W.isFn K (.ref f_System_init__) = true)
    (l_System_init__ : K.lookup f_System_init__ = some ⟨oc_System_init__, od_System_init__, .func (PySem.W.fnOf "__init__" "System.__init__" (defArgs s_System_init__) (defBody s_System_init__) (defScope s_System_init__) .none kV_System_init__ dc_System_init__ pm_System_init__ an_System_init__ cd_System_init__ ct_System_init__), sl_System_init__⟩)
    (c_System_init__ : PySem.W.codeIn K cd_System_init__ "System.__init__" = true) (k_System_init__ : PySem.W.keepIn K (.ref f_System_init__) = true)
    {f_Task_ways_from : Addr} {od_Task_ways_from an_Task_ways_from : Option Addr} {sl_Task_ways_from : Array (Option Value)} {oc_Task_ways_from dc_Task_ways_from pm_Task_ways_from cd_Task_ways_from ct_Task_ways_from : Value} {kV_Task_ways_from : Value}
    (at_Task_ways_from : PySem.W.findIn K (.ref c_Task) "ways_from" = some (some (.ref f_Task_ways_from))) (is_Task_ways_from : PySem.W.isFn K (.ref f_Task_ways_from) = true)
    (l_Task_ways_from : K.lookup f_Task_ways_from = some ⟨oc_Task_ways_from, od_Task_ways_from, .func (PySem.W.fnOf "ways_from" "Task.ways_from" (defArgs s_Task_ways_from) (defBody s_Task_ways_from) (defScope s_Task_ways_from) .none kV_Task_ways_from dc_Task_ways_from pm_Task_ways_from an_Task_ways_from cd_Task_ways_from ct_Task_ways_from), sl_Task_ways_from⟩)
    (c_Task_ways_from : PySem.W.codeIn K cd_Task_ways_from "Task.ways_from" = true) (k_Task_ways_from : PySem.W.keepIn K (.ref f_Task_ways_from) = true)
    {f_follows : Addr} {od_follows an_follows : Option Addr} {sl_follows : Array (Option Value)} {oc_follows dc_follows pm_follows cd_follows ct_follows : Value} {kV_follows : Value}
    (g_follows : PySem.W.nsIn K mainGlobals "follows" = some (some (.ref f_follows)))
    (l_follows : K.lookup f_follows = some ⟨oc_follows, od_follows, .func (PySem.W.fnOf "follows" "follows" (defArgs s_follows) (defBody s_follows) (defScope s_follows) .none kV_follows dc_follows pm_follows an_follows cd_follows ct_follows), sl_follows⟩)
    (c_follows : PySem.W.codeIn K cd_follows "follows" = true) (k_follows : PySem.W.keepIn K (.ref f_follows) = true)
    {f_is_legal_at : Addr} {od_is_legal_at an_is_legal_at : Option Addr} {sl_is_legal_at : Array (Option Value)} {oc_is_legal_at dc_is_legal_at pm_is_legal_at cd_is_legal_at ct_is_legal_at : Value} {kV_is_legal_at : Value}
    (g_is_legal_at : PySem.W.nsIn K mainGlobals "_is_legal_at" = some (some (.ref f_is_legal_at)))
    (l_is_legal_at : K.lookup f_is_legal_at = some ⟨oc_is_legal_at, od_is_legal_at, .func (PySem.W.fnOf "_is_legal_at" "_is_legal_at" (defArgs s_is_legal_at) (defBody s_is_legal_at) (defScope s_is_legal_at) .none kV_is_legal_at dc_is_legal_at pm_is_legal_at an_is_legal_at cd_is_legal_at ct_is_legal_at), sl_is_legal_at⟩)
    (c_is_legal_at : PySem.W.codeIn K cd_is_legal_at "_is_legal_at" = true) (k_is_legal_at : PySem.W.keepIn K (.ref f_is_legal_at) = true)
    {f_check_releasesx : Addr} {od_check_releasesx an_check_releasesx : Option Addr} {sl_check_releasesx : Array (Option Value)} {oc_check_releasesx dc_check_releasesx pm_check_releasesx cd_check_releasesx ct_check_releasesx : Value} {kV_check_releasesx : Value}
    (g_check_releasesx : PySem.W.nsIn K mainGlobals "check_releases" = some (some (.ref f_check_releasesx)))
    (l_check_releasesx : K.lookup f_check_releasesx = some ⟨oc_check_releasesx, od_check_releasesx, .func (PySem.W.fnOf "check_releases" "check_releases" (defArgs s_check_releasesx) (defBody s_check_releasesx) (defScope s_check_releasesx) .none kV_check_releasesx dc_check_releasesx pm_check_releasesx an_check_releasesx cd_check_releasesx ct_check_releasesx), sl_check_releasesx⟩)
    (c_check_releasesx : PySem.W.codeIn K cd_check_releasesx "check_releases" = true) (k_check_releasesx : PySem.W.keepIn K (.ref f_check_releasesx) = true)
    {f_check_releases : Addr} {od_check_releases an_check_releases : Option Addr} {sl_check_releases : Array (Option Value)} {oc_check_releases dc_check_releases pm_check_releases cd_check_releases ct_check_releases : Value} {kV_check_releases : Value}
    (g_check_releases : PySem.W.nsIn K mainGlobals "check_releases" = some (some (.ref f_check_releases)))
    (l_check_releases : K.lookup f_check_releases = some ⟨oc_check_releases, od_check_releases, .func (PySem.W.fnOf "check_releases" "check_releases" (defArgs s_check_releases) (defBody s_check_releases) (defScope s_check_releases) .none kV_check_releases dc_check_releases pm_check_releases an_check_releases cd_check_releases ct_check_releases), sl_check_releases⟩)
    (c_check_releases : PySem.W.codeIn K cd_check_releases "check_releases" = true) (k_check_releases : PySem.W.keepIn K (.ref f_check_releases) = true)
    {f_law_known : Addr} {od_law_known an_law_known : Option Addr} {sl_law_known : Array (Option Value)} {oc_law_known dc_law_known pm_law_known cd_law_known ct_law_known : Value} {kV_law_known : Value}
    (g_law_known : PySem.W.nsIn K mainGlobals "_law_known" = some (some (.ref f_law_known)))
    (l_law_known : K.lookup f_law_known = some ⟨oc_law_known, od_law_known, .func (PySem.W.fnOf "_law_known" "_law_known" (defArgs s_law_known) (defBody s_law_known) (defScope s_law_known) .none kV_law_known dc_law_known pm_law_known an_law_known cd_law_known ct_law_known), sl_law_known⟩)
    (c_law_known : PySem.W.codeIn K cd_law_known "_law_known" = true) (k_law_known : PySem.W.keepIn K (.ref f_law_known) = true)
    {f_law_good : Addr} {od_law_good an_law_good : Option Addr} {sl_law_good : Array (Option Value)} {oc_law_good dc_law_good pm_law_good cd_law_good ct_law_good : Value} {kV_law_good : Value}
    (g_law_good : PySem.W.nsIn K mainGlobals "_law_good" = some (some (.ref f_law_good)))
    (l_law_good : K.lookup f_law_good = some ⟨oc_law_good, od_law_good, .func (PySem.W.fnOf "_law_good" "_law_good" (defArgs s_law_good) (defBody s_law_good) (defScope s_law_good) .none kV_law_good dc_law_good pm_law_good an_law_good cd_law_good ct_law_good), sl_law_good⟩)
    (c_law_good : PySem.W.codeIn K cd_law_good "_law_good" = true) (k_law_good : PySem.W.keepIn K (.ref f_law_good) = true)
    {f_law_fault : Addr} {od_law_fault an_law_fault : Option Addr} {sl_law_fault : Array (Option Value)} {oc_law_fault dc_law_fault pm_law_fault cd_law_fault ct_law_fault : Value} {kV_law_fault : Value}
    (g_law_fault : PySem.W.nsIn K mainGlobals "_law_fault" = some (some (.ref f_law_fault)))
    (l_law_fault : K.lookup f_law_fault = some ⟨oc_law_fault, od_law_fault, .func (PySem.W.fnOf "_law_fault" "_law_fault" (defArgs s_law_fault) (defBody s_law_fault) (defScope s_law_fault) .none kV_law_fault dc_law_fault pm_law_fault an_law_fault cd_law_fault ct_law_fault), sl_law_fault⟩)
    (c_law_fault : PySem.W.codeIn K cd_law_fault "_law_fault" = true) (k_law_fault : PySem.W.keepIn K (.ref f_law_fault) = true)
    {f_law_coursen : Addr} {od_law_coursen an_law_coursen : Option Addr} {sl_law_coursen : Array (Option Value)} {oc_law_coursen dc_law_coursen pm_law_coursen cd_law_coursen ct_law_coursen : Value} {kV_law_coursen : Value}
    (g_law_coursen : PySem.W.nsIn K mainGlobals "_law_course" = some (some (.ref f_law_coursen)))
    (l_law_coursen : K.lookup f_law_coursen = some ⟨oc_law_coursen, od_law_coursen, .func (PySem.W.fnOf "_law_course" "_law_course" (defArgs s_law_coursen) (defBody s_law_coursen) (defScope s_law_coursen) .none kV_law_coursen dc_law_coursen pm_law_coursen an_law_coursen cd_law_coursen ct_law_coursen), sl_law_coursen⟩)
    (c_law_coursen : PySem.W.codeIn K cd_law_coursen "_law_course" = true) (k_law_coursen : PySem.W.keepIn K (.ref f_law_coursen) = true)
    {f_law_spoil : Addr} {od_law_spoil an_law_spoil : Option Addr} {sl_law_spoil : Array (Option Value)} {oc_law_spoil dc_law_spoil pm_law_spoil cd_law_spoil ct_law_spoil : Value} {kV_law_spoil : Value}
    (g_law_spoil : PySem.W.nsIn K mainGlobals "_law_spoil" = some (some (.ref f_law_spoil)))
    (l_law_spoil : K.lookup f_law_spoil = some ⟨oc_law_spoil, od_law_spoil, .func (PySem.W.fnOf "_law_spoil" "_law_spoil" (defArgs s_law_spoil) (defBody s_law_spoil) (defScope s_law_spoil) .none kV_law_spoil dc_law_spoil pm_law_spoil an_law_spoil cd_law_spoil ct_law_spoil), sl_law_spoil⟩)
    (c_law_spoil : PySem.W.codeIn K cd_law_spoil "_law_spoil" = true) (k_law_spoil : PySem.W.keepIn K (.ref f_law_spoil) = true)
    {f_law : Addr} {od_law an_law : Option Addr} {sl_law : Array (Option Value)} {oc_law dc_law pm_law cd_law ct_law : Value} {kV_law : Value}
    (g_law : PySem.W.nsIn K mainGlobals "law" = some (some (.ref f_law)))
    (l_law : K.lookup f_law = some ⟨oc_law, od_law, .func (PySem.W.fnOf "law" "law" (defArgs s_law) (defBody s_law) (defScope s_law) .none kV_law dc_law pm_law an_law cd_law ct_law), sl_law⟩)
    (c_law : PySem.W.codeIn K cd_law "law" = true) (k_law : PySem.W.keepIn K (.ref f_law) = true)
    : ∃ fd : FuncData, (∀ (s : Shared) (v : Value), BindsTo s fd ⟨[v], []⟩ [("script", v)]) ∧ ∀ base : Heap, K.In base → base.Ns mainGlobals mg → FnOk l.prog w K mg base CX0 7 fa fd ["script"] (spTrue K) := by
  have T : TX l.prog K mg := {
    n_ValueError := PySem.W.mg_none_of X G z_ValueError
    n_abs := PySem.W.mg_none_of X G z_abs
    n_all := PySem.W.mg_none_of X G z_all
    n_any := PySem.W.mg_none_of X G z_any
    n_bool := PySem.W.mg_none_of X G z_bool
    n_enumerate := PySem.W.mg_none_of X G z_enumerate
    n_int := PySem.W.mg_none_of X G z_int
    n_isinstance := PySem.W.mg_none_of X G z_isinstance
    n_len := PySem.W.mg_none_of X G z_len
    n_list := PySem.W.mg_none_of X G z_list
    n_max := PySem.W.mg_none_of X G z_max
    n_range := PySem.W.mg_none_of X G z_range
    n_set := PySem.W.mg_none_of X G z_set
    n_str := PySem.W.mg_none_of X G z_str
    n_tuple := PySem.W.mg_none_of X G z_tuple
    n_zip := PySem.W.mg_none_of X G z_zip
    t_LONGEST_NAME := u_LONGEST_NAME
    c_LONGEST_NAME := PySem.W.mg_of X G z_LONGEST_NAME
    t_LONGEST_TABLE := u_LONGEST_TABLE
    c_LONGEST_TABLE := PySem.W.mg_of X G z_LONGEST_TABLE
    t_MOST_CAPACITY := u_MOST_CAPACITY
    c_MOST_CAPACITY := PySem.W.mg_of X G z_MOST_CAPACITY
    t_MOST_KINDS := u_MOST_KINDS
    c_MOST_KINDS := PySem.W.mg_of X G z_MOST_KINDS
    t_MOST_TASKS := u_MOST_TASKS
    c_MOST_TASKS := PySem.W.mg_of X G z_MOST_TASKS
    t_MOST_UNITS := u_MOST_UNITS
    c_MOST_UNITS := PySem.W.mg_of X G z_MOST_UNITS
    t_MOST_WAYS := u_MOST_WAYS
    c_MOST_WAYS := PySem.W.mg_of X G z_MOST_WAYS
    t_NAME_CHARACTERS := u_NAME_CHARACTERS
    c_NAME_CHARACTERS := PySem.W.mg_of X G z_NAME_CHARACTERS
    C_System := c_System
    q_System := PySem.W.mg_of X G gC_System
    cl_System := ⟨pg_System, hd_System, po_System, sa_System⟩
    na_System_tasks := na_System_tasks
    na_System_table := na_System_table
    C_Task := c_Task
    q_Task := PySem.W.mg_of X G gC_Task
    cl_Task := ⟨pg_Task, hd_Task, po_Task, sa_Task⟩
    na_Task_name := na_Task_name
    na_Task_kinds := na_Task_kinds
    na_Task_ways := na_Task_ways
    C_InvalidReleases := c_InvalidReleases
    q_InvalidReleases := PySem.W.mg_of X G gC_InvalidReleases
    C_NeverlateError := c_NeverlateError
    q_NeverlateError := PySem.W.mg_of X G gC_NeverlateError
    C_UnknownName := c_UnknownName
    q_UnknownName := PySem.W.mg_of X G gC_UnknownName
    xc_InvalidReleases := ⟨xg_InvalidReleases, xh_InvalidReleases, su_InvalidReleases, hx_InvalidReleases, xl_InvalidReleases, xoc, xot, xm_InvalidReleases⟩
    fI_InvalidReleases := fi_InvalidReleases
    fd_InvalidReleases := _
    se_InvalidReleases := ⟨⟨⟨_, _, _, _, _, _, _, _, _, _, _, _, _, _, _, yX_InvalidReleases, yR_InvalidReleases⟩, yA_InvalidReleases, su_InvalidReleases, ty_InvalidReleases, kp_InvalidReleases⟩, yi_InvalidReleases, yt_InvalidReleases⟩
    si_InvalidReleases := ⟨⟨_, _, _, _, _, _, _, _, _, _, _, _, _, _, _, _, _, _, _, _, _, _, rfl, yl_InvalidReleases, yc_InvalidReleases, yd_InvalidReleases, yv_InvalidReleases, yf_InvalidReleases, ye_InvalidReleases, yk_InvalidReleases⟩, ytop, PySem.W.mg_none_of X G ysup, ym_InvalidReleases, y3rd, yS_InvalidReleases, yV_InvalidReleases, NdefX.nscope_by (by decide +kernel), rfl, ⟨_, rfl, rfl⟩⟩
    eb_InvalidReleases := .all fun us hl => match us, hl with | [_, _, _], _ => rfl
    xd_InvalidReleases := ⟨xg_InvalidReleases, xh_InvalidReleases, su_InvalidReleases, hx_InvalidReleases⟩
    nf_InvalidReleases_task_number := nf_InvalidReleases_task_number
    nf_InvalidReleases_release_number := nf_InvalidReleases_release_number
    ex_InvalidReleases_InvalidReleases := PySem.W.exm_ref su_InvalidReleases hx_InvalidReleases ty_InvalidReleases sb_InvalidReleases_InvalidReleases
    ki_InvalidReleases_NeverlateError := ki_InvalidReleases_NeverlateError
    ki_InvalidReleases_UnknownName := ki_InvalidReleases_UnknownName
    kb_InvalidReleases_ValueError := kj_InvalidReleases_ValueError
    a_law_row := f_law_row
    d_law_row := _
    F_law_row := fun_mk (st := s_law_row) l_law_row c_law_row k_law_row
    k_law_row := k_law_row
    m_law_row := PySem.W.mg_of X G g_law_row
    b_law_row := (fun_mk (st := s_law_row) l_law_row c_law_row k_law_row).binds (ps := ["cell", "many"]) fun _ _ _ _ _ _ us hl => match us, hl with | [_, _], _ => rfl
    a_law_numbers := f_law_numbers
    d_law_numbers := _
    F_law_numbers := fun_mk (st := s_law_numbers) l_law_numbers c_law_numbers k_law_numbers
    k_law_numbers := k_law_numbers
    m_law_numbers := PySem.W.mg_of X G g_law_numbers
    b_law_numbers := (fun_mk (st := s_law_numbers) l_law_numbers c_law_numbers k_law_numbers).binds (ps := ["script", "many"]) fun _ _ _ _ _ _ us hl => match us, hl with | [_, _], _ => rfl
    a_is_integer := f_is_integer
    d_is_integer := _
    F_is_integer := fun_mk (st := s_is_integer) l_is_integer c_is_integer k_is_integer
    k_is_integer := k_is_integer
    m_is_integer := PySem.W.mg_of X G g_is_integer
    b_is_integer := (fun_mk (st := s_is_integer) l_is_integer c_is_integer k_is_integer).binds (ps := ["value", "low", "high"]) fun _ _ _ _ _ _ us hl => match us, hl with | [_, _, _], _ => rfl
    a_is_name := f_is_name
    d_is_name := _
    F_is_name := fun_mk (st := s_is_name) l_is_name c_is_name k_is_name
    k_is_name := k_is_name
    m_is_name := PySem.W.mg_of X G g_is_name
    b_is_name := (fun_mk (st := s_is_name) l_is_name c_is_name k_is_name).binds (ps := ["value"]) fun _ _ _ _ _ _ us hl => match us, hl with | [_], _ => rfl
    a_is_kind := f_is_kind
    d_is_kind := _
    F_is_kind := fun_mk (st := s_is_kind) l_is_kind c_is_kind k_is_kind
    k_is_kind := k_is_kind
    m_is_kind := PySem.W.mg_of X G g_is_kind
    b_is_kind := (fun_mk (st := s_is_kind) l_is_kind c_is_kind k_is_kind).binds (ps := ["value"]) fun _ _ _ _ _ _ us hl => match us, hl with | [_], _ => rfl
    a_is_way := f_is_way
    d_is_way := _
    F_is_way := fun_mk (st := s_is_way) l_is_way c_is_way k_is_way
    k_is_way := k_is_way
    m_is_way := PySem.W.mg_of X G g_is_way
    b_is_way := (fun_mk (st := s_is_way) l_is_way c_is_way k_is_way).binds (ps := ["value", "kind_names"]) fun _ _ _ _ _ _ us hl => match us, hl with | [_, _], _ => rfl
    a_are_different := f_are_different
    d_are_different := _
    F_are_different := fun_mk (st := s_are_different) l_are_different c_are_different k_are_different
    k_are_different := k_are_different
    m_are_different := PySem.W.mg_of X G g_are_different
    b_are_different := (fun_mk (st := s_are_different) l_are_different c_are_different k_are_different).binds (ps := ["names"]) fun _ _ _ _ _ _ us hl => match us, hl with | [_], _ => rfl
    a_are_kinds := f_are_kinds
    d_are_kinds := _
    F_are_kinds := fun_mk (st := s_are_kinds) l_are_kinds c_are_kinds k_are_kinds
    k_are_kinds := k_are_kinds
    m_are_kinds := PySem.W.mg_of X G g_are_kinds
    b_are_kinds := (fun_mk (st := s_are_kinds) l_are_kinds c_are_kinds k_are_kinds).binds (ps := ["kinds"]) fun _ _ _ _ _ _ us hl => match us, hl with | [_], _ => rfl
    a_are_ways := f_are_ways
    d_are_ways := _
    F_are_ways := fun_mk (st := s_are_ways) l_are_ways c_are_ways k_are_ways
    k_are_ways := k_are_ways
    m_are_ways := PySem.W.mg_of X G g_are_ways
    b_are_ways := (fun_mk (st := s_are_ways) l_are_ways c_are_ways k_are_ways).binds (ps := ["ways", "kinds"]) fun _ _ _ _ _ _ us hl => match us, hl with | [_, _], _ => rfl
    a_Task_init__ := f_Task_init__
    d_Task_init__ := _
    F_Task_init__ := fun_mk (st := s_Task_init__) l_Task_init__ c_Task_init__ k_Task_init__
    k_Task_init__ := k_Task_init__
    mk_Task_init__ := ⟨mk_Task, at_Task_init__, is_Task_init__, kc_Task⟩
    kb_Task_init___1_kinds_ways := kbn_all fun us ws l1 l2 => match us, ws, l1, l2 with | [_, _], [_, _], _, _ => rfl
    a_Task_kind_number := f_Task_kind_number
    d_Task_kind_number := _
    F_Task_kind_number := fun_mk (st := s_Task_kind_number) l_Task_kind_number c_Task_kind_number k_Task_kind_number
    k_Task_kind_number := k_Task_kind_number
    me_Task_kind_number := ⟨at_Task_kind_number, is_Task_kind_number, k_Task_kind_number⟩
    b_Task_kind_number := (fun_mk (st := s_Task_kind_number) l_Task_kind_number c_Task_kind_number k_Task_kind_number).binds (ps := ["self", "kind_name"]) fun _ _ _ _ _ _ us hl => match us, hl with | [_, _], _ => rfl
    a_Task_kind := f_Task_kind
    d_Task_kind := _
    F_Task_kind := fun_mk (st := s_Task_kind) l_Task_kind c_Task_kind k_Task_kind
    k_Task_kind := k_Task_kind
    me_Task_kind := ⟨at_Task_kind, is_Task_kind, k_Task_kind⟩
    b_Task_kind := (fun_mk (st := s_Task_kind) l_Task_kind c_Task_kind k_Task_kind).binds (ps := ["self", "kind_name"]) fun _ _ _ _ _ _ us hl => match us, hl with | [_, _], _ => rfl
    a_law_names := f_law_names
    d_law_names := _
    F_law_names := fun_mk (st := s_law_names) l_law_names c_law_names k_law_names
    k_law_names := k_law_names
    m_law_names := PySem.W.mg_of X G g_law_names
    b_law_names := (fun_mk (st := s_law_names) l_law_names c_law_names k_law_names).binds (ps := ["number", "many"]) fun _ _ _ _ _ _ us hl => match us, hl with | [_, _], _ => rfl
    a_law_kinds := f_law_kinds
    d_law_kinds := _
    F_law_kinds := fun_mk (st := s_law_kinds) l_law_kinds c_law_kinds k_law_kinds
    k_law_kinds := k_law_kinds
    m_law_kinds := PySem.W.mg_of X G g_law_kinds
    b_law_kinds := (fun_mk (st := s_law_kinds) l_law_kinds c_law_kinds k_law_kinds).binds (ps := ["numbers", "at"]) fun _ _ _ _ _ _ us hl => match us, hl with | [_, _], _ => rfl
    a_law_ways := f_law_ways
    d_law_ways := _
    F_law_ways := fun_mk (st := s_law_ways) l_law_ways c_law_ways k_law_ways
    k_law_ways := k_law_ways
    m_law_ways := PySem.W.mg_of X G g_law_ways
    b_law_ways := (fun_mk (st := s_law_ways) l_law_ways c_law_ways k_law_ways).binds (ps := ["numbers", "at", "kinds"]) fun _ _ _ _ _ _ us hl => match us, hl with | [_, _, _], _ => rfl
    a_is_table := f_is_table
    d_is_table := _
    F_is_table := fun_mk (st := s_is_table) l_is_table c_is_table k_is_table
    k_is_table := k_is_table
    m_is_table := PySem.W.mg_of X G g_is_table
    b_is_table := (fun_mk (st := s_is_table) l_is_table c_is_table k_is_table).binds (ps := ["capacities"]) fun _ _ _ _ _ _ us hl => match us, hl with | [_], _ => rfl
    a_are_task_names := f_are_task_names
    d_are_task_names := _
    F_are_task_names := fun_mk (st := s_are_task_names) l_are_task_names c_are_task_names k_are_task_names
    k_are_task_names := k_are_task_names
    m_are_task_names := PySem.W.mg_of X G g_are_task_names
    b_are_task_names := (fun_mk (st := s_are_task_names) l_are_task_names c_are_task_names k_are_task_names).binds (ps := ["names"]) fun _ _ _ _ _ _ us hl => match us, hl with | [_], _ => rfl
    a_System_init__ := f_System_init__
    d_System_init__ := _
    F_System_init__ := fun_mk (st := s_System_init__) l_System_init__ c_System_init__ k_System_init__
    k_System_init__ := k_System_init__
    mk_System_init__ := ⟨mk_System, at_System_init__, is_System_init__, kc_System⟩
    kb_System_init___1_table := kbn_all fun us ws l1 l2 => match us, ws, l1, l2 with | [_, _], [_], _, _ => rfl
    a_Task_ways_from := f_Task_ways_from
    d_Task_ways_from := _
    F_Task_ways_from := fun_mk (st := s_Task_ways_from) l_Task_ways_from c_Task_ways_from k_Task_ways_from
    k_Task_ways_from := k_Task_ways_from
    me_Task_ways_from := ⟨at_Task_ways_from, is_Task_ways_from, k_Task_ways_from⟩
    b_Task_ways_from := (fun_mk (st := s_Task_ways_from) l_Task_ways_from c_Task_ways_from k_Task_ways_from).binds (ps := ["self", "kind_name"]) fun _ _ _ _ _ _ us hl => match us, hl with | [_, _], _ => rfl
    a_follows := f_follows
    d_follows := _
    F_follows := fun_mk (st := s_follows) l_follows c_follows k_follows
    k_follows := k_follows
    m_follows := PySem.W.mg_of X G g_follows
    b_follows := (fun_mk (st := s_follows) l_follows c_follows k_follows).binds (ps := ["task", "first", "second"]) fun _ _ _ _ _ _ us hl => match us, hl with | [_, _, _], _ => rfl
    a_is_legal_at := f_is_legal_at
    d_is_legal_at := _
    F_is_legal_at := fun_mk (st := s_is_legal_at) l_is_legal_at c_is_legal_at k_is_legal_at
    k_is_legal_at := k_is_legal_at
    m_is_legal_at := PySem.W.mg_of X G g_is_legal_at
    b_is_legal_at := (fun_mk (st := s_is_legal_at) l_is_legal_at c_is_legal_at k_is_legal_at).binds (ps := ["task", "releases", "number"]) fun _ _ _ _ _ _ us hl => match us, hl with | [_, _, _], _ => rfl
    a_check_releasesx := f_check_releasesx
    d_check_releasesx := _
    F_check_releasesx := fun_mk (st := s_check_releasesx) l_check_releasesx c_check_releasesx k_check_releasesx
    k_check_releasesx := k_check_releasesx
    m_check_releasesx := PySem.W.mg_of X G g_check_releasesx
    b_check_releasesx := (fun_mk (st := s_check_releasesx) l_check_releasesx c_check_releasesx k_check_releasesx).binds (ps := ["system", "releases"]) fun _ _ _ _ _ _ us hl => match us, hl with | [_, _], _ => rfl
    a_check_releases := f_check_releases
    d_check_releases := _
    F_check_releases := fun_mk (st := s_check_releases) l_check_releases c_check_releases k_check_releases
    k_check_releases := k_check_releases
    m_check_releases := PySem.W.mg_of X G g_check_releases
    b_check_releases := (fun_mk (st := s_check_releases) l_check_releases c_check_releases k_check_releases).binds (ps := ["system", "releases"]) fun _ _ _ _ _ _ us hl => match us, hl with | [_, _], _ => rfl
    a_law_known := f_law_known
    d_law_known := _
    F_law_known := fun_mk (st := s_law_known) l_law_known c_law_known k_law_known
    k_law_known := k_law_known
    m_law_known := PySem.W.mg_of X G g_law_known
    b_law_known := (fun_mk (st := s_law_known) l_law_known c_law_known k_law_known).binds (ps := ["kinds", "name"]) fun _ _ _ _ _ _ us hl => match us, hl with | [_, _], _ => rfl
    a_law_good := f_law_good
    d_law_good := _
    F_law_good := fun_mk (st := s_law_good) l_law_good c_law_good k_law_good
    k_law_good := k_law_good
    m_law_good := PySem.W.mg_of X G g_law_good
    b_law_good := (fun_mk (st := s_law_good) l_law_good c_law_good k_law_good).binds (ps := ["kinds", "ways", "course", "place"]) fun _ _ _ _ _ _ us hl => match us, hl with | [_, _, _, _], _ => rfl
    a_law_fault := f_law_fault
    d_law_fault := _
    F_law_fault := fun_mk (st := s_law_fault) l_law_fault c_law_fault k_law_fault
    k_law_fault := k_law_fault
    m_law_fault := PySem.W.mg_of X G g_law_fault
    b_law_fault := (fun_mk (st := s_law_fault) l_law_fault c_law_fault k_law_fault).binds (ps := ["parts", "courses"]) fun _ _ _ _ _ _ us hl => match us, hl with | [_, _], _ => rfl
    a_law_coursen := f_law_coursen
    d_law_coursen := _
    F_law_coursen := fun_mk (st := s_law_coursen) l_law_coursen c_law_coursen k_law_coursen
    k_law_coursen := k_law_coursen
    m_law_coursen := PySem.W.mg_of X G g_law_coursen
    b_law_coursen := (fun_mk (st := s_law_coursen) l_law_coursen c_law_coursen k_law_coursen).binds (ps := ["numbers", "at", "kinds", "ways", "many"]) fun _ _ _ _ _ _ us hl => match us, hl with | [_, _, _, _, _], _ => rfl
    a_law_spoil := f_law_spoil
    d_law_spoil := _
    F_law_spoil := fun_mk (st := s_law_spoil) l_law_spoil c_law_spoil k_law_spoil
    k_law_spoil := k_law_spoil
    m_law_spoil := PySem.W.mg_of X G g_law_spoil
    b_law_spoil := (fun_mk (st := s_law_spoil) l_law_spoil c_law_spoil k_law_spoil).binds (ps := ["numbers", "at", "courses"]) fun _ _ _ _ _ _ us hl => match us, hl with | [_, _, _], _ => rfl
    a_law := f_law
    d_law := _
    F_law := fun_mk (st := s_law) l_law c_law k_law
    k_law := k_law
    m_law := PySem.W.mg_of X G g_law
    b_law := (fun_mk (st := s_law) l_law c_law k_law).binds (ps := ["script"]) fun _ _ _ _ _ _ us hl => match us, hl with | [_], _ => rfl
    e_law := fun s v => .of_eq rfl }
  have e : fa = T.a_law := Value.ref.inj (Option.some.inj (hfa.symm.trans T.m_law))
  subst e
  exact ⟨T.d_law, T.e_law, fun base _ _ => (ok_law (P := l.prog) (w := w) (base := base) T).imp fun vs H Q E h => spTrue_of law_true h⟩
theorem walk {l : PySem.W.OpenLaw} {q : Program} {loose : List Str} {XP : (Str → Option Value) → Heap → Prop} {YP : World → Heap → Prop} {d : DefRec} {K : Params → Frag} (hn : l.most = some 63) (hdf : d.params.defaults = [])
    (hY : ∀ (w : World) (h : Heap), YP w h → (K w.params).In h)
    (hF : ∀ (w : World) (mg : Mg) (fa : Addr) (h : Heap), (K w.params).In h → h.Ns mainGlobals mg → mg d.name = some (.ref fa) → ∃ fd : FuncData, (∀ (s : Shared) (u : Value), BindsTo s fd ⟨[u], []⟩ [("script", u)]) ∧
      ∀ base : Heap, (K w.params).In base → base.Ns mainGlobals mg → FnOk l.prog w (K w.params) mg base CX0 7 fa fd ["script"] (spTrue (K w.params))) : PySem.W.WalkO q loose XP YP l.row.toRowW d [] (fun f vs => PySem.call f vs) :=
  L2.walk_of (n := 63) (k := 7) (x := "script") (CX := fun _ => CX0) (sp := fun w => spTrue (K w.params)) hn (by decide) hdf ⟨rfl, by decide, by decide⟩ hY hF (fun _ _ a ns hl _ hS => ⟨a, ns, rfl, hS, hl, fun _ => rfl⟩) fun _ _ _ _ _ z => z
end
end My
open PySem PySem.W PyProof.Rows in
set_option maxRecDepth 100000 in
set_option maxHeartbeats 0 in
theorem PySem.Challenge.cw_neverlate_k14_first_fault_of_releases_holds : PySem.Challenge.rw_neverlate_k14_first_fault_of_releases.Holds := by
  w_on; o_law; k_head; (case hw => w_witness2)
  k_fill
  refine My.walk (l := PySem.Challenge.rw_neverlate_k14_first_fault_of_releases) rfl rfl (fun w h Y => PySem.W.kIn_of Y) ?hF
  case hF =>
    intro w mg fa h KX G hmg
    refine' My.all_mk KX G hmg ?z_ValueError ?z_abs ?z_all ?z_any ?z_bool ?z_enumerate ?z_int ?z_isinstance ?z_len ?z_list ?z_max ?z_range ?z_set ?z_str ?z_tuple ?z_zip ?z_LONGEST_NAME ?z_LONGEST_TABLE ?z_MOST_CAPACITY ?z_MOST_KINDS ?z_MOST_TASKS ?z_MOST_UNITS ?z_MOST_WAYS ?z_NAME_CHARACTERS ?gC_System ?pg_System ?hd_System ?po_System ?sa_System ?na_System_tasks ?na_System_table ?mk_System ?kc_System ?gC_Task ?pg_Task ?hd_Task ?po_Task ?sa_Task ?na_Task_name ?na_Task_kinds ?na_Task_ways ?mk_Task ?kc_Task ?gC_InvalidReleases ?gC_NeverlateError ?gC_UnknownName ?xg_InvalidReleases ?xh_InvalidReleases ?xl_InvalidReleases ?xoc ?xot ?xm_InvalidReleases ?su_InvalidReleases ?hx_InvalidReleases ?yi_InvalidReleases ?yt_InvalidReleases ?yl_InvalidReleases ?yc_InvalidReleases ?yd_InvalidReleases ?yv_InvalidReleases ?yf_InvalidReleases ?ye_InvalidReleases ?yk_InvalidReleases ?ytop ?ysup ?ym_InvalidReleases ?y3rd ?yS_InvalidReleases ?yV_InvalidReleases ?yX_InvalidReleases ?yR_InvalidReleases ?yA_InvalidReleases ?ty_InvalidReleases ?kp_InvalidReleases ?nf_InvalidReleases_task_number ?nf_InvalidReleases_release_number ?sb_InvalidReleases_InvalidReleases ?ki_InvalidReleases_NeverlateError ?ki_InvalidReleases_UnknownName ?kj_InvalidReleases_ValueError ?g_law_row ?l_law_row ?c_law_row ?k_law_row ?g_law_numbers ?l_law_numbers ?c_law_numbers ?k_law_numbers ?g_is_integer ?l_is_integer ?c_is_integer ?k_is_integer ?g_is_name ?l_is_name ?c_is_name ?k_is_name ?g_is_kind ?l_is_kind ?c_is_kind ?k_is_kind ?g_is_way ?l_is_way ?c_is_way ?k_is_way ?g_are_different ?l_are_different ?c_are_different ?k_are_different ?g_are_kinds ?l_are_kinds ?c_are_kinds ?k_are_kinds ?g_are_ways ?l_are_ways ?c_are_ways ?k_are_ways ?at_Task_init__ ?is_Task_init__ ?l_Task_init__ ?c_Task_init__ ?k_Task_init__ ?at_Task_kind_number ?is_Task_kind_number ?l_Task_kind_number ?c_Task_kind_number ?k_Task_kind_number ?at_Task_kind ?is_Task_kind ?l_Task_kind ?c_Task_kind ?k_Task_kind ?g_law_names ?l_law_names ?c_law_names ?k_law_names ?g_law_kinds ?l_law_kinds ?c_law_kinds ?k_law_kinds ?g_law_ways ?l_law_ways ?c_law_ways ?k_law_ways ?g_is_table ?l_is_table ?c_is_table ?k_is_table ?g_are_task_names ?l_are_task_names ?c_are_task_names ?k_are_task_names ?at_System_init__ ?is_System_init__ ?l_System_init__ ?c_System_init__ ?k_System_init__ ?at_Task_ways_from ?is_Task_ways_from ?l_Task_ways_from ?c_Task_ways_from ?k_Task_ways_from ?g_follows ?l_follows ?c_follows ?k_follows ?g_is_legal_at ?l_is_legal_at ?c_is_legal_at ?k_is_legal_at ?g_check_releasesx ?l_check_releasesx ?c_check_releasesx ?k_check_releasesx ?g_check_releases ?l_check_releases ?c_check_releases ?k_check_releases ?g_law_known ?l_law_known ?c_law_known ?k_law_known ?g_law_good ?l_law_good ?c_law_good ?k_law_good ?g_law_fault ?l_law_fault ?c_law_fault ?k_law_fault ?g_law_coursen ?l_law_coursen ?c_law_coursen ?k_law_coursen ?g_law_spoil ?l_law_spoil ?c_law_spoil ?k_law_spoil ?g_law ?l_law ?c_law ?k_law
    (case z_ValueError => k_is)
    (case z_abs => k_is)
    (case z_all => k_is)
    (case z_any => k_is)
    (case z_bool => k_is)
    (case z_enumerate => k_is)
    (case z_int => k_is)
    (case z_isinstance => k_is)
    (case z_len => k_is)
    (case z_list => k_is)
    (case z_max => k_is)
    (case z_range => k_is)
    (case z_set => k_is)
    (case z_str => k_is)
    (case z_tuple => k_is)
    (case z_zip => k_is)
    (case z_LONGEST_NAME => k_is)
    (case z_LONGEST_TABLE => k_is)
    (case z_MOST_CAPACITY => k_is)
    (case z_MOST_KINDS => k_is)
    (case z_MOST_TASKS => k_is)
    (case z_MOST_UNITS => k_is)
    (case z_MOST_WAYS => k_is)
    (case z_NAME_CHARACTERS => k_is)
    (case gC_System => k_is)
    (case pg_System => k_is)
    (case hd_System => k_is)
    (case po_System => k_is)
    (case sa_System => k_is)
    (case na_System_tasks => k_is)
    (case na_System_table => k_is)
    (case mk_System => k_is)
    (case kc_System => k_is)
    (case gC_Task => k_is)
    (case pg_Task => k_is)
    (case hd_Task => k_is)
    (case po_Task => k_is)
    (case sa_Task => k_is)
    (case na_Task_name => k_is)
    (case na_Task_kinds => k_is)
    (case na_Task_ways => k_is)
    (case mk_Task => k_is)
    (case kc_Task => k_is)
    (case gC_InvalidReleases => k_is)
    (case gC_NeverlateError => k_is)
    (case gC_UnknownName => k_is)
    (case xg_InvalidReleases => k_is)
    (case xh_InvalidReleases => k_is)
    (case xl_InvalidReleases => k_is)
    (case xoc => k_is)
    (case xot => k_is)
    (case xm_InvalidReleases => k_is)
    (case su_InvalidReleases => k_is)
    (case hx_InvalidReleases => k_is)
    (case yi_InvalidReleases => k_is)
    (case yt_InvalidReleases => k_is)
    (case yl_InvalidReleases => k_is)
    (case yc_InvalidReleases => k_is)
    (case yd_InvalidReleases => k_is)
    (case yv_InvalidReleases => first | rfl | decide +kernel)
    (case yf_InvalidReleases => first | rfl | decide +kernel)
    (case ye_InvalidReleases => k_is)
    (case yk_InvalidReleases => k_is)
    (case ytop => first | rfl | decide +kernel)
    (case ysup => k_is)
    (case ym_InvalidReleases => k_is)
    (case y3rd => k_is)
    (case yS_InvalidReleases => ks_is)
    (case yV_InvalidReleases => k_is)
    (case yX_InvalidReleases => k_is)
    (case yR_InvalidReleases => first | rfl | decide +kernel)
    (case yA_InvalidReleases => k_is)
    (case ty_InvalidReleases => k_is)
    (case kp_InvalidReleases => k_is)
    (case nf_InvalidReleases_task_number => k_is)
    (case nf_InvalidReleases_release_number => k_is)
    (case sb_InvalidReleases_InvalidReleases => k_is)
    (case ki_InvalidReleases_NeverlateError => first | kit_is | k_is)
    (case ki_InvalidReleases_UnknownName => first | kit_is | k_is)
    (case kj_InvalidReleases_ValueError => first | kit_is | k_is)
    (case g_law_row => k_is)
    (case l_law_row => k_is)
    (case c_law_row => k_is)
    (case k_law_row => k_is)
    (case g_law_numbers => k_is)
    (case l_law_numbers => k_is)
    (case c_law_numbers => k_is)
    (case k_law_numbers => k_is)
    (case g_is_integer => k_is)
    (case l_is_integer => k_is)
    (case c_is_integer => k_is)
    (case k_is_integer => k_is)
    (case g_is_name => k_is)
    (case l_is_name => k_is)
    (case c_is_name => k_is)
    (case k_is_name => k_is)
    (case g_is_kind => k_is)
    (case l_is_kind => k_is)
    (case c_is_kind => k_is)
    (case k_is_kind => k_is)
    (case g_is_way => k_is)
    (case l_is_way => k_is)
    (case c_is_way => k_is)
    (case k_is_way => k_is)
    (case g_are_different => k_is)
    (case l_are_different => k_is)
    (case c_are_different => k_is)
    (case k_are_different => k_is)
    (case g_are_kinds => k_is)
    (case l_are_kinds => k_is)
    (case c_are_kinds => k_is)
    (case k_are_kinds => k_is)
    (case g_are_ways => k_is)
    (case l_are_ways => k_is)
    (case c_are_ways => k_is)
    (case k_are_ways => k_is)
    (case at_Task_init__ => k_is)
    (case is_Task_init__ => k_is)
    (case l_Task_init__ => k_is)
    (case c_Task_init__ => k_is)
    (case k_Task_init__ => k_is)
    (case at_Task_kind_number => k_is)
    (case is_Task_kind_number => k_is)
    (case l_Task_kind_number => k_is)
    (case c_Task_kind_number => k_is)
    (case k_Task_kind_number => k_is)
    (case at_Task_kind => k_is)
    (case is_Task_kind => k_is)
    (case l_Task_kind => k_is)
    (case c_Task_kind => k_is)
    (case k_Task_kind => k_is)
    (case g_law_names => k_is)
    (case l_law_names => k_is)
    (case c_law_names => k_is)
    (case k_law_names => k_is)
    (case g_law_kinds => k_is)
    (case l_law_kinds => k_is)
    (case c_law_kinds => k_is)
    (case k_law_kinds => k_is)
    (case g_law_ways => k_is)
    (case l_law_ways => k_is)
    (case c_law_ways => k_is)
    (case k_law_ways => k_is)
    (case g_is_table => k_is)
    (case l_is_table => k_is)
    (case c_is_table => k_is)
    (case k_is_table => k_is)
    (case g_are_task_names => k_is)
    (case l_are_task_names => k_is)
    (case c_are_task_names => k_is)
    (case k_are_task_names => k_is)
    (case at_System_init__ => k_is)
    (case is_System_init__ => k_is)
    (case l_System_init__ => k_is)
    (case c_System_init__ => k_is)
    (case k_System_init__ => k_is)
    (case at_Task_ways_from => k_is)
    (case is_Task_ways_from => k_is)
    (case l_Task_ways_from => k_is)
    (case c_Task_ways_from => k_is)
    (case k_Task_ways_from => k_is)
    (case g_follows => k_is)
    (case l_follows => k_is)
    (case c_follows => k_is)
    (case k_follows => k_is)
    (case g_is_legal_at => k_is)
    (case l_is_legal_at => k_is)
    (case c_is_legal_at => k_is)
    (case k_is_legal_at => k_is)
    (case g_check_releasesx => k_is)
    (case l_check_releasesx => k_is)
    (case c_check_releasesx => k_is)
    (case k_check_releasesx => k_is)
    (case g_check_releases => k_is)
    (case l_check_releases => k_is)
    (case c_check_releases => k_is)
    (case k_check_releases => k_is)
    (case g_law_known => k_is)
    (case l_law_known => k_is)
    (case c_law_known => k_is)
    (case k_law_known => k_is)
    (case g_law_good => k_is)
    (case l_law_good => k_is)
    (case c_law_good => k_is)
    (case k_law_good => k_is)
    (case g_law_fault => k_is)
    (case l_law_fault => k_is)
    (case c_law_fault => k_is)
    (case k_law_fault => k_is)
    (case g_law_coursen => k_is)
    (case l_law_coursen => k_is)
    (case c_law_coursen => k_is)
    (case k_law_coursen => k_is)
    (case g_law_spoil => k_is)
    (case l_law_spoil => k_is)
    (case c_law_spoil => k_is)
    (case k_law_spoil => k_is)
    (case g_law => k_is)
    (case l_law => k_is)
    (case c_law => k_is)
    (case k_law => k_is)
