import PyProof.Rows.All
import Wide.All
import OpenK.AllK
import Wide.FinOn
import HandS.ForMost
import HandS.ForExc
import HandS.IsInst
import HandS.Gcd
import HandS.Wide
import HandS.Property
import HandS.MakeKw
import HandS.MakeKwOnly
import HandS.Iter
import HandS.Strs
import HandS.Text
import KE.GoesMore
import PyProof.EnumMake
import KE.DataEq
import HandS.Style
import KE.KTupSum
import KE.DatumOrd
import HandS.SortKw
import HandS.Defaults
import KE.KMathGC
import KE.GoesZip
import KE.GoesEnum
import KE.SortData
import KE.DataCmp
import HandS.CallSlots
import HandS.ExcIs
import HandS.ExcField
import HandS.ExcInit
import HandS.Nested
import HandS.FStr
import HandS.ExcSuper
import HandS.TryOnly
import KE.KExcSuper
import KE.KExcIs
import PyProof.FitsInt
import PyProof.StrBlock2
import HandS.RaiseMore
import HandS.StrMore
import PyProof.NoPylong
import PyProof.Rows.RuleDivmod
import PySem.Challenge.RW_neverlate_k02_sum_and_text
set_option Elab.async false
set_option linter.all false
set_option maxRecDepth 100000
set_option maxHeartbeats 0
namespace Nz
open PySem PySem.Spec PyProof.Rows L2
/-- data that never changes any more -/
inductive D where
  | non | bl (b : Bool) | int (i : Int) | str (s : Str)
  | tup (xs : List D) | lst (xs : List D) | obj (c : Str) (fs : List (Str × D))
abbrev Frag := PySem.W.Frag
abbrev Mg := Str → Option Value
mutual
inductive Rep (K : Frag) (mg : Mg) (F : Hp) : D → V → Prop
  | non : Rep K mg F .non .non
  | bl (b : Bool) : Rep K mg F (.bl b) (.bl b)
  | int (i : Int) : Rep K mg F (.int i) (.int i)
  | str (s : Str) : Rep K mg F (.str s) (.str s)
  | tup {a : Addr} {ds : List D} {vs : List V} : SqT K F a vs → Reps K mg F ds vs → Rep K mg F (.tup ds) (.ref a)
  | lst {a : Addr} {ds : List D} {vs : List V} : SqL K F a vs → Reps K mg F ds vs → Rep K mg F (.lst ds) (.ref a)
  | obj {a dx C : Addr} {c : Str} {fs : List (Str × D)} {vs : List (Str × V)} : mg c = some (.ref C) → F a = some (.ins C dx vs) → F dx = some (.own a) →
      RepF K mg F fs vs → Rep K mg F (.obj c fs) (.ref a)
inductive Reps (K : Frag) (mg : Mg) (F : Hp) : List D → List V → Prop
  | nil : Reps K mg F [] []
  | cons {d : D} {v : V} {ds : List D} {vs : List V} : Rep K mg F d v → Reps K mg F ds vs → Reps K mg F (d :: ds) (v :: vs)
inductive RepF (K : Frag) (mg : Mg) (F : Hp) : List (Str × D) → List (Str × V) → Prop
  | nil : RepF K mg F [] []
  | cons {n : Str} {d : D} {v : V} {ds : List (Str × D)} {vs : List (Str × V)} : Rep K mg F d v → RepF K mg F ds vs → RepF K mg F ((n, d) :: ds) ((n, v) :: vs)
end
theorem _root_.L2.Same.seqT {K : Frag} {H H' : Hp} {a : Addr} {xs : List V} (e : Same H H') (h : SqT K H a xs) : SqT K H' a xs := by
  rcases h with (h | ⟨o, h⟩) | h
  · exact .inl (.inl (e _ _ h))
  · exact .inl (.inr ⟨o, e _ _ h⟩)
  · exact .inr h
section
variable {K : Frag} {mg : Mg} {F F' : Hp}
mutual
theorem Rep.mono (s : Same F F') : ∀ {d : D} {v : V}, Rep K mg F d v → Rep K mg F' d v
  | _, _, .non => .non
  | _, _, .bl b => .bl b
  | _, _, .int i => .int i
  | _, _, .str x => .str x
  | _, _, .tup h r => .tup (s.seqT h) (Reps.mono s r)
  | _, _, .lst h r => .lst (s.seq h) (Reps.mono s r)
  | _, _, .obj m h1 h2 r => .obj m (s _ _ h1) (s _ _ h2) (RepF.mono s r)
theorem Reps.mono (s : Same F F') : ∀ {d : List D} {v : List V}, Reps K mg F d v → Reps K mg F' d v
  | _, _, .nil => .nil
  | _, _, .cons h r => .cons (Rep.mono s h) (Reps.mono s r)
theorem RepF.mono (s : Same F F') : ∀ {d : List (Str × D)} {v : List (Str × V)}, RepF K mg F d v → RepF K mg F' d v
  | _, _, .nil => .nil
  | _, _, .cons h r => .cons (Rep.mono s h) (RepF.mono s r)
end
theorem Reps.length : ∀ {ds : List D} {vs : List V}, Reps K mg F ds vs → ds.length = vs.length
  | _, _, .nil => rfl
  | _, _, .cons _ r => congrArg (· + 1) (Reps.length r)
theorem Reps.get : ∀ {ds : List D} {vs : List V} {i : Nat} {d : D}, Reps K mg F ds vs → ds[i]? = some d → ∃ v, vs[i]? = some v ∧ Rep K mg F d v
  | _, _, _, _, .nil, h => by simp at h
  | _, _, 0, _, .cons h r, e => by simp at e; subst e; exact ⟨_, rfl, h⟩
  | _, _, i + 1, _, .cons h r, e => by
    obtain ⟨v, h1, h2⟩ := Reps.get (i := i) r (by simpa using e)
    exact ⟨v, by simpa using h1, h2⟩
theorem Reps.append : ∀ {ds es : List D} {vs us : List V}, Reps K mg F ds vs → Reps K mg F es us → Reps K mg F (ds ++ es) (vs ++ us)
  | _, _, _, _, .nil, s => s
  | _, _, _, _, .cons h r, s => .cons h (r.append s)
theorem Reps.ints : ∀ {ns : List Int}, Reps K mg F (ns.map D.int) (ns.map V.int)
  | [] => .nil
  | _ :: ns => .cons (.int _) (Reps.ints (ns := ns))
theorem Reps.set : ∀ {ds : List D} {vs : List V} (i : Nat) {d : D} {v : V}, Reps K mg F ds vs → Rep K mg F d v → Reps K mg F (ds.set i d) (vs.set i v)
  | _, _, _, _, _, .nil, _ => .nil
  | _, _, 0, _, _, .cons _ r, h => .cons h r
  | _, _, i + 1, _, _, .cons q r, h => .cons q (r.set i h)
theorem Reps.take : ∀ {ds : List D} {vs : List V} (i : Nat), Reps K mg F ds vs → Reps K mg F (ds.take i) (vs.take i)
  | _, _, 0, _ => by simpa using Reps.nil
  | _, _, _ + 1, .nil => .nil
  | _, _, i + 1, .cons q r => .cons q (r.take i)
theorem Reps.drop : ∀ {ds : List D} {vs : List V} (i : Nat), Reps K mg F ds vs → Reps K mg F (ds.drop i) (vs.drop i)
  | _, _, 0, r => r
  | _, _, _ + 1, .nil => .nil
  | _, _, i + 1, .cons _ r => r.drop i
end
/-- a cell: frozen data, or the live object of this name -/
inductive Ce where
  | fr (d : D) | ad (n : Nat) | xv (u : V)
/-- a live object -/
inductive LO where
  | fl (ds : List D)                    -- a list of frozen data
  | cl (cs : List Ce)                   -- a list of cells
  | ins (c : Str) (fs : List (Str × Ce)) -- an instance
  | dT (kvs : List (List Key × D))
  | dK (kvs : List (Key × Ce))
/-- a state: the slots, the live objects -/
structure S where
  ρ : List (Option Ce)
  L : List (Nat × LO)
def names (L : List (Nat × LO)) : List Nat := L.map (·.1)
def CRel (K : Frag) (mg : Mg) (F : Hp) (α : Nat → Addr) (L : List (Nat × LO)) (c : Ce) (v : V) : Prop :=
  match c with
  | .fr d => Rep K mg F d v
  | .ad n => n ∈ names L ∧ v = .ref (α n)
  | .xv u => v = u
inductive CRels (K : Frag) (mg : Mg) (F : Hp) (α : Nat → Addr) (L : List (Nat × LO)) : List Ce → List V → Prop
  | nil : CRels K mg F α L [] []
  | cons {c : Ce} {v : V} {cs : List Ce} {vs : List V} : CRel K mg F α L c v → CRels K mg F α L cs vs → CRels K mg F α L (c :: cs) (v :: vs)
inductive CRelF (K : Frag) (mg : Mg) (F : Hp) (α : Nat → Addr) (L : List (Nat × LO)) : List (Str × Ce) → List (Str × V) → Prop
  | nil : CRelF K mg F α L [] []
  | cons {n : Str} {c : Ce} {v : V} {cs : List (Str × Ce)} {vs : List (Str × V)} : CRel K mg F α L c v → CRelF K mg F α L cs vs → CRelF K mg F α L ((n, c) :: cs) ((n, v) :: vs)
inductive CRelK {κ : Type} (K : Frag) (mg : Mg) (F : Hp) (α : Nat → Addr) (L : List (Nat × LO)) : List (κ × Ce) → List (κ × V) → Prop
  | nil : CRelK K mg F α L [] []
  | cons {n : κ} {c : Ce} {v : V} {cs : List (κ × Ce)} {vs : List (κ × V)} : CRel K mg F α L c v → CRelK K mg F α L cs vs → CRelK K mg F α L ((n, c) :: cs) ((n, v) :: vs)
/-- the slots -/
inductive SlR (K : Frag) (mg : Mg) (F : Hp) (α : Nat → Addr) (L : List (Nat × LO)) : List (Option Ce) → L2.St → Prop
  | nil : SlR K mg F α L [] []
  | no {o : Option V} {cs : List (Option Ce)} {vs : L2.St} : SlR K mg F α L cs vs → SlR K mg F α L (none :: cs) (o :: vs)
  | so {c : Ce} {v : V} {cs : List (Option Ce)} {vs : L2.St} : CRel K mg F α L c v → SlR K mg F α L cs vs → SlR K mg F α L (some c :: cs) (some v :: vs)
/-- what a def was entered with: the frozen heap, the heap, what it may change -/
structure Bd where
  F0 : Hp
  H0 : Hp
  fp : Addr → Prop
  pa : Nat → Option Addr
  hpa : ∀ n, 100 ≤ n → pa n = none
/-- the live object o stands at a -/
def LAt (K : Frag) (mg : Mg) (B : Bd) (F : Hp) (α : Nat → Addr) (L : List (Nat × LO)) (H : Hp) (a : Addr) : LO → Prop
  | .fl ds => ∃ vs, H a = some (.lst vs) ∧ Reps K mg F ds vs
  | .cl cs => ∃ vs, H a = some (.lst vs) ∧ CRels K mg F α L cs vs
  | .ins c fs => ∃ C dx vs, mg c = some (.ref C) ∧ H a = some (.ins C dx vs) ∧ H dx = some (.own a) ∧ F dx = none ∧ (B.H0 dx = none ∨ B.fp dx) ∧ CRelF K mg F α L fs vs
  | .dT kvs => ∃ vs, H a = some (.dT vs) ∧ Paired (fun (p : List Key × D) (q : List Key × V) => p.1 = q.1 ∧ Rep K mg F p.2 q.2) kvs vs
  | .dK kvs => ∃ vs, H a = some (.dK vs) ∧ CRelK K mg F α L kvs vs
structure Rel (K : Frag) (mg : Mg) (B : Bd) (F : Hp) (α : Nat → Addr) (H : Hp) (σ : L2.St) (S : S) : Prop where
  sub : Same F H
  bF : Same B.F0 F
  nF : ∀ b o, F b = some o → B.F0 b = some o ∨ B.H0 b = none ∨ B.fp b
  frame : ∀ b o, B.H0 b = some o → ¬ B.fp b → H b = some o
  nd : (names S.L).Nodup
  inj : ∀ n m, n ∈ names S.L → m ∈ names S.L → α n = α m → n = m
  live : ∀ n o, (n, o) ∈ S.L → F (α n) = none ∧ (B.H0 (α n) = none ∨ B.fp (α n)) ∧ LAt K mg B F α S.L H (α n) o
  slots : SlR K mg F α S.L S.ρ σ
  fix : ∀ n a, B.pa n = some a → n ∈ names S.L → α n = a
/-- a step keeps what is frozen, and the names of what lives -/
structure Stp (F : Hp) (α : Nat → Addr) (L : List (Nat × LO)) (F' : Hp) (α' : Nat → Addr) : Prop where
  fro : Same F F'
  nm : ∀ n, n ∈ names L → α' n = α n
def wE (X : Cx) (e : Expr) (σ : L2.St) (H : Hp) (Q : VK) : Prop :=
  ∀ pins s, Inv X pins σ H s → wpAny (model X.prog X.w) X.A (eval e X.env) (EP X pins σ Q) X.xe s
def wT (X : Cx) (e : Expr) (σ : L2.St) (H : Hp) (Q : Bool → Hp → Prop) : Prop :=
  ∀ pins s, Inv X pins σ H s → wpAny (model X.prog X.w) X.A (isTrue e X.env (eval e X.env)) (TP X pins σ Q) X.xe s
def wA (X : Cx) (es : List Expr) (σ : L2.St) (H : Hp) (Q : List V → Hp → Prop) : Prop :=
  ∀ pos pins s, Inv X pins σ H s → wpAny (model X.prog X.w) X.A (spliced (backTo pos (starEach es X.env))) (AP X pins σ Q) X.xe s
def wS (X : Cx) (st : Stmt) (D : Ends) (σ : L2.St) (H : Hp) : Prop :=
  ∀ pins s, Inv X pins σ H s → wpAny (model X.prog X.w) X.A (exec st X.env) (SP X pins D) X.xe s
def wSs (X : Cx) (st : List Stmt) (D : Ends) (σ : L2.St) (H : Hp) : Prop :=
  ∀ pins s, Inv X pins σ H s → wpAny (model X.prog X.w) X.A (execs st X.env) (SP X pins D) X.xe s
theorem pe_w {X : Cx} {e : Expr} : PE X e (wE X e) := ⟨fun pins s σ H Q I h => h pins s I⟩
theorem pt_w {X : Cx} {e : Expr} : PT X e (wT X e) := ⟨fun pins s σ H Q I h => h pins s I⟩
theorem pa_w {X : Cx} {e : List Expr} : PA X e (wA X e) := ⟨fun pos pins s σ H Q I h => h pos pins s I⟩
theorem ps_w {X : Cx} {e : Stmt} : PS X e (wS X e) := ⟨fun pins s σ H Q I h => h pins s I⟩
theorem pss_w {X : Cx} {e : List Stmt} : PSs X e (wSs X e) := ⟨fun pins s σ H Q I h => h pins s I⟩
theorem wE.of {X : Cx} {e : Expr} {t : TE} {σ : L2.St} {H : Hp} {Q : VK} (h : PE X e t) (q : t σ H Q) : wE X e σ H Q := fun pins s I => h.run pins s σ H Q I q
theorem wT.of {X : Cx} {e : Expr} {t : TT} {σ : L2.St} {H : Hp} {Q : Bool → Hp → Prop} (h : PT X e t) (q : t σ H Q) : wT X e σ H Q := fun pins s I => h.run pins s σ H Q I q
theorem wA.of {X : Cx} {e : List Expr} {t : TA} {σ : L2.St} {H : Hp} {Q : List V → Hp → Prop} (h : PA X e t) (q : t σ H Q) : wA X e σ H Q := fun pos pins s I => h.run pos pins s σ H Q I q
theorem wS.of {X : Cx} {e : Stmt} {t : TS} {σ : L2.St} {H : Hp} {D : Ends} (h : PS X e t) (q : t D σ H) : wS X e D σ H := fun pins s I => h.run pins s σ H D I q
theorem wSs.of {X : Cx} {e : List Stmt} {t : TS} {σ : L2.St} {H : Hp} {D : Ends} (h : PSs X e t) (q : t D σ H) : wSs X e D σ H := fun pins s I => h.run pins s σ H D I q
abbrev RelX (X : Cx) := Rel X.K X.mg
abbrev CR (X : Cx) := CRel X.K X.mg
/-- e in the state S gives c and leaves S' -/
def Ev (X : Cx) (B : Bd) (e : Expr) (S : S) (c : Ce) (S' : Nz.S) : Prop :=
  ∀ F α H σ Q, RelX X B F α H σ S → (∀ F' α' v H', RelX X B F' α' H' σ S' → Stp F α S.L F' α' → CR X F' α' S'.L c v → Q v H') → wE X e σ H Q
def Et (X : Cx) (B : Bd) (e : Expr) (S : S) (b : Bool) (S' : Nz.S) : Prop :=
  ∀ F α H σ Q, RelX X B F α H σ S → (∀ F' α' H', RelX X B F' α' H' σ S' → Stp F α S.L F' α' → Q b H') → wT X e σ H Q
def Ea (X : Cx) (B : Bd) (es : List Expr) (S : S) (cs : List Ce) (S' : Nz.S) : Prop :=
  ∀ F α H σ Q, RelX X B F α H σ S → (∀ F' α' vs H', RelX X B F' α' H' σ S' → Stp F α S.L F' α' → CRels X.K X.mg F' α' S'.L cs vs → Q vs H') → wA X es σ H Q
/-- how a statement ends -/
inductive Out where
  | nx (S : S) | ret (c : Ce) (S : S) | bk (S : S) | ct (S : S)
structure OutOk (X : Cx) (B : Bd) (F : Hp) (K : Out → Prop) (D : Ends) : Prop where
  nx : ∀ S' F' α' H' σ', K (.nx S') → RelX X B F' α' H' σ' S' → Same F F' → D.nx σ' H'
  bk : ∀ S' F' α' H' σ', K (.bk S') → RelX X B F' α' H' σ' S' → Same F F' → D.bk σ' H'
  ct : ∀ S' F' α' H' σ', K (.ct S') → RelX X B F' α' H' σ' S' → Same F F' → D.ct σ' H'
  ret : ∀ c S' F' α' H' σ' v, K (.ret c S') → RelX X B F' α' H' σ' S' → Same F F' → CR X F' α' S'.L c v → D.rt v H'
theorem OutOk.mono {X : Cx} {B : Bd} {F F' : Hp} {K : Out → Prop} {D : Ends} (h : OutOk X B F K D) (s : Same F F') : OutOk X B F' K D :=
  ⟨fun S' F1 α' H' σ' k r q => h.nx _ _ _ _ _ k r (s.trans q), fun S' F1 α' H' σ' k r q => h.bk _ _ _ _ _ k r (s.trans q), fun S' F1 α' H' σ' k r q => h.ct _ _ _ _ _ k r (s.trans q),
    fun c S' F1 α' H' σ' v k r q z => h.ret _ _ _ _ _ _ _ k r (s.trans q) z⟩
def Ex (X : Cx) (B : Bd) (st : Stmt) (S : S) (K : Out → Prop) : Prop :=
  ∀ F α H σ D, RelX X B F α H σ S → OutOk X B F K D → wS X st D σ H
def Exs (X : Cx) (B : Bd) (st : List Stmt) (S : S) (K : Out → Prop) : Prop :=
  ∀ F α H σ D, RelX X B F α H σ S → OutOk X B F K D → wSs X st D σ H
end Nz
namespace Nz
open PySem PySem.Spec PyProof.Rows L2
def getL (n : Nat) : List (Nat × LO) → Option LO
  | [] => none
  | (m, o) :: r => if n = m then some o else getL n r
def setL (n : Nat) (o : LO) : List (Nat × LO) → List (Nat × LO)
  | [] => []
  | (m, u) :: r => if n = m then (m, o) :: r else (m, u) :: setL n o r
theorem getL_mem : ∀ {L : List (Nat × LO)} {n : Nat} {o : LO}, getL n L = some o → (n, o) ∈ L
  | (m, u) :: r, n, o, h => by
    unfold getL at h
    split at h
    · rename_i e; cases h; rw [e]; exact List.mem_cons_self
    · exact List.mem_cons_of_mem _ (getL_mem h)
theorem mem_names {L : List (Nat × LO)} {n : Nat} {o : LO} (h : (n, o) ∈ L) : n ∈ names L := List.mem_map.mpr ⟨_, h, rfl⟩
theorem names_setL : ∀ (L : List (Nat × LO)) (n : Nat) (o : LO), names (setL n o L) = names L
  | [], _, _ => rfl
  | (m, u) :: r, n, o => by
    unfold setL
    split
    · rfl
    · show m :: names (setL n o r) = m :: names r
      rw [names_setL r n o]
theorem mem_setL : ∀ {L : List (Nat × LO)} {n m : Nat} {o u : LO}, (names L).Nodup → (m, u) ∈ setL n o L → (m = n ∧ u = o) ∨ (m ≠ n ∧ (m, u) ∈ L)
  | (k, w) :: r, n, m, o, u, nd, h => by
    have nd' : k ∉ names r ∧ (names r).Nodup := List.nodup_cons.mp nd
    unfold setL at h
    split at h
    · rename_i e
      subst e
      rcases List.mem_cons.mp h with h | h
      · cases h; exact .inl ⟨rfl, rfl⟩
      · exact .inr ⟨fun q => nd'.1 (q ▸ mem_names h), List.mem_cons_of_mem _ h⟩
    · rename_i e
      rcases List.mem_cons.mp h with h | h
      · cases h; exact .inr ⟨fun q => e q.symm, List.mem_cons_self⟩
      · rcases mem_setL nd'.2 h with h | ⟨h1, h2⟩
        · exact .inl h
        · exact .inr ⟨h1, List.mem_cons_of_mem _ h2⟩
section
variable {K : Frag} {mg : Mg} {F F' : Hp} {α α' : Nat → Addr} {L L' : List (Nat × LO)}
theorem Stp.refl : Stp F α L F α := ⟨Same.refl _, fun _ _ => rfl⟩
theorem Stp.trans {F2 : Hp} {α2 : Nat → Addr} (a : Stp F α L F' α') (b : Stp F' α' L' F2 α2) (s : ∀ n, n ∈ names L → n ∈ names L') : Stp F α L F2 α2 :=
  ⟨a.fro.trans b.fro, fun n h => (b.nm n (s n h)).trans (a.nm n h)⟩
theorem CRel.step (st : Stp F α L F' α') (hs : ∀ n, n ∈ names L → n ∈ names L') : ∀ {c : Ce} {v : V}, CRel K mg F α L c v → CRel K mg F' α' L' c v
  | .fr _, _, h => Rep.mono st.fro h
  | .ad n, _, ⟨h1, h2⟩ => ⟨hs n h1, by rw [h2, st.nm n h1]⟩
  | .xv _, _, h => h
theorem CRels.step (st : Stp F α L F' α') (hs : ∀ n, n ∈ names L → n ∈ names L') : ∀ {c : List Ce} {v : List V}, CRels K mg F α L c v → CRels K mg F' α' L' c v
  | _, _, .nil => .nil
  | _, _, .cons h r => .cons (h.step st hs) (r.step st hs)
theorem CRelF.step (st : Stp F α L F' α') (hs : ∀ n, n ∈ names L → n ∈ names L') : ∀ {c : List (Str × Ce)} {v : List (Str × V)}, CRelF K mg F α L c v → CRelF K mg F' α' L' c v
  | _, _, .nil => .nil
  | _, _, .cons h r => .cons (h.step st hs) (r.step st hs)
theorem CRelK.step {κ : Type} (st : Stp F α L F' α') (hs : ∀ n, n ∈ names L → n ∈ names L') : ∀ {c : List (κ × Ce)} {v : List (κ × V)}, CRelK K mg F α L c v → CRelK K mg F' α' L' c v
  | _, _, .nil => .nil
  | _, _, .cons h r => .cons (h.step st hs) (r.step st hs)
theorem SlR.step (st : Stp F α L F' α') (hs : ∀ n, n ∈ names L → n ∈ names L') : ∀ {c : List (Option Ce)} {v : L2.St}, SlR K mg F α L c v → SlR K mg F' α' L' c v
  | _, _, .nil => .nil
  | _, _, .no r => .no (r.step st hs)
  | _, _, .so h r => .so (h.step st hs) (r.step st hs)
theorem SlR.get : ∀ {c : List (Option Ce)} {σ : L2.St} {i : Nat} {x : Ce}, SlR K mg F α L c σ → c[i]? = some (some x) → ∃ v, σ[i]? = some (some v) ∧ CRel K mg F α L x v
  | _, _, _, _, .nil, h => by simp at h
  | _, _, 0, _, .no _, h => by simp at h
  | _, _, 0, _, .so h _, e => by simp at e; subst e; exact ⟨_, rfl, h⟩
  | _, _, i + 1, _, .no r, e => by
    obtain ⟨v, h1, h2⟩ := SlR.get (i := i) r (by simpa using e)
    exact ⟨v, by simpa using h1, h2⟩
  | _, _, i + 1, _, .so _ r, e => by
    obtain ⟨v, h1, h2⟩ := SlR.get (i := i) r (by simpa using e)
    exact ⟨v, by simpa using h1, h2⟩
theorem SlR.set : ∀ {c : List (Option Ce)} {σ : L2.St} (i : Nat) {x : Ce} {v : V}, SlR K mg F α L c σ → CRel K mg F α L x v → SlR K mg F α L (c.set i (some x)) (σ.set i (some v))
  | _, _, _, _, _, .nil, _ => .nil
  | _, _, 0, _, _, .no r, h => .so h r
  | _, _, 0, _, _, .so _ r, h => .so h r
  | _, _, i + 1, _, _, .no r, h => .no (r.set i h)
  | _, _, i + 1, _, _, .so q r, h => .so q (r.set i h)
theorem CRels.fr : ∀ {ds : List D} {vs : List V}, CRels K mg F α L (ds.map Ce.fr) vs → Reps K mg F ds vs
  | [], _, .nil => .nil
  | _ :: _, _, .cons h r => .cons h (CRels.fr r)
theorem CRels.length : ∀ {c : List Ce} {v : List V}, CRels K mg F α L c v → c.length = v.length
  | _, _, .nil => rfl
  | _, _, .cons _ r => congrArg (· + 1) r.length
theorem CRels.append : ∀ {c c' : List Ce} {v v' : List V}, CRels K mg F α L c v → CRels K mg F α L c' v' → CRels K mg F α L (c ++ c') (v ++ v')
  | _, _, _, _, .nil, s => s
  | _, _, _, _, .cons h r, s => .cons h (r.append s)
theorem CRels.get : ∀ {ds : List Ce} {vs : List V} {i : Nat} {d : Ce}, CRels K mg F α L ds vs → ds[i]? = some d → ∃ v, vs[i]? = some v ∧ CRel K mg F α L d v
  | _, _, _, _, .nil, h => by simp at h
  | _, _, 0, _, .cons h r, e => by simp at e; subst e; exact ⟨_, rfl, h⟩
  | _, _, i + 1, _, .cons h r, e => by
    obtain ⟨v, h1, h2⟩ := CRels.get (i := i) r (by simpa using e)
    exact ⟨v, by simpa using h1, h2⟩
variable {B : Bd} {H H' : Hp} {a : Addr}
theorem Paired.imp {κ μ : Type} {R R' : κ → μ → Prop} (h : ∀ a b, R a b → R' a b) : ∀ {xs : List κ} {ys : List μ}, Paired R xs ys → Paired R' xs ys
  | _, _, .nil => .nil
  | _, _, .cons r t => .cons (h _ _ r) (Paired.imp h t)
theorem LAt.step {o : LO} (st : Stp F α L F' α') (hs : ∀ n, n ∈ names L → n ∈ names L') (hH : ∀ b u, H b = some u → H' b = some u) (hF : ∀ b u, F' b = some u → F b = some u ∨ H b = none)
    (h : LAt K mg B F α L H a o) : LAt K mg B F' α' L' H' a o := by
  cases o with
  | fl ds => obtain ⟨vs, e, r⟩ := h; exact ⟨vs, hH _ _ e, r.mono st.fro⟩
  | cl cs => obtain ⟨vs, e, r⟩ := h; exact ⟨vs, hH _ _ e, r.step st hs⟩
  | ins c fs =>
    obtain ⟨C, dx, vs, m, e1, e2, e3, e4, r⟩ := h
    refine ⟨C, dx, vs, m, hH _ _ e1, hH _ _ e2, ?_, e4, r.step st hs⟩
    cases q : F' dx with
    | none => rfl
    | some u =>
      rcases hF _ _ q with z | z
      · rw [e3] at z; cases z
      · rw [e2] at z; cases z
  | dT kvs => obtain ⟨vs, e, r⟩ := h; exact ⟨vs, hH _ _ e, Paired.imp (fun _ _ z => ⟨z.1, z.2.mono st.fro⟩) r⟩
  | dK kvs => obtain ⟨vs, e, r⟩ := h; exact ⟨vs, hH _ _ e, r.step st hs⟩
theorem LAt.is {o : LO} (h : LAt K mg B F α L H a o) : ∃ u, H a = some u := by
  cases o with
  | fl ds => obtain ⟨vs, e, r⟩ := h; exact ⟨_, e⟩
  | cl cs => obtain ⟨vs, e, r⟩ := h; exact ⟨_, e⟩
  | ins c fs => obtain ⟨C, dx, vs, m, e1, _⟩ := h; exact ⟨_, e1⟩
  | dT kvs => obtain ⟨vs, e, r⟩ := h; exact ⟨_, e⟩
  | dK kvs => obtain ⟨vs, e, r⟩ := h; exact ⟨_, e⟩
variable {σ : L2.St} {S : Nz.S}
/-- the heap grows, and what is frozen by new things -/
theorem Rel.grow (R : Rel K mg B F α H σ S) (hF : Same F F') (hH : Same H H') (hs : Same F' H') (hn : ∀ b u, F' b = some u → F b = some u ∨ H b = none) : Rel K mg B F' α H' σ S := by
  have st : Stp F α S.L F' α := ⟨hF, fun _ _ => rfl⟩
  refine ⟨hs, R.bF.trans hF, fun b o e => ?_, fun b o e n => hH _ _ (R.frame b o e n), R.nd, R.inj, fun n o h => ?_, R.slots.step st fun _ z => z, R.fix⟩
  · rcases hn b o e with z | z
    · exact R.nF b o z
    · refine .inr ?_
      by_cases f : B.fp b
      · exact .inr f
      · refine .inl ?_
        cases q : B.H0 b with
        | none => rfl
        | some u => rw [R.frame b u q f] at z; cases z
  · obtain ⟨h1, h2, h3⟩ := R.live n o h
    refine ⟨?_, h2, h3.step st (fun _ z => z) hH hn⟩
    cases q : F' (α n) with
    | none => rfl
    | some u =>
      obtain ⟨w', hw⟩ := h3.is
      rcases hn _ _ q with z | z
      · rw [h1] at z; cases z
      · rw [hw] at z; cases z
theorem same_upd {H : Hp} {p : Addr} {o : HO} (h : H p = none) : Same H (upd H p o) := fun b u e => by rw [upd_ne (ne_of_none e h)]; exact e
theorem Rel.fresh (R : Rel K mg B F α H σ S) {p : Addr} (h : H p = none) : F p = none := R.sub.free h
/-- a new frozen thing -/
theorem Rel.allocF (R : Rel K mg B F α H σ S) {p : Addr} {o : HO} (h : H p = none) : Rel K mg B (upd F p o) α (upd H p o) σ S := by
  refine R.grow (same_upd (R.fresh h)) (same_upd h) (fun b u e => ?_) fun b u e => ?_
  · by_cases q : b = p
    · subst q; rw [upd_same] at e ⊢; exact e
    · rw [upd_ne q] at e ⊢; exact R.sub b u e
  · by_cases q : b = p
    · subst q; exact .inr h
    · rw [upd_ne q] at e; exact .inl e
theorem stp_allocF {p : Addr} {o : HO} (h : F p = none) : Stp F α L (upd F p o) α := ⟨same_upd h, fun _ _ => rfl⟩
def setα (α : Nat → Addr) (n : Nat) (p : Addr) : Nat → Addr := fun m => if m = n then p else α m
theorem stp_setα {n : Nat} {p : Addr} (h : n ∉ names L) : Stp F α L F (setα α n p) := ⟨Same.refl _, fun m hm => by show (if m = n then p else α m) = α m; rw [if_neg (show ¬ m = n from fun q => h (by rw [← q]; exact hm))]⟩
theorem names_append (L : List (Nat × LO)) (n : Nat) (o : LO) : names (L ++ [(n, o)]) = names L ++ [n] := by simp [names]
/-- a new live thing -/
theorem Rel.allocL (R : Rel K mg B F α H σ S) {p : Addr} {o : HO} {n : Nat} {u : LO} (h : H p = none) (hn : n ∉ names S.L) (h100 : 100 ≤ n)
    (new : LAt K mg B F (setα α n p) (S.L ++ [(n, u)]) (upd H p o) p u) : Rel K mg B F (setα α n p) (upd H p o) σ ⟨S.ρ, S.L ++ [(n, u)]⟩ := by
  have st : Stp F α S.L F (setα α n p) := stp_setα hn
  have hsub : ∀ m, m ∈ names S.L → m ∈ names (S.L ++ [(n, u)]) := fun m hm => by rw [names_append]; exact List.mem_append_left _ hm
  have hself : setα α n p n = p := by unfold setα; rw [if_pos rfl]
  have hp0 : B.H0 p = none ∨ B.fp p := by
    by_cases f : B.fp p
    · exact .inr f
    · refine .inl ?_
      cases q : B.H0 p with
      | none => rfl
      | some w' => rw [R.frame p w' q f] at h; cases h
  refine ⟨fun b w' e => same_upd h b w' (R.sub b w' e), R.bF, R.nF, fun b w' e f => same_upd h b w' (R.frame b w' e f), ?_, ?_, ?_, R.slots.step st hsub, fun m a e hm => ?_⟩
  · rw [names_append]
    exact List.nodup_append.mpr ⟨R.nd, by simp, fun a ha b hb => by
      have : b = n := by simpa using hb
      subst this
      exact fun q => hn (q ▸ ha)⟩
  · have key : ∀ m, m ∈ names S.L → setα α n p m ≠ p := fun m hm e => by
      rw [st.nm m hm] at e
      obtain ⟨⟨m', o'⟩, h1, h2⟩ := List.mem_map.mp hm
      cases h2
      obtain ⟨w', hw⟩ := (R.live _ _ h1).2.2.is
      rw [e, h] at hw; cases hw
    intro a b ha hb e
    rw [names_append] at ha hb
    rcases List.mem_append.mp ha with ha' | ha' <;> rcases List.mem_append.mp hb with hb' | hb'
    · rw [st.nm a ha', st.nm b hb'] at e; exact R.inj a b ha' hb' e
    · have h2 : b = n := by simpa using hb'
      rw [h2, hself] at e
      exact absurd e (key a ha')
    · have h2 : a = n := by simpa using ha'
      rw [h2, hself] at e
      exact absurd e.symm (key b hb')
    · have h1 : a = n := by simpa using ha'
      have h2 : b = n := by simpa using hb'
      rw [h1, h2]
  · intro m o' hm
    rcases List.mem_append.mp hm with hm | hm
    · obtain ⟨h1, h2, h3⟩ := R.live m o' hm
      have e : setα α n p m = α m := st.nm m (mem_names hm)
      rw [e]
      exact ⟨h1, h2, h3.step st hsub (same_upd h) fun b w' z => .inl z⟩
    · have e : (m, o') = (n, u) := by simpa using hm
      cases e
      rw [hself]
      exact ⟨R.fresh h, hp0, new⟩
  · have hm : m ∈ names (S.L ++ [(n, u)]) := hm
    rw [names_append] at hm
    rcases List.mem_append.mp hm with hm | hm
    · rw [st.nm m hm]; exact R.fix m a e hm
    · have : m = n := by simpa using hm
      rw [this, B.hpa n h100] at e; cases e
/-- a live thing is changed -/
theorem Rel.write (R : Rel K mg B F α H σ S) {n : Nat} {o u : LO} {o' : HO} (hn : (n, o) ∈ S.L)
    (no : ∀ b y, H b = some (.own y) → b ≠ α n) (new : LAt K mg B F α (setL n u S.L) (upd H (α n) o') (α n) u)
    (oth : ∀ m w', (m, w') ∈ S.L → m ≠ n → LAt K mg B F α S.L H (α m) w' → LAt K mg B F α (setL n u S.L) (upd H (α n) o') (α m) w') :
    Rel K mg B F α (upd H (α n) o') σ ⟨S.ρ, setL n u S.L⟩ := by
  obtain ⟨f0, f1, f2⟩ := R.live n o hn
  obtain ⟨w0, hw0⟩ := f2.is
  have st : Stp F α S.L F α := Stp.refl
  have hsub : ∀ m, m ∈ names S.L → m ∈ names (setL n u S.L) := fun m hm => by rw [names_setL]; exact hm
  refine ⟨fun b w' e => ?_, R.bF, R.nF, fun b w' e f => ?_, by rw [names_setL]; exact R.nd, fun a b ha hb e => R.inj a b (by rw [names_setL] at ha; exact ha) (by rw [names_setL] at hb; exact hb) e, fun m w' hm => ?_, R.slots.step st hsub, fun m a e hm => R.fix m a e (by rw [names_setL] at hm; exact hm)⟩
  · rw [upd_ne (fun q => by rw [q, f0] at e; cases e)]; exact R.sub b w' e
  · have hb : b ≠ α n := fun q => by
      subst q
      rcases f1 with z | z
      · rw [z] at e; cases e
      · exact f z
    rw [upd_ne hb]; exact R.frame b w' e f
  · rcases mem_setL R.nd hm with ⟨h1, h2⟩ | ⟨h1, h2⟩
    · subst h1; subst h2
      exact ⟨f0, f1, new⟩
    · obtain ⟨g0, g1, g2⟩ := R.live m w' h2
      exact ⟨g0, g1, oth m w' h2 h1 g2⟩
theorem LAt.other {o : LO} {p : Addr} {w' : HO} (ne : a ≠ p) (no : ∀ b, H b = some (.own a) → b ≠ p) (hs : ∀ n, n ∈ names L → n ∈ names L') (h : LAt K mg B F α L H a o) : LAt K mg B F α L' (upd H p w') a o := by
  have st : Stp F α L F α := Stp.refl
  cases o with
  | fl ds => obtain ⟨vs, e, r⟩ := h; exact ⟨vs, by rw [upd_ne ne]; exact e, r⟩
  | cl cs => obtain ⟨vs, e, r⟩ := h; exact ⟨vs, by rw [upd_ne ne]; exact e, r.step st hs⟩
  | ins c fs => obtain ⟨C, dx, vs, m, e1, e2, e3, e4, r⟩ := h; exact ⟨C, dx, vs, m, by rw [upd_ne ne]; exact e1, by rw [upd_ne (no _ e2)]; exact e2, e3, e4, r.step st hs⟩
  | dT kvs => obtain ⟨vs, e, r⟩ := h; exact ⟨vs, by rw [upd_ne ne]; exact e, r⟩
  | dK kvs => obtain ⟨vs, e, r⟩ := h; exact ⟨vs, by rw [upd_ne ne]; exact e, r.step st hs⟩
theorem LAt.notown {o : LO} (h : LAt K mg B F α L H a o) : ∀ b y, H b = some (.own y) → b ≠ a := fun b y e q => by
  subst q
  cases o with
  | fl ds => obtain ⟨vs, e1, r⟩ := h; rw [e] at e1; cases e1
  | cl cs => obtain ⟨vs, e1, r⟩ := h; rw [e] at e1; cases e1
  | ins c fs => obtain ⟨C, dx, vs, m, e1, _⟩ := h; rw [e] at e1; cases e1
  | dT kvs => obtain ⟨vs, e1, r⟩ := h; rw [e] at e1; cases e1
  | dK kvs => obtain ⟨vs, e1, r⟩ := h; rw [e] at e1; cases e1
/-- .. in short -/
theorem Rel.put (R : Rel K mg B F α H σ S) {n : Nat} {o u : LO} {o' : HO} (hn : (n, o) ∈ S.L) (new : LAt K mg B F α (setL n u S.L) (upd H (α n) o') (α n) u) : Rel K mg B F α (upd H (α n) o') σ ⟨S.ρ, setL n u S.L⟩ := by
  have no := LAt.notown (R.live n o hn).2.2
  refine R.write hn no new fun m w' hm ne h => h.other (fun q => ne (R.inj _ _ (mem_names hm) (mem_names hn) q)) (fun b e => no b _ e) fun k hk => by rw [names_setL]; exact hk
end
end Nz
namespace Nz
open PySem PySem.Spec PyProof.Rows L2
def Sub (L L' : List (Nat × LO)) : Prop := ∀ n, n ∈ names L → n ∈ names L'
theorem Sub.refl {L : List (Nat × LO)} : Sub L L := fun _ h => h
/-- the cell c looks like the list ds, the tuple ds -/
def AsL (L : List (Nat × LO)) (c : Ce) (ds : List D) : Prop :=
  match c with
  | .fr d => d = .lst ds
  | .ad n => getL n L = some (.fl ds)
  | .xv _ => False
section
variable {X : Cx} {B : Bd} {F : Hp} {α : Nat → Addr} {H : Hp} {σ : L2.St} {S : Nz.S}
theorem Rel.asL (R : RelX X B F α H σ S) {c : Ce} {ds : List D} {v : V} (h : AsL S.L c ds) (r : CR X F α S.L c v) : ∃ a vs, v = .ref a ∧ SqL X.K H a vs ∧ Reps X.K X.mg F ds vs := by
  cases c with
  | fr d =>
    have e : d = .lst ds := h
    subst e
    have r' : Rep X.K X.mg F (.lst ds) v := r
    cases r' with
    | lst h1 h2 => exact ⟨_, _, rfl, R.sub.seq h1, h2⟩
  | ad n =>
    obtain ⟨_, rfl⟩ := r
    obtain ⟨_, _, vs, e, q⟩ := R.live n _ (getL_mem h)
    exact ⟨_, vs, rfl, SqL.of e, q⟩
  | xv u => exact False.elim h
theorem Rel.asT (R : RelX X B F α H σ S) {ds : List D} {v : V} (r : Rep X.K X.mg F (.tup ds) v) : ∃ a vs, v = .ref a ∧ SqT X.K H a vs ∧ Reps X.K X.mg F ds vs := by
  cases r with
  | tup h1 h2 => exact ⟨_, _, rfl, R.sub.seqT h1, h2⟩
end
def Op2 (X : Cx) (f : Value → Value → Sem Value) (d1 d2 d : D) : Prop :=
  ∀ B F α H σ (S : Nz.S) (Q : VK) x y, RelX X B F α H σ S → Rep X.K X.mg F d1 x → Rep X.K X.mg F d2 y → (∀ F' α' v H', RelX X B F' α' H' σ S → Stp F α S.L F' α' → Rep X.K X.mg F' d v → Q v H') →
    ∀ pins s v u, Inv X pins σ H s → RelV x v → RelV y u → wpAny (model X.prog X.w) X.A (f v u) (EP X pins σ Q) X.xe s
theorem Op2.pure {X : Cx} {f : Value → Value → Sem Value} {d1 d2 d : D} {r : R2} {v : V} (h : OpR X f r) (hd : ∀ F, Rep X.K X.mg F d v)
    (hr : ∀ F H (Q : VK) x y, Same F H → Rep X.K X.mg F d1 x → Rep X.K X.mg F d2 y → Q v H → r x y H Q) : Op2 X f d1 d2 d :=
  fun B F α H σ S Q x y R rx ry k pins s v' u I rv ru => h pins s σ H x y v' u Q I rv ru (hr F H Q x y R.sub rx ry (k F α v H R Stp.refl (hd F)))
section
variable {X : Cx}
theorem op2I {f : Value → Value → Sem Value} {C : Int → Int → Prop} {g : Int → Int → V} {i j : Int} {d : D} (h : OpR X f (rI C g)) (hc : C i j) (hd : ∀ F, Rep X.K X.mg F d (g i j)) : Op2 X f (.int i) (.int j) d :=
  .pure h hd fun F H Q x y _ rx ry q => by cases rx; cases ry; exact ⟨_, _, rfl, rfl, hc, q⟩
theorem op2I0 {f : Value → Value → Sem Value} {g : Int → Int → V} {i j : Int} {d : D} (h : OpR X f (rI0 g)) (hd : ∀ F, Rep X.K X.mg F d (g i j)) : Op2 X f (.int i) (.int j) d :=
  .pure h hd fun F H Q x y _ rx ry q => by cases rx; cases ry; exact ⟨_, _, rfl, rfl, q⟩
theorem o_add {i j : Int} : Op2 X (binaryOp .Add) (.int i) (.int j) (.int (i + j)) := op2I0 op_add fun _ => .int _
theorem o_sub {i j : Int} : Op2 X (binaryOp .Sub) (.int i) (.int j) (.int (i - j)) := op2I0 op_sub fun _ => .int _
theorem o_mul {i j : Int} (h : CMul i j) : Op2 X (binaryOp .Mult) (.int i) (.int j) (.int (i * j)) := op2I op_mul h fun _ => .int _
theorem o_div {i j : Int} (h : 0 < j) (h' : j < 1073741824) : Op2 X (binaryOp .FloorDiv) (.int i) (.int j) (.int (i / j)) := op2I op_fdiv ⟨h, h'⟩ fun _ => .int _
theorem o_mod {i j : Int} (h : 0 < j) : Op2 X (binaryOp .Mod) (.int i) (.int j) (.int (i % j)) := op2I op_mod h fun _ => .int _
theorem o_pow {i j : Int} (h : CPow i j) : Op2 X (binaryOp .Pow) (.int i) (.int j) (.int (i ^ j.toNat)) := op2I op_pow h fun _ => .int _
theorem o_adds {i j : Str} (h : i.length + j.length ≤ sizeLine) : Op2 X (binaryOp .Add) (.str i) (.str j) (.str (i ++ j)) :=
  .pure (v := .str (i ++ j)) op_add_str (fun _ => .str _) fun F H Q x y _ rx ry q => by cases rx; cases ry; exact ⟨_, _, rfl, rfl, h, q⟩
theorem o_lt {i j : Int} : Op2 X (compareOp .Lt) (.int i) (.int j) (.bl (decide (i < j))) := op2I0 op_lt fun _ => .bl _
theorem o_ge {i j : Int} : Op2 X (compareOp .GtE) (.int i) (.int j) (.bl (decide (j ≤ i))) := op2I0 op_ge fun _ => .bl _
theorem o_eqi {i j : Int} : Op2 X (compareOp .Eq) (.int i) (.int j) (.bl (decide (i = j))) :=
  .pure (v := .bl (decide (V.int i = V.int j))) op_eq (fun _ => by rw [show decide (V.int i = V.int j) = decide (i = j) from by simp]; exact .bl _) fun F H Q x y _ rx ry q => by cases rx; cases ry; exact ⟨rfl, q⟩
theorem o_nei {i j : Int} : Op2 X (compareOp .NotEq) (.int i) (.int j) (.bl (!decide (i = j))) :=
  .pure (v := .bl (!decide (V.int i = V.int j))) op_ne (fun _ => by rw [show decide (V.int i = V.int j) = decide (i = j) from by simp]; exact .bl _) fun F H Q x y _ rx ry q => by cases rx; cases ry; exact ⟨rfl, q⟩
theorem o_nes {i j : Str} : Op2 X (compareOp .NotEq) (.str i) (.str j) (.bl (!decide (i = j))) :=
  .pure (v := .bl (!decide (V.str i = V.str j))) op_ne (fun _ => by rw [show decide (V.str i = V.str j) = decide (i = j) from by simp]; exact .bl _) fun F H Q x y _ rx ry q => by cases rx; cases ry; exact ⟨rfl, q⟩
end
section
variable {X : Cx} {B : Bd} {S S1 S2 S3 : Nz.S} {a b c e : Expr} {es : List Expr} {pos p : Pos} {d d1 d2 d3 : D}
theorem ev_var (i : Nat) {x : Str} {c : Ce} (hN : X.N[i]? = some x) (hv : Vis X.env.scope x) (hρ : S.ρ[i]? = some (some c)) (hd : (x == ("__debug__" : Str)) = false := by decide) (hcd : (x == ("__classdict__" : Str)) = false := by decide) : Ev X B (.Name x pos) S c S :=
  fun F α H σ Q R k => wE.of (pe_var hN hv hd hcd) (by
    obtain ⟨v, e, r⟩ := R.slots.get hρ
    exact ⟨v, e, k F α v H R Stp.refl r⟩)
theorem ev_int {i : Int} {j pos} : Ev X B (.Constant (.int i) j pos) S (.fr (.int i)) S := fun F α H σ Q R k => wE.of pe_int (k F α _ H R Stp.refl (.int i))
theorem ev_bl {i : Bool} {j pos} : Ev X B (.Constant (.bool i) j pos) S (.fr (.bl i)) S := fun F α H σ Q R k => wE.of pe_bl (k F α _ H R Stp.refl (.bl i))
theorem ev_str {i : Str} {j pos} : Ev X B (.Constant (.str i) j pos) S (.fr (.str i)) S := fun F α H σ Q R k => wE.of pe_str (k F α _ H R Stp.refl (.str i))
theorem ev_bin {op : Operator} (ho : Op2 X (binaryOp op) d1 d2 d) (ha : Ev X B a S (.fr d1) S1) (hb : Ev X B b S1 (.fr d2) S2) (h1 : Sub S.L S1.L := by exact Sub.refl) (h2 : Sub S1.L S2.L := by exact Sub.refl) : Ev X B (.BinOp a op b pos) S (.fr d) S2 :=
  fun F α H σ Q R k pins s I => by
    refine wpAny_BinOp (thn (ha F α H σ _ R (fun F1 α1 v1 H1 R1 st1 r1 => hb F1 α1 H1 σ (fun v2 H2 => ∃ F2 α2, RelX X B F2 α2 H2 σ S2 ∧ Stp F α S.L F2 α2 ∧ Rep X.K X.mg F2 d1 v1 ∧ Rep X.K X.mg F2 d2 v2) R1 fun F2 α2 v2 H2 R2 st2 r2 =>
      ⟨F2, α2, R2, st1.trans st2 h1, Rep.mono st2.fro r1, r2⟩) pins s I) fun v s1 ⟨x, H1, I1, rv, q1⟩ => thn (q1 pins s1 I1) fun u s2 ⟨y, H2, I2, ru, F2, α2, R2, st, r1, r2⟩ => ?_)
    exact ho B F2 α2 H2 σ S2 Q x y R2 r1 r2 (fun F' α' v' H' R' st' r' => k F' α' v' H' R' (st.trans st' fun n h => h2 n (h1 n h)) r') pins s2 v u I2 rv ru
theorem ev_cmp {op : CmpOp} (ho : Op2 X (compareOp op) d1 d2 d) (ha : Ev X B a S (.fr d1) S1) (hb : Ev X B b S1 (.fr d2) S2) (hm : behindInMarks op b = false) (h1 : Sub S.L S1.L := by exact Sub.refl) (h2 : Sub S1.L S2.L := by exact Sub.refl) : Ev X B (.Compare a [op] [b] pos) S (.fr d) S2 :=
  fun F α H σ Q R k pins s I => by
    refine wpAny_Compare1 (thn (ha F α H σ _ R (fun F1 α1 v1 H1 R1 st1 r1 => hb F1 α1 H1 σ (fun v2 H2 => ∃ F2 α2, RelX X B F2 α2 H2 σ S2 ∧ Stp F α S.L F2 α2 ∧ Rep X.K X.mg F2 d1 v1 ∧ Rep X.K X.mg F2 d2 v2) R1 fun F2 α2 v2 H2 R2 st2 r2 =>
      ⟨F2, α2, R2, st1.trans st2 h1, Rep.mono st2.fro r1, r2⟩) pins s I) fun v s1 ⟨x, H1, I1, rv, q1⟩ => thn (q1 pins s1 I1) fun u s2 ⟨y, H2, I2, ru, F2, α2, R2, st, r1, r2⟩ => ?_) hm
    exact ho B F2 α2 H2 σ S2 Q x y R2 r1 r2 (fun F' α' v' H' R' st' r' => k F' α' v' H' R' (st.trans st' fun n h => h2 n (h1 n h)) r') pins s2 v u I2 rv ru
theorem ev_un {op : UnaryOp} {g : Int → V} {i : Int} (ho : UnR X (unaryOp op) (rU g)) (hd : ∀ F, Rep X.K X.mg F d (g i)) (ha : Ev X B a S (.fr (.int i)) S1) : Ev X B (.UnaryOp op a pos) S (.fr d) S1 :=
  fun F α H σ Q R k => wE.of (pe_un ho pe_w) (ha F α H σ _ R fun F1 α1 v1 H1 R1 st1 r1 => by cases r1; exact ⟨_, rfl, k F1 α1 _ H1 R1 st1 (hd F1)⟩)
theorem ev_neg {i : Int} (ha : Ev X B a S (.fr (.int i)) S1) : Ev X B (.UnaryOp .USub a pos) S (.fr (.int (-i))) S1 := ev_un un_neg (fun _ => .int _) ha
theorem ev_not {i : Bool} (ha : Ev X B a S (.fr (.bl i)) S1) : Ev X B (.UnaryOp .Not a pos) S (.fr (.bl (!i))) S1 :=
  fun F α H σ Q R k => wE.of (pe_not pe_w) (ha F α H σ _ R fun F1 α1 v1 H1 R1 st1 r1 => by cases r1; exact ⟨_, rfl, k F1 α1 _ H1 R1 st1 (.bl _)⟩)
theorem ev_one {op : BoolOp} {c : Ce} (ha : Ev X B a S c S1) : Ev X B (.BoolOp op [a] pos) S c S1 :=
  fun F α H σ Q R k => wE.of (pe_one pe_w) (ha F α H σ _ R k)
theorem ev_and {i j : Bool} (ha : Ev X B a S (.fr (.bl i)) S) (hb : i = true → Ev X B (.BoolOp .And (b :: es) pos) S (.fr (.bl j)) S) : Ev X B (.BoolOp .And (a :: b :: es) pos) S (.fr (.bl (i && j))) S :=
  fun F α H σ Q R k => wE.of (pe_and pe_w pe_w) (ha F α H σ _ R fun F1 α1 v1 H1 R1 st1 r1 => by
    cases r1
    refine ⟨i, rfl, ?_⟩
    cases i with
    | true => rw [if_pos rfl]; exact hb rfl F1 α1 H1 σ _ R1 fun F2 α2 v2 H2 R2 st2 r2 => k F2 α2 v2 H2 R2 (st1.trans st2 Sub.refl) (by simpa using r2)
    | false => rw [if_neg Bool.false_ne_true]; exact k F1 α1 _ H1 R1 st1 (.bl _))
/-- tests -/
theorem et_val {i : Bool} (ha : Ev X B a S (.fr (.bl i)) S1) (he : ∀ whole, isTrue a X.env whole = (do let v ← whole; standAt a.pos; holding [v] (truthy v)) := by intro _; rfl) : Et X B a S i S1 :=
  fun F α H σ Q R k => wT.of (pt_val pe_w he) (ha F α H σ _ R fun F1 α1 v1 H1 R1 st1 r1 => by cases r1; exact ⟨i, rfl, k F1 α1 H1 R1 st1⟩)
theorem et_cmp {op : CmpOp} {i : Bool} (ho : Op2 X (compareOp op) d1 d2 (.bl i)) (ha : Ev X B a S (.fr d1) S1) (hb : Ev X B b S1 (.fr d2) S2) (hm : behindInMarks op b = false) (h1 : Sub S.L S1.L := by exact Sub.refl) (h2 : Sub S1.L S2.L := by exact Sub.refl) : Et X B (.Compare a [op] [b] pos) S i S2 :=
  fun F α H σ Q R k pins s I => by
    refine wpAny_isTrue_Compare1 (thn (ha F α H σ _ R (fun F1 α1 v1 H1 R1 st1 r1 => hb F1 α1 H1 σ (fun v2 H2 => ∃ F2 α2, RelX X B F2 α2 H2 σ S2 ∧ Stp F α S.L F2 α2 ∧ Rep X.K X.mg F2 d1 v1 ∧ Rep X.K X.mg F2 d2 v2) R1 fun F2 α2 v2 H2 R2 st2 r2 =>
      ⟨F2, α2, R2, st1.trans st2 h1, Rep.mono st2.fro r1, r2⟩) pins s I) fun v s1 ⟨x, H1, I1, rv, q1⟩ => thn (q1 pins s1 I1) fun u s2 ⟨y, H2, I2, ru, F2, α2, R2, st, r1, r2⟩ => ?_) hm
    refine thn (ho B F2 α2 H2 σ S2 (fun v' H' => ∃ k, v' = .bl k ∧ Q k H') x y R2 r1 r2 (fun F' α' v' H' R' st' r' => by cases r'; exact ⟨i, rfl, k F' α' H' R' (st.trans st' fun n h => h2 n (h1 n h))⟩) pins s2 v u I2 rv ru) fun c s3 ⟨z, H3, I3, r3, k', e, q3⟩ => ?_
    subst e
    cases r3
    exact wpAny_truthy_bool ⟨H3, I3, q3⟩
theorem et_not {i : Bool} (ha : Et X B a S i S1) : Et X B (.UnaryOp .Not a pos) S (!i) S1 := fun F α H σ Q R k => wT.of (pt_not pt_w) (ha F α H σ _ R k)
/-- a chain of tests, whatever its whole -/
def Ew (X : Cx) (B : Bd) (e : Expr) (S : Nz.S) (b : Bool) : Prop :=
  ∀ F α H σ (Q : Bool → Hp → Prop), RelX X B F α H σ S → (∀ F' α' H', RelX X B F' α' H' σ S → Stp F α S.L F' α' → Q b H') → ∀ whole pins s, Inv X pins σ H s → wpAny (model X.prog X.w) X.A (isTrue e X.env whole) (TP X pins σ Q) X.xe s
def tW (X : Cx) (e : Expr) : TT := fun σ H Q => ∀ whole pins s, Inv X pins σ H s → wpAny (model X.prog X.w) X.A (isTrue e X.env whole) (TP X pins σ Q) X.xe s
theorem pw_w {e : Expr} : PW X e (tW X e) := ⟨fun whole pins s σ H Q I h => h whole pins s I⟩
theorem Ew.of {e : Expr} {t : TT} {i : Bool} (h : PW X e t) (q : ∀ F α H σ (Q : Bool → Hp → Prop), RelX X B F α H σ S → (∀ F' α' H', RelX X B F' α' H' σ S → Stp F α S.L F' α' → Q i H') → t σ H Q) : Ew X B e S i :=
  fun F α H σ Q R k whole pins s I => h.run whole pins s σ H Q I (q F α H σ Q R k)
theorem Ew.et {e : Expr} {i : Bool} (h : Ew X B e S i) : Et X B e S i S := fun F α H σ Q R k pins s I => h F α H σ Q R k _ pins s I
theorem ew_or1 {i : Bool} (ha : Et X B a S i S) : Ew X B (.BoolOp .Or [a] pos) S i := .of (pw_or1 pt_w) fun F α H σ Q R k => ha F α H σ _ R k
theorem ew_or {i j : Bool} (ha : Et X B a S i S) (hb : i = false → Ew X B (.BoolOp .Or (b :: es) pos) S j) : Ew X B (.BoolOp .Or (a :: b :: es) pos) S (i || j) :=
  .of (pw_or pt_w pw_w) fun F α H σ Q R k => ha F α H σ _ R fun F1 α1 H1 R1 st1 => by
    cases i with
    | false => rw [if_neg Bool.false_ne_true]; exact hb rfl F1 α1 H1 σ _ R1 fun F2 α2 H2 R2 st2 => by simpa using k F2 α2 H2 R2 (st1.trans st2 Sub.refl)
    | true => rw [if_pos rfl]; simpa using k F1 α1 H1 R1 st1
theorem ev_if {t : Expr} {i : Bool} (ht : Et X B t S i S) (ha : i = true → Ev X B a S (.fr d1) S) (hb : i = false → Ev X B b S (.fr d2) S) : Ev X B (.IfExp t a b pos) S (.fr (if i = true then d1 else d2)) S :=
  fun F α H σ Q R k => wE.of (pe_ifExp pt_w pe_w pe_w) (ht F α H σ _ R fun F1 α1 H1 R1 st1 => by
    cases i with
    | true => rw [if_pos rfl]; exact ha rfl F1 α1 H1 σ _ R1 fun F2 α2 v2 H2 R2 st2 r2 => k F2 α2 v2 H2 R2 (st1.trans st2 Sub.refl) (by simpa using r2)
    | false => rw [if_neg Bool.false_ne_true]; exact hb rfl F1 α1 H1 σ _ R1 fun F2 α2 v2 H2 R2 st2 r2 => k F2 α2 v2 H2 R2 (st1.trans st2 Sub.refl) (by simpa using r2))
theorem ea_nil : Ea X B [] S [] S := fun F α H σ Q R k => wA.of pa_nil (k F α _ H R Stp.refl .nil)
theorem ea_cons {c : Ce} {cs : List Ce} (ha : Ev X B a S c S1) (hr : Ea X B es S1 cs S2) (h1 : Sub S.L S1.L := by exact Sub.refl) (h2 : Sub S1.L S2.L := by exact Sub.refl) (hs : starEach (a :: es) X.env = (false, eval a X.env) :: starEach es X.env := by rfl) : Ea X B (a :: es) S (c :: cs) S2 :=
  fun F α H σ Q R k => wA.of (pa_cons pe_w pa_w hs) (ha F α H σ _ R fun F1 α1 v1 H1 R1 st1 r1 => hr F1 α1 H1 σ _ R1 fun F2 α2 vs H2 R2 st2 r2 => k F2 α2 _ H2 R2 (st1.trans st2 h1) (.cons (r1.step st2 h2) r2))
theorem ev_lst {ds : List D} (h : Ea X B es S (ds.map Ce.fr) S1) (hz : ds.length ≤ sizeLine) : Ev X B (.List es pos) S (.fr (.lst ds)) S1 :=
  fun F α H σ Q R k => wE.of (pe_lst pa_w) (h F α H σ _ R fun F1 α1 vs H1 R1 st1 r1 => by
    have r := r1.fr
    refine ⟨by rw [← r.length]; exact hz, fun p hp => ?_⟩
    have hf := R1.fresh hp
    exact k _ α1 _ _ (R1.allocF hp) ⟨st1.fro.trans (same_upd hf), st1.nm⟩ (Rep.lst (SqL.of upd_same) (r.mono (same_upd hf))))
theorem ev_tup {ds : List D} {k1} (h : Ea X B es S (ds.map Ce.fr) S1) (hz : ds.length ≤ sizeLine) : Ev X B (.Tuple es k1 pos) S (.fr (.tup ds)) S1 :=
  fun F α H σ Q R k => wE.of (pe_tup pa_w) (h F α H σ _ R fun F1 α1 vs H1 R1 st1 r1 => by
    have r := r1.fr
    refine ⟨by rw [← r.length]; exact hz, fun p hp => ?_⟩
    have hf := R1.fresh hp
    exact k _ α1 _ _ (R1.allocF hp) ⟨st1.fro.trans (same_upd hf), st1.nm⟩ (Rep.tup (SqT.of upd_same) (r.mono (same_upd hf))))
theorem ev_lstL (n : Nat) {ds : List D} (h : Ea X B es S (ds.map Ce.fr) S1) (hz : ds.length ≤ sizeLine) (hn : n ∉ names S1.L) (h100 : 100 ≤ n) (h1 : Sub S.L S1.L := by exact Sub.refl) : Ev X B (.List es pos) S (.ad n) ⟨S1.ρ, S1.L ++ [(n, .fl ds)]⟩ :=
  fun F α H σ Q R k => wE.of (pe_lst pa_w) (h F α H σ _ R fun F1 α1 vs H1 R1 st1 r1 => by
    have r := r1.fr
    refine ⟨by rw [← r.length]; exact hz, fun p hp => ?_⟩
    refine k F1 (setα α1 n p) _ _ (R1.allocL hp hn h100 ⟨vs, upd_same, r⟩) (st1.trans (stp_setα hn) h1) ⟨?_, ?_⟩
    · rw [names_append]; exact List.mem_append_right _ (List.mem_singleton.mpr rfl)
    · show V.ref p = V.ref (if n = n then p else α1 n)
      rw [if_pos rfl])
theorem ev_ixL {ca : Ce} {i : Int} {ds : List D} (ha : Ev X B a S ca S1) (hb : Ev X B b S1 (.fr (.int i)) S2) (hl : AsL S2.L ca ds) (hi : atI ds i = some d) (hs : PlainIx b := by exact fun _ _ => rfl) (h1 : Sub S.L S1.L := by exact Sub.refl) (h2 : Sub S1.L S2.L := by exact Sub.refl) :
    Ev X B (.Subscript a b pos) S (.fr d) S2 :=
  fun F α H σ Q R k => wE.of (pe_ix ix_list pe_w pe_w hs) (ha F α H σ _ R fun F1 α1 v1 H1 R1 st1 r1 => hb F1 α1 H1 σ _ R1 fun F2 α2 v2 H2 R2 st2 r2 => by
    obtain ⟨p, vs, rfl, hq, rs⟩ := R2.asL hl (r1.step st2 h2)
    cases r2
    obtain ⟨v, hv, rv⟩ : ∃ v, atI vs i = some v ∧ Rep X.K X.mg F2 d v := by
      unfold atI at hi ⊢
      rw [← rs.length]
      cases q : ixN ds.length i with
      | none => rw [q] at hi; cases hi
      | some j => rw [q] at hi; exact rs.get hi
    exact ⟨p, vs, i, v, rfl, rfl, hq, hv, k F2 α2 v H2 R2 (st1.trans st2 h1) rv⟩)
theorem ev_ixT {i : Int} {ds : List D} (ha : Ev X B a S (.fr (.tup ds)) S1) (hb : Ev X B b S1 (.fr (.int i)) S2) (hi : atI ds i = some d) (hs : PlainIx b := by exact fun _ _ => rfl) (h1 : Sub S.L S1.L := by exact Sub.refl) (h2 : Sub S1.L S2.L := by exact Sub.refl) :
    Ev X B (.Subscript a b pos) S (.fr d) S2 :=
  fun F α H σ Q R k => wE.of (pe_ix ix_tup pe_w pe_w hs) (ha F α H σ _ R fun F1 α1 v1 H1 R1 st1 r1 => hb F1 α1 H1 σ _ R1 fun F2 α2 v2 H2 R2 st2 r2 => by
    obtain ⟨p, vs, rfl, hq, rs⟩ := R2.asT (Rep.mono st2.fro r1)
    cases r2
    obtain ⟨v, hv, rv⟩ : ∃ v, atI vs i = some v ∧ Rep X.K X.mg F2 d v := by
      unfold atI at hi ⊢
      rw [← rs.length]
      cases q : ixN ds.length i with
      | none => rw [q] at hi; cases hi
      | some j => rw [q] at hi; exact rs.get hi
    exact ⟨p, vs, i, v, rfl, rfl, hq, hv, k F2 α2 v H2 R2 (st1.trans st2 h1) rv⟩)
end
end Nz
namespace Nz
open PySem PySem.Spec PyProof.Rows L2
def wI (X : Cx) (tg iter : Expr) (σ : L2.St) (H : Hp) (R : It → Hp → Prop) : Prop :=
  ∀ pins s, Inv X pins σ H s → wpAny (model X.prog X.w) X.A (eval iter X.env) (fun v s1 => wpAny (model X.prog X.w) X.A (pyIter v) (PIE X pins σ tg R) X.xe s1) X.xe s
theorem pi_w {X : Cx} {tg iter : Expr} : PI X tg iter (wI X tg iter) := ⟨fun pins s σ H R I h => h pins s I⟩
theorem wI.of {X : Cx} {tg iter : Expr} {t : TI} {σ : L2.St} {H : Hp} {R : It → Hp → Prop} (h : PI X tg iter t) (q : t σ H R) : wI X tg iter σ H R := fun pins s I => h.run pins s σ H R I q
structure JOk (K : Frag) (mg : Mg) (F : Hp) (J : It) (xs : List D) : Prop where
  go : ∀ (B : Bd) F' α H σ (S : Nz.S) (i : Nat) (d : D), Rel K mg B F' α H σ S → Same F F' → xs[i]? = some d → J.go i H ∧ ∀ x H', J.yld i H x H' → ∃ F2, Rel K mg B F2 α H' σ S ∧ Same F' F2 ∧ Rep K mg F2 d x
  stop : ∀ (B : Bd) F' α H σ (S : Nz.S) (i : Nat), Rel K mg B F' α H σ S → Same F F' → xs.length ≤ i → J.stop i H
def Src (X : Cx) (B : Bd) (tg iter : Expr) (S : Nz.S) (xs : List D) (S1 : Nz.S) : Prop :=
  ∀ F α H σ R, RelX X B F α H σ S → (∀ F' α' H' J, RelX X B F' α' H' σ S1 → Stp F α S.L F' α' → JOk X.K X.mg F' J xs → R J H') → wI X tg iter σ H R
section
variable {X : Cx} {B : Bd} {S S1 S2 S3 : Nz.S} {tg a b c e : Expr} {es : List Expr} {pos p : Pos} {d d1 d2 d3 : D} {xs : List D}
theorem src_list (h : Ev X B e S (.fr (.lst xs)) S1) : Src X B tg e S xs S1 := fun F α H σ R RR k => wI.of (pi_list pe_w) (h F α H σ _ RR fun F1 α1 v1 H1 R1 st1 r1 => by
  cases r1 with
  | lst h1 h2 =>
    rename_i a vs
    refine ⟨a, rfl, ⟨vs, R1.sub.seq h1⟩, k F1 α1 H1 _ R1 st1 ⟨fun B F' α H σ S i d R' hs hi => ?_, fun B F' α H σ S i R' hs hi => ⟨vs, R'.sub.seq (hs.seq h1), by rw [← h2.length]; exact hi⟩⟩⟩
    obtain ⟨v, hv, rv⟩ := h2.get hi
    refine ⟨⟨vs, v, R'.sub.seq (hs.seq h1), hv⟩, fun x H' y => ?_⟩
    obtain ⟨rfl, y⟩ := y
    have := y vs (R'.sub.seq (hs.seq h1))
    rw [hv] at this; cases this
    exact ⟨F', R', Same.refl _, rv.mono hs⟩)
/-- lo, lo + 1, .. -/
def rngD (lo : Int) (n : Nat) : List D := (List.range n).map fun (i : Nat) => D.int (lo + (i : Int))
theorem rngD_get {lo : Int} {n i : Nat} {d : D} (h : (rngD lo n)[i]? = some d) : i < n ∧ d = .int (lo + i) := by
  unfold rngD at h
  rw [List.getElem?_map] at h
  by_cases hi : i < n
  · rw [List.getElem?_range hi] at h
    exact ⟨hi, (Option.some.inj h).symm⟩
  · rw [List.getElem?_eq_none (by simpa using hi)] at h
    cases h
theorem rngD_len {lo : Int} {n : Nat} : (rngD lo n).length = n := by simp [rngD]
theorem jok_range {K : Frag} {mg : Mg} {F : Hp} {lo : Int} {n : Nat} : JOk K mg F (Itr lo n) (rngD lo n) :=
  ⟨fun B F' α H σ S i d R' hs hi => by
    obtain ⟨h1, rfl⟩ := rngD_get hi
    refine ⟨h1, fun x H' y => ?_⟩
    obtain ⟨rfl, rfl⟩ := y
    exact ⟨F', R', Same.refl _, .int _⟩, fun B F' α H σ S i R' hs hi => by rw [rngD_len] at hi; exact hi⟩
theorem src_range1 {j : Int} (h : Ea X B [a] S [.fr (.int j)] S1) (hg : Gl X "range") (hm : X.mg "range" = none) (h1 : -(2 ^ 62) ≤ j) (h2 : j < 2 ^ 62) (hs : starEach [a] X.env = [(false, eval a X.env)] := by rfl) : Src X B tg (.Call (.Name "range" p) [a] [] pos) S (rngD 0 j.toNat) S1 :=
  fun F α H σ R RR k => wI.of (pi_range1 hg hm pa_w hs) (h F α H σ _ RR fun F1 α1 vs H1 R1 st1 r1 => by
    cases r1 with
    | cons r1 r2 =>
      cases r2
      cases r1
      exact ⟨j, rfl, h1, h2, k F1 α1 H1 _ R1 st1 jok_range⟩)
def wG (X : Cx) (tg : Expr) (v : V) (σ : L2.St) (H : Hp) (Q : L2.St → Hp → Prop) : Prop :=
  ∀ pins s u, Inv X pins σ H s → RelV v u → wpAny (model X.prog X.w) X.A (assign tg X.env u) (fun _ s' => ∃ σ' H', Inv X pins σ' H' s' ∧ Q σ' H') X.xe s
theorem pg_w {tg : Expr} : PG X tg (fun v σ H Q => wG X tg v σ H Q) := ⟨fun pins s σ H v u Q I r h => h pins s u I r⟩
def Eg (X : Cx) (B : Bd) (tg : Expr) (c : Ce) (S S2 : Nz.S) : Prop :=
  ∀ F α H σ v Q, RelX X B F α H σ S → CR X F α S.L c v → (∀ σ' F' H', RelX X B F' α H' σ' S2 → Same F F' → Q σ' H') → wG X tg v σ H Q
def setS (S : Nz.S) (i : Nat) (c : Ce) : Nz.S := ⟨S.ρ.set i (some c), S.L⟩
theorem Rel.setS {K : Frag} {mg : Mg} {F : Hp} {α : Nat → Addr} {H : Hp} {σ : L2.St} (R : Rel K mg B F α H σ S) {i : Nat} {c : Ce} {v : V} (r : CRel K mg F α S.L c v) : Rel K mg B F α H (σ.set i (some v)) (setS S i c) :=
  ⟨R.sub, R.bF, R.nF, R.frame, R.nd, R.inj, R.live, R.slots.set i r, R.fix⟩
theorem eg_name (i : Nat) {x : Str} {c : Ce} (hN : X.N.Nodup) (hi : X.N[i]? = some x) (hx : Loc X.env.scope x) (hf : X.fn x = true ∨ X.env.scope.names.lookup x = some .local := by first | exact .inl rfl | exact .inr rfl | assumption) : Eg X B (.Name x pos) c S (setS S i c) :=
  fun F α H σ v Q R r k pins s u I ru => (pg_name hN hi hx hf).run pins s σ H v u Q I ru (k _ F H (R.setS r) (Same.refl _))
/-- several -/
def Egs (X : Cx) (B : Bd) (ts : List Expr) (cs : List D) (S S2 : Nz.S) : Prop :=
  ∀ F α H σ vs (Q : L2.St → Hp → Prop), RelX X B F α H σ S → Reps X.K X.mg F cs vs → (∀ σ' F' H', RelX X B F' α H' σ' S2 → Same F F' → Q σ' H') →
    ∀ pins s us, Inv X pins σ H s → Vals vs us → wpAny (model X.prog X.w) X.A (assignInOrder ((assignEach ts X.env).map (·.2)) us) (fun _ s' => ∃ σ' H', Inv X pins σ' H' s' ∧ Q σ' H') X.xe s
theorem egs_nil : Egs X B [] [] S S := fun F α H σ vs Q R r k pins s us I ru => by
  cases r
  cases ru
  exact assignInOrder_nil ⟨σ, H, I, k σ F H R (Same.refl _)⟩
theorem egs_cons {ds : List D} (h1 : Eg X B e (.fr d) S S1) (h2 : Egs X B es ds S1 S2) (hL : S1.L = S.L := by rfl) (hs : (assignEach (e :: es) X.env).map (·.2) = assign e X.env :: (assignEach es X.env).map (·.2) := by rfl) : Egs X B (e :: es) (d :: ds) S S2 :=
  fun F α H σ vs Q R r k pins s us I ru => by
    cases r with
    | cons r rr =>
      cases ru with
      | cons u uu =>
        rw [hs]
        refine assignInOrder_cons (thn (h1 F α H σ _ (fun σ1 H1 => ∃ F1, RelX X B F1 α H1 σ1 S1 ∧ Same F F1) R r (fun σ' F' H' R' s' => ⟨F', R', s'⟩) pins s _ I u) fun _ s1 ⟨σ1, H1, I1, F1, R1, sm⟩ => ?_)
        exact h2 F1 α H1 σ1 _ Q R1 (rr.mono sm) (fun σ' F' H' R' s' => k σ' F' H' R' (sm.trans s')) pins s1 _ I1 uu
theorem eg_tup {ds : List D} {k1} (hc : X.calm = true) (h : Egs X B es ds S S2) (hn : (assignEach es X.env).length = ds.length := by rfl) (hst : (assignEach es X.env).findIdx? (·.1) = none := by rfl) : Eg X B (.Tuple es k1 pos) (.fr (.tup ds)) S S2 :=
  fun F α H σ v Q R r k pins s u I ru => by
    cases (show Rep X.K X.mg F (.tup ds) v from r) with
    | tup hq hr =>
      have hq' := R.sub.seqT hq
      cases ru
      obtain ⟨its, rv, ht, hz⟩ := I.tuple hq'
      refine assign_Tuple_tuple (I.ok.hd hc) ht (by simp [hn, hr.length, rv.length]) hst fun h' hx => ?_
      have I1 : Inv X pins σ H { s with heap := h' } := I.kept (t' := s.toks) fun b o e => hx b o (Nat.ne_of_lt (Heap.lt_size e)) e
      exact h F α H σ _ Q R hr k pins _ _ I1 (by simpa using rv)
variable {K : Out → Prop} {st : Stmt} {sts body els : List Stmt}
def seqK (X : Cx) (B : Bd) (rest : List Stmt) (K : Out → Prop) : Out → Prop
  | .nx S => Exs X B rest S K
  | .ret c S => K (.ret c S)
  | .bk S => K (.bk S)
  | .ct S => K (.ct S)
theorem exs_nil (h : K (.nx S)) : Exs X B [] S K := fun F α H σ D R o => wSs.of pss_nil (o.nx S F α H σ h R (Same.refl _))
theorem exs_cons (h : Ex X B st S (seqK X B sts K)) : Exs X B (st :: sts) S K := fun F α H σ D R o => wSs.of (pss_cons ps_w pss_w) (h F α H σ _ R
  ⟨fun S' F' α' H' σ' k R' s' => k F' α' H' σ' D R' (o.mono s'), fun S' F' α' H' σ' k R' s' => o.bk S' F' α' H' σ' k R' s', fun S' F' α' H' σ' k R' s' => o.ct S' F' α' H' σ' k R' s',
    fun c S' F' α' H' σ' v k R' s' r => o.ret c S' F' α' H' σ' v k R' s' r⟩)
theorem exs_one (h : Ex X B st S K) : Exs X B [st] S K := fun F α H σ D R o => wSs.of (pss_one ps_w) (h F α H σ _ R o)
theorem ex_asg {cv : Ce} (he : Ev X B e S cv S1) (hg : Eg X B tg cv S1 S2) (k : K (.nx S2)) (hs : swapsWithSole [tg] e pos.line X.env = pure false := by rfl) (hw : swappedStores [tg] e X.env = pure none := by rfl)
    (h1 : (assignEach [tg] X.env).map (·.2) = [assign tg X.env] := by rfl) : Ex X B (.Assign [tg] e pos) S K := fun F α H σ D R o => wS.of (ps_asg pe_w pg_w hs hw h1) (he F α H σ _ R fun F1 α1 v1 H1 R1 st1 r1 =>
      hg F1 α1 H1 σ v1 _ R1 r1 fun σ' F' H' R' s' => o.nx S2 F' α1 H' σ' k R' (st1.fro.trans s'))
theorem ex_set (i : Nat) {x : Str} {c : Ce} {pos' : Pos} (he : Ev X B e S c S1) (k : K (.nx (setS S1 i c))) (hN : X.N.Nodup) (hi : X.N[i]? = some x) (hx : Loc X.env.scope x) (hs : swapsWith e (some (.Name x pos')) pos.line X.env = pure false := by rfl)
    (hf : X.fn x = true ∨ X.env.scope.names.lookup x = some .local := by first | exact .inl rfl | exact .inr rfl | assumption) : Ex X B (.Assign [.Name x pos'] e pos) S K :=
  fun F α H σ D R o => wS.of (ps_set hN hi hx pe_w hs hf) (he F α H σ _ R fun F1 α1 v1 H1 R1 st1 r1 => o.nx _ F1 α1 H1 _ k (R1.setS r1) st1.fro)
theorem ex_ret {c : Ce} (he : Ev X B e S c S1) (k : K (.ret c S1)) : Ex X B (.Return (some e) pos) S K := fun F α H σ D R o => wS.of (ps_ret pe_w) (he F α H σ _ R fun F1 α1 v1 H1 R1 st1 r1 => o.ret c S1 F1 α1 H1 σ v1 k R1 st1.fro r1)
theorem ex_expr {c : Ce} (he : Ev X B e S c S1) (k : K (.nx S1)) (hs : swapsWith e none pos.line X.env = pure false := by rfl) : Ex X B (.Expr e pos) S K := fun F α H σ D R o => wS.of (ps_expr pe_w hs) (he F α H σ _ R fun F1 α1 v1 H1 R1 st1 r1 => o.nx S1 F1 α1 H1 σ k R1 st1.fro)
theorem ex_if {i : Bool} (ht : Et X B e S i S1) (ha : i = true → Exs X B body S1 K) (hb : i = false → Exs X B els S1 K) : Ex X B (.If e body els pos) S K := fun F α H σ D R o => wS.of (ps_if pt_w pss_w pss_w) (ht F α H σ _ R fun F1 α1 H1 R1 st1 => by
  cases i with
  | true => rw [if_pos rfl]; exact ha rfl F1 α1 H1 σ D R1 (o.mono st1.fro)
  | false => rw [if_neg Bool.false_ne_true]; exact hb rfl F1 α1 H1 σ D R1 (o.mono st1.fro))
theorem Exs.mono {K' : Out → Prop} (h : Exs X B sts S K) (hk : ∀ o, K o → K' o) : Exs X B sts S K' := fun F α H σ D R o => h F α H σ D R
  ⟨fun S' F' α' H' σ' k => o.nx S' F' α' H' σ' (hk _ k), fun S' F' α' H' σ' k => o.bk S' F' α' H' σ' (hk _ k), fun S' F' α' H' σ' k => o.ct S' F' α' H' σ' (hk _ k), fun c S' F' α' H' σ' v k => o.ret c S' F' α' H' σ' v (hk _ k)⟩
theorem Ex.mono {K' : Out → Prop} (h : Ex X B st S K) (hk : ∀ o, K o → K' o) : Ex X B st S K' := fun F α H σ D R o => h F α H σ D R
  ⟨fun S' F' α' H' σ' k => o.nx S' F' α' H' σ' (hk _ k), fun S' F' α' H' σ' k => o.bk S' F' α' H' σ' (hk _ k), fun S' F' α' H' σ' k => o.ct S' F' α' H' σ' (hk _ k), fun c S' F' α' H' σ' v k => o.ret c S' F' α' H' σ' v (hk _ k)⟩
end
end Nz
namespace Nz
open PySem PySem.Spec PyProof.Rows L2
def delL (n : Nat) : List (Nat × LO) → List (Nat × LO)
  | [] => []
  | (m, o) :: r => if n = m then delL n r else (m, o) :: delL n r
def frC (n : Nat) (d : D) : Ce → Ce
  | .fr e => .fr e
  | .ad m => if n = m then .fr d else .ad m
  | .xv u => .xv u
def frO (n : Nat) (d : D) : LO → LO
  | .fl ds => .fl ds
  | .cl cs => .cl (cs.map (frC n d))
  | .ins c fs => .ins c (fs.map fun p => (p.1, frC n d p.2))
  | .dT kvs => .dT kvs
  | .dK kvs => .dK (kvs.map fun p => (p.1, frC n d p.2))
def frS (n : Nat) (d : D) (S : Nz.S) : Nz.S := ⟨S.ρ.map (Option.map (frC n d)), (delL n S.L).map fun p => (p.1, frO n d p.2)⟩
section
variable {K : Frag} {mg : Mg} {B : Bd} {F F' : Hp} {α α' : Nat → Addr} {L L' : List (Nat × LO)} {H H' : Hp} {σ : L2.St} {S : Nz.S}
theorem mem_delL : ∀ {L : List (Nat × LO)} {n m : Nat} {o : LO}, (m, o) ∈ delL n L ↔ m ≠ n ∧ (m, o) ∈ L
  | [], n, m, o => by simp [delL]
  | (k, u) :: r, n, m, o => by
    unfold delL
    by_cases q : n = k
    · subst q
      rw [if_pos rfl, mem_delL, List.mem_cons]
      constructor
      · rintro ⟨h1, h2⟩; exact ⟨h1, .inr h2⟩
      · rintro ⟨h1, h2 | h2⟩
        · cases h2; exact absurd rfl h1
        · exact ⟨h1, h2⟩
    · rw [if_neg q, List.mem_cons, mem_delL, List.mem_cons]
      constructor
      · rintro (h | ⟨h1, h2⟩)
        · cases h; exact ⟨fun z => q z.symm, .inl rfl⟩
        · exact ⟨h1, .inr h2⟩
      · rintro ⟨h1, h2 | h2⟩
        · exact .inl h2
        · exact .inr ⟨h1, h2⟩
theorem names_delL {n m : Nat} : m ∈ names (delL n L) ↔ m ≠ n ∧ m ∈ names L := by
  constructor
  · intro h
    obtain ⟨⟨a, o⟩, h1, h2⟩ := List.mem_map.mp h
    have h2 : a = m := h2
    subst h2
    obtain ⟨h3, h4⟩ := mem_delL.mp h1
    exact ⟨h3, mem_names h4⟩
  · rintro ⟨h1, h2⟩
    obtain ⟨⟨a, o⟩, h3, h4⟩ := List.mem_map.mp h2
    have h4 : a = m := h4
    subst h4
    exact mem_names (mem_delL.mpr ⟨h1, h3⟩)
theorem names_frS {n : Nat} {d : D} : names ((delL n L).map fun p => (p.1, frO n d p.2)) = names (delL n L) := by simp [names]
theorem nodup_delL {n : Nat} (h : (names L).Nodup) : (names (delL n L)).Nodup := by
  refine h.sublist (List.Sublist.map _ ?_)
  induction L with
  | nil => exact .slnil
  | cons p r ih =>
    obtain ⟨m, o⟩ := p
    have ih' := ih (List.nodup_cons.mp h).2
    unfold delL
    split
    · exact .cons _ ih'
    · exact .cons₂ _ ih'
theorem CRel.freeze {n : Nat} {d : D} (hF : Same F F') (hd : Rep K mg F' d (.ref (α n))) : ∀ {c : Ce} {v : V}, CRel K mg F α L c v → CRel K mg F' α ((delL n L).map fun p => (p.1, frO n d p.2)) (frC n d c) v
  | .fr e, v, h => Rep.mono hF h
  | .ad m, v, ⟨h1, h2⟩ => by
    subst h2
    show CRel K mg F' α _ (if n = m then .fr d else .ad m) _
    by_cases q : n = m
    · subst q; rw [if_pos rfl]; exact hd
    · rw [if_neg q]
      exact ⟨by rw [names_frS]; exact names_delL.mpr ⟨fun z => q z.symm, h1⟩, rfl⟩
  | .xv _, _, h => h
theorem CRels.freeze {n : Nat} {d : D} (hF : Same F F') (hd : Rep K mg F' d (.ref (α n))) : ∀ {c : List Ce} {v : List V}, CRels K mg F α L c v → CRels K mg F' α ((delL n L).map fun p => (p.1, frO n d p.2)) (c.map (frC n d)) v
  | _, _, .nil => .nil
  | _, _, .cons h r => .cons (h.freeze hF hd) (r.freeze hF hd)
theorem CRelF.freeze {n : Nat} {d : D} (hF : Same F F') (hd : Rep K mg F' d (.ref (α n))) : ∀ {c : List (Str × Ce)} {v : List (Str × V)}, CRelF K mg F α L c v → CRelF K mg F' α ((delL n L).map fun p => (p.1, frO n d p.2)) (c.map fun p => (p.1, frC n d p.2)) v
  | _, _, .nil => .nil
  | _, _, .cons h r => .cons (h.freeze hF hd) (r.freeze hF hd)
theorem CRelK.freeze {κ : Type} {n : Nat} {d : D} (hF : Same F F') (hd : Rep K mg F' d (.ref (α n))) : ∀ {c : List (κ × Ce)} {v : List (κ × V)}, CRelK K mg F α L c v → CRelK K mg F' α ((delL n L).map fun p => (p.1, frO n d p.2)) (c.map fun p => (p.1, frC n d p.2)) v
  | _, _, .nil => .nil
  | _, _, .cons h r => .cons (h.freeze hF hd) (r.freeze hF hd)
theorem SlR.freeze {n : Nat} {d : D} (hF : Same F F') (hd : Rep K mg F' d (.ref (α n))) : ∀ {c : List (Option Ce)} {v : L2.St}, SlR K mg F α L c v → SlR K mg F' α ((delL n L).map fun p => (p.1, frO n d p.2)) (c.map (Option.map (frC n d))) v
  | _, _, .nil => .nil
  | _, _, .no r => .no (r.freeze hF hd)
  | _, _, .so h r => .so (h.freeze hF hd) (r.freeze hF hd)
/-- a live list whose items are frozen is frozen -/
theorem Rel.freeze (R : Rel K mg B F α H σ S) {n : Nat} {ds : List D} (hn : getL n S.L = some (.fl ds)) :
    ∃ F', Rel K mg B F' α H σ (frS n (.lst ds) S) ∧ Stp F α S.L F' α ∧ Rep K mg F' (.lst ds) (.ref (α n)) ∧ ∀ c v, CRel K mg F α S.L c v → CRel K mg F' α (frS n (.lst ds) S).L (frC n (.lst ds) c) v := by
  obtain ⟨f0, f1, vs, e, r⟩ := R.live n _ (getL_mem hn)
  have hF : Same F (upd F (α n) (.lst vs)) := same_upd f0
  have hd : Rep K mg (upd F (α n) (.lst vs)) (.lst ds) (.ref (α n)) := .lst (SqL.of upd_same) (r.mono hF)
  refine ⟨upd F (α n) (.lst vs), ⟨fun b u q => ?_, R.bF.trans hF, fun b u q => ?_, R.frame, ?_, fun a b ha hb => ?_, fun m o hm => ?_, R.slots.freeze hF hd, fun m a e hm => R.fix m a e (names_delL.mp (by rw [← names_frS]; exact hm)).2⟩, ⟨hF, fun _ _ => rfl⟩, hd, fun c v h => h.freeze hF hd⟩
  · by_cases z : b = α n
    · subst z; rw [upd_same] at q; rw [e]; exact q
    · rw [upd_ne z] at q; exact R.sub b u q
  · by_cases z : b = α n
    · subst z; exact .inr f1
    · rw [upd_ne z] at q; exact R.nF b u q
  · show (names ((delL n S.L).map fun p => (p.1, frO n (.lst ds) p.2))).Nodup
    rw [names_frS]; exact nodup_delL R.nd
  · have ha : a ∈ names ((delL n S.L).map fun p => (p.1, frO n (.lst ds) p.2)) := ha
    have hb : b ∈ names ((delL n S.L).map fun p => (p.1, frO n (.lst ds) p.2)) := hb
    rw [names_frS] at ha hb
    exact R.inj a b (names_delL.mp ha).2 (names_delL.mp hb).2
  · obtain ⟨⟨m', o'⟩, h1, h2⟩ := List.mem_map.mp hm
    cases h2
    obtain ⟨h3, h4⟩ := mem_delL.mp h1
    obtain ⟨g0, g1, g2⟩ := R.live m' o' h4
    have ne : α m' ≠ α n := fun q => h3 (R.inj _ _ (mem_names h4) (mem_names (getL_mem hn)) q)
    refine ⟨(upd_ne ne).trans g0, g1, ?_⟩
    cases o' with
    | fl ds' => obtain ⟨us, e1, r1⟩ := g2; exact ⟨us, e1, r1.mono hF⟩
    | cl cs => obtain ⟨us, e1, r1⟩ := g2; exact ⟨us, e1, r1.freeze hF hd⟩
    | ins c fs =>
      obtain ⟨C, dx, us, m1, e1, e2, e3, e4, r1⟩ := g2
      exact ⟨C, dx, us, m1, e1, e2, by rw [upd_ne (fun q => by rw [q, e] at e2; cases e2)]; exact e3, e4, r1.freeze hF hd⟩
    | dT kvs => obtain ⟨us, e1, r1⟩ := g2; exact ⟨us, e1, Paired.imp (fun _ _ z => ⟨z.1, z.2.mono hF⟩) r1⟩
    | dK kvs => obtain ⟨us, e1, r1⟩ := g2; exact ⟨us, e1, r1.freeze hF hd⟩
theorem LAt.frz {a p : Addr} {o : LO} {vs : List V} (f0 : F p = none) (e : H p = some (.lst vs)) (h : LAt K mg B F α L H a o) : LAt K mg B (upd F p (.lst vs)) α L H a o := by
  have hF : Same F (upd F p (.lst vs)) := same_upd f0
  have st : Stp F α L (upd F p (.lst vs)) α := ⟨hF, fun _ _ => rfl⟩
  cases o with
  | fl ds => obtain ⟨us, e1, r1⟩ := h; exact ⟨us, e1, r1.mono hF⟩
  | cl cs => obtain ⟨us, e1, r1⟩ := h; exact ⟨us, e1, r1.step st fun _ z => z⟩
  | ins c fs =>
    obtain ⟨C, dx, us, m1, e1, e2, e3, e4, r1⟩ := h
    exact ⟨C, dx, us, m1, e1, e2, by rw [upd_ne (fun q => by rw [q, e] at e2; cases e2)]; exact e3, e4, r1.step st fun _ z => z⟩
  | dT kvs => obtain ⟨us, e1, r1⟩ := h; exact ⟨us, e1, Paired.imp (fun _ _ z => ⟨z.1, z.2.mono hF⟩) r1⟩
  | dK kvs => obtain ⟨us, e1, r1⟩ := h; exact ⟨us, e1, r1.step st fun _ z => z⟩
end
end Nz
namespace Nz
open PySem PySem.Spec PyProof.Rows L2
def Cb (X : Cx) (f : Value) (ds : List D) (d : D) : Prop :=
  ∀ B F α H σ (S : Nz.S) (Q : VK) xs, RelX X B F α H σ S → Reps X.K X.mg F ds xs → (∀ F' α' v H', RelX X B F' α' H' σ S → Stp F α S.L F' α' → Rep X.K X.mg F' d v → Q v H') →
    ∀ pins s us, Inv X pins σ H s → Vals xs us → wpAny (model X.prog X.w) X.A (call f us) (EP X pins σ Q) X.xe s
theorem Cb.of {X : Cx} {f : Value} {ds : List D} {d : D} {r : List V → Hp → VK → Prop} (h : CallR X f r)
    (hr : ∀ B F α H σ (S : Nz.S) (Q : VK) xs, RelX X B F α H σ S → Reps X.K X.mg F ds xs → (∀ F' α' v H', RelX X B F' α' H' σ S → Stp F α S.L F' α' → Rep X.K X.mg F' d v → Q v H') → r xs H Q) : Cb X f ds d :=
  fun B F α H σ S Q xs R rx k pins s us I rv => h pins s σ H xs us Q I rv (hr B F α H σ S Q xs R rx k)
section
variable {X : Cx} {B : Bd} {S S1 : Nz.S} {a e : Expr} {es : List Expr} {pos p : Pos} {x : Str} {ds : List D} {d : D} {id T : String}
theorem ev_callB (hc : Cb X (.builtin id) ds d) (ha : Ea X B (e :: es) S (ds.map Ce.fr) S1) (hg : Gl X x) (hm : X.mg x = none) (hv : bootBuiltins x = some (.builtin id)) (h1 : Sub S.L S1.L := by exact Sub.refl) (hn : x ≠ "__name__" := by decide) (hdb : (x == ("__debug__" : Str)) = false := by decide)
    (he : starEach (e :: es) X.env = (false, eval e X.env) :: starEach es X.env := by rfl) (hpl : (backTo pos (starEach es X.env)).any (·.1) = false := by rfl) : Ev X B (.Call (.Name x p) (e :: es) [] pos) S (.fr d) S1 :=
  fun F α H σ Q R k pins s I => wpAny_Call_Name_kw (ld_blt I hg hm hv (PyProof.Rows.callWith_builtin1 (thn (ha F α H σ (fun vs H1 => ∃ F1 α1, RelX X B F1 α1 H1 σ S1 ∧ Stp F α S.L F1 α1 ∧ Reps X.K X.mg F1 ds vs) R
    (fun F1 α1 vs H1 R1 st1 r1 => ⟨F1, α1, R1, st1, r1.fr⟩) pos pins s I) fun us s1 ⟨vs, H1, I1, rv, F1, α1, R1, st1, r1⟩ =>
      hc B F1 α1 H1 σ S1 Q vs R1 r1 (fun F' α' v H' R' st' r' => k F' α' v H' R' (st1.trans st' h1) r') pins s1 us I1 rv) he hpl) hn hdb)
theorem ev_callTy (hc : Cb X (.type T) ds d) (ha : Ea X B (e :: es) S (ds.map Ce.fr) S1) (hg : Gl X x) (hm : X.mg x = none) (hv : bootBuiltins x = some (.type T)) (h1 : Sub S.L S1.L := by exact Sub.refl) (hn : x ≠ "__name__" := by decide) (hdb : (x == ("__debug__" : Str)) = false := by decide)
    (he : starEach (e :: es) X.env = (false, eval e X.env) :: starEach es X.env := by rfl) (hpl : (backTo pos (starEach es X.env)).any (·.1) = false := by rfl) : Ev X B (.Call (.Name x p) (e :: es) [] pos) S (.fr d) S1 :=
  fun F α H σ Q R k pins s I => wpAny_Call_Name_kw (ld_blt I hg hm hv (PyProof.Rows.callWith_type1 (thn (ha F α H σ (fun vs H1 => ∃ F1 α1, RelX X B F1 α1 H1 σ S1 ∧ Stp F α S.L F1 α1 ∧ Reps X.K X.mg F1 ds vs) R
    (fun F1 α1 vs H1 R1 st1 r1 => ⟨F1, α1, R1, st1, r1.fr⟩) pos pins s I) fun us s1 ⟨vs, H1, I1, rv, F1, α1, R1, st1, r1⟩ =>
      hc B F1 α1 H1 σ S1 Q vs R1 r1 (fun F' α' v H' R' st' r' => k F' α' v H' R' (st1.trans st' h1) r') pins s1 us I1 rv) he hpl) hn hdb)
theorem c_abs {i : Int} : Cb X (.builtin "abs") [.int i] (.int (if i < 0 then -i else i)) := .of call_abs fun B F α H σ S Q xs R rx k => by
  cases rx with | cons r rr => cases rr; cases r; exact ⟨i, rfl, k F α _ H R Stp.refl (.int _)⟩
theorem c_max2 {i j : Int} (hc : X.calm = true) : Cb X (.builtin "max") [.int i, .int j] (.int (if j > i then j else i)) := .of (call_max2 hc) fun B F α H σ S Q xs R rx k => by
  cases rx with | cons r rr => cases rr with | cons r2 rr => cases rr; cases r; cases r2; exact ⟨i, j, rfl, k F α _ H R Stp.refl (.int _)⟩
theorem c_str {i : Int} (h : i.natAbs.log2 < 1920) : Cb X (.type "str") [.int i] (.str (toString i)) := .of call_str_int fun B F α H σ S Q xs R rx k => by
  cases rx with | cons r rr => cases rr; cases r; exact ⟨i, rfl, h, k F α _ H R Stp.refl (.str _)⟩
theorem c_lenT {xs : List D} : Cb X (.builtin "len") [.tup xs] (.int xs.length) := .of call_len_seq fun B F α H σ S Q vs R rx k => by
  cases rx with
  | cons r rr =>
    cases rr
    obtain ⟨a, us, rfl, hq, rs⟩ := R.asT r
    exact ⟨a, us, rfl, .inr hq, by rw [← rs.length]; exact k F α _ H R Stp.refl (.int _)⟩
theorem c_lenS {z : Str} (h : z.length ≤ sizeLine) : Cb X (.builtin "len") [.str z] (.int z.length) := .of call_len_str fun B F α H σ S Q vs R rx k => by
  cases rx with | cons r rr => cases rr; cases r; exact ⟨z, rfl, h, k F α _ H R Stp.refl (.int _)⟩
/-- len of what lives -/
theorem ev_lenL {ca : Ce} (ha : Ev X B e S ca S1) (hl : AsL S1.L ca ds) (hg : Gl X "len") (hm : X.mg "len" = none) (hs : starEach [e] X.env = (false, eval e X.env) :: starEach [] X.env := by rfl) (hpl : (backTo pos (starEach [] X.env)).any (·.1) = false := by rfl) : Ev X B (.Call (.Name "len" p) [e] [] pos) S (.fr (.int ds.length)) S1 :=
  fun F α H σ Q R k => wE.of (pe_callB call_len_seq hg hm PySem.boot_len (pa_cons pe_w pa_nil hs) (by decide) (by decide) hs hpl) (ha F α H σ _ R fun F1 α1 v1 H1 R1 st1 r1 => by
    obtain ⟨a, us, rfl, hq, rs⟩ := R1.asL hl r1
    exact ⟨a, us, rfl, .inl hq, by rw [← rs.length]; exact k F1 α1 _ H1 R1 st1 (.int _)⟩)
def tyOf : D → Option String
  | .non => some "NoneType" | .bl _ => some "bool" | .int _ => some "int" | .str _ => some "str" | .tup _ => some "tuple" | .lst _ => some "list" | .obj _ _ => none
end
end Nz
namespace Nz
open PySem PySem.Spec PyProof.Rows L2
section
variable {X : Cx} {B : Bd} {S S1 : Nz.S} {a e : Expr} {es : List Expr} {pos p q : Pos} {x : Str} {ds : List D} {d : D}
theorem tyX_lst {K : Frag} {H : Hp} {a : Addr} {vs : List V} (h : SqL K H a vs) : TyX K H (.ref a) (.type "list") := by
  rcases h with (h | ⟨o, h⟩) | ⟨o, its, n, h1, h2, _⟩
  · exact .base (.lst h)
  · exact .base (.frz h)
  · exact .kList h1 h2
theorem tyX_tup {K : Frag} {H : Hp} {a : Addr} {vs : List V} (h : SqT K H a vs) : TyX K H (.ref a) (.type "tuple") := by
  rcases h with (h | ⟨o, h⟩) | ⟨o, its, n, h1, h2, _⟩
  · exact .base (.tup h)
  · exact .fTuple h
  · exact .kTuple h1 h2
theorem Rel.tyX {F : Hp} {α : Nat → Addr} {H : Hp} {σ : L2.St} (R : RelX X B F α H σ S) {v : V} {t : String} (r : Rep X.K X.mg F d v) (h : tyOf d = some t) : TyX X.K H v (.type t) := by
  cases r with
  | non => cases h; exact .base .non
  | bl b => cases h; exact .base (.bl b)
  | int i => cases h; exact .base (.int i)
  | str z => cases h; exact .base (.str z)
  | tup h1 h2 => cases h; exact tyX_tup (R.sub.seqT h1)
  | lst h1 h2 => cases h; exact tyX_lst (R.sub.seq h1)
  | obj m h1 h2 h3 => cases h
/-- isinstance(a, T), T a built-in class -/
theorem ev_isi {T t : String} {b : Bool} {xT : Str} {p2 : Pos} (ha : Ev X B a S (.fr d) S1) (ht : tyOf d = some t) (hk : kitB t T = some b) (hg : Gl X "isinstance") (hm : X.mg "isinstance" = none) (hgT : Gl X xT) (hmT : X.mg xT = none) (hv : bootBuiltins xT = some (.type T))
    (hv2 : bootBuiltins "isinstance" = some (.builtin "isinstance") := by decide +kernel)
    (hn : xT ≠ "__name__" := by decide) (hd : (xT == ("__debug__" : Str)) = false := by decide)
    (he : starEach (a :: [.Name xT p2]) X.env = (false, eval a X.env) :: starEach [.Name xT p2] X.env := by rfl) (he2 : starEach (.Name xT p2 :: []) X.env = (false, eval (.Name xT p2) X.env) :: starEach [] X.env := by rfl) (hpl : (backTo pos (starEach [.Name xT p2] X.env)).any (·.1) = false := by rfl) :
    Ev X B (.Call (.Name "isinstance" p) [a, .Name xT p2] [] pos) S (.fr (.bl b)) S1 :=
  fun F α H σ Q R k => wE.of (pe_callB call_isi hg hm hv2 (pa_cons pe_w (pa_cons (pe_bltn (v := .ty T) hgT hmT hv rfl hn hd) pa_nil he2) he) (by decide) (by decide) he hpl) (ha F α H σ _ R fun F1 α1 v1 H1 R1 st1 r1 => by
    exact ⟨v1, .ty T, .type t, .type T, b, rfl, .ty T, R1.tyX r1 ht, kit_ty hk, k F1 α1 _ H1 R1 st1 (.bl _)⟩)
theorem ev_append {n : Nat} {o : Expr} {apos : Pos} (ho : Ev X B o S (.ad n) S) {ds0 : List D} (ha : Ev X B e S (.fr d) S1) (hn : getL n S1.L = some (.fl ds)) (hn0 : getL n S.L = some (.fl ds0)) (hz : ds.length < sizeLine) (h1 : Sub S.L S1.L := by exact Sub.refl)
    (hbase : attributeBase o "append" X.env (eval o X.env) = eval o X.env := by rfl)
    (hfew : ((backTo pos (starEach (e :: []) X.env)).all (fun x => !x.1) && (backToKw pos (keywordEach [] X.env)).all (fun x => x.1.isSome)
      && decide ((e :: ([] : List Expr)).length + ([] : List Keyword).length + (if ([] : List Keyword).isEmpty then 0 else 1) < 30)) = true := by rfl)
    (hline : (apos.endLine == pos.line) = true := by rfl) (hs : starEach (e :: []) X.env = (false, eval e X.env) :: starEach [] X.env := by rfl) (hplain : (backTo pos (starEach [] X.env)).any (·.1) = false := by rfl) :
    Ev X B (.Call (.Attribute o "append" apos) [e] [] pos) S (.fr .non) ⟨S1.ρ, setL n (.fl (ds ++ [d])) S1.L⟩ :=
  fun F α H σ Q R k => wE.of (pe_bm PySem.F.plainAttrs_list PySem.F.slot_list_append PySem.F.type_list_append mt_append pe_w (pa_cons pe_w pa_nil hs) hbase hfew hline hs hplain) (ho F α H σ _ R fun F1 α1 v1 H1 R1 st1 r1 => by
    obtain ⟨hm, rfl⟩ := r1
    refine ⟨?_, ha F1 α1 H1 σ _ R1 fun F2 α2 v2 H2 R2 st2 r2 => ?_⟩
    · -- it is a list already
      obtain ⟨_, _, vs, e1, rs⟩ := R1.live n _ (getL_mem hn0)
      exact .inl ⟨rfl, _, SqL.of e1⟩
    · have hmm := getL_mem hn
      obtain ⟨f0, f1, vs, e1, rs⟩ := R2.live n _ hmm
      have en : α2 n = α1 n := st2.nm n hm
      refine ⟨α1 n, vs, v2, rfl, rfl, by rw [← en]; exact e1, by rw [← rs.length]; exact hz, ?_⟩
      have Rp := R2.put (n := n) (u := .fl (ds ++ [d])) (o' := .lst (vs ++ [v2])) hmm ⟨vs ++ [v2], upd_same, rs.append (.cons r2 .nil)⟩
      rw [en] at Rp
      exact k F2 α2 .non _ Rp ((st1.trans st2 Sub.refl).trans Stp.refl h1) .non)
/-- what a def promises: of the arguments' cells, the live objects handed in, and what is wanted of the value and of what lives behind -/
abbrev SpN := List Ce → List (Nat × LO) → (Ce → List (Nat × LO) → Prop) → Prop
def bdOf (F H : Hp) (fp : Addr → Prop) (α : Nat → Addr) (L : List (Nat × LO)) : Bd := ⟨F, H, fp, fun n => if n < 100 then some (α n) else none, fun n h => by rw [if_neg (by omega)]⟩
def SpOf (K : Frag) (mg : Mg) (sp : SpN) : Sp := fun vs H Q _ => ∃ F α L cs fp, Rel K mg (bdOf F H fp α L) F α H (vs.map some) ⟨cs.map some, L⟩ ∧
  sp cs L fun c L' => ∀ F' α' v H' ρ' σ', Rel K mg (bdOf F H fp α L) F' α' H' σ' ⟨ρ', L'⟩ → CRel K mg F' α' L' c v → Q v H'
def retK (Kc : Ce → List (Nat × LO) → Prop) : Out → Prop
  | .ret c S => Kc c S.L
  | .nx S => Kc (.fr .non) S.L
  | _ => False
def startC (N : List Str) (cs : List Ce) : List (Option Ce) := cs.map some ++ List.replicate (N.length - cs.length) none
theorem slr_rep {K : Frag} {mg : Mg} {F : Hp} {α : Nat → Addr} {L : List (Nat × LO)} : ∀ n, SlR K mg F α L (List.replicate n none) (List.replicate n none)
  | 0 => .nil
  | n + 1 => .no (slr_rep n)
theorem SlR.append {K : Frag} {mg : Mg} {F : Hp} {α : Nat → Addr} {L : List (Nat × LO)} : ∀ {c c' : List (Option Ce)} {σ σ' : L2.St}, SlR K mg F α L c σ → SlR K mg F α L c' σ' → SlR K mg F α L (c ++ c') (σ ++ σ')
  | _, _, _, _, .nil, h => h
  | _, _, _, _, .no r, h => .no (r.append h)
  | _, _, _, _, .so q r, h => .so q (r.append h)
theorem SlR.length {K : Frag} {mg : Mg} {F : Hp} {α : Nat → Addr} {L : List (Nat × LO)} : ∀ {c : List (Option Ce)} {σ : L2.St}, SlR K mg F α L c σ → c.length = σ.length
  | _, _, .nil => rfl
  | _, _, .no r => congrArg (· + 1) r.length
  | _, _, .so _ r => congrArg (· + 1) r.length
theorem _root_.L2.Fun.okN {P : Program} {w : World} {K : Frag} {mg : Mg} {base : Heap} {x qual : Str} {st : Stmt} {f : Addr} {fd : FuncData} {N ps : List Str} {k : Nat} {sp : SpN} (F : Fun K x qual st f fd) (S : FnScope N ps (defScope st)) (len : ∀ cs L Kc, sp cs L Kc → cs.length = ps.length)
    (hbody : ∀ (cdv : Value) (A : Around) (outer : List Env) (s : Shared) (H : Hp) (E : XK) (B : Bd) (cs : List Ce) (L : List (Nat × LO)) (Kc : Ce → List (Nat × LO) → Prop), Room k (A.deeper (envOfC qual (defScope st) s.heap.objs.size f cdv)) → sp cs L Kc →
      Exs (cxOf CX0 P w K mg base N qual (defScope st) f cdv A outer s H E).nox B (defBody st) ⟨startC N cs, L⟩ (retK Kc)) : FnOk P w K mg base CX0 (k + 1) f fd ps (SpOf K mg sp) := by
  refine F.ok S (fun vs H Q E h => ?_) (fun cdv A outer s H vs Q E hr h => ?_)
  · obtain ⟨F', α, L, cs, fp, R, h⟩ := h
    have e1 := R.slots.length
    have e2 := len _ _ _ h
    simp only [List.length_map] at e1
    omega
  · obtain ⟨F', α, L, cs, fp, R, h⟩ := h
    have e1 : cs.length = vs.length := by have := R.slots.length; simpa using this
    refine ⟨_, pss_w, hbody cdv A outer s H E (bdOf F' H fp α L) cs L _ hr h F' α H _ _ (?_ : Rel _ _ _ _ _ _ _ _) ?_⟩
    · refine ⟨R.sub, R.bF, R.nF, R.frame, R.nd, R.inj, R.live, ?_, R.fix⟩
      show SlR _ _ _ _ _ (cs.map some ++ List.replicate (N.length - cs.length) none) (vs.map some ++ List.replicate (N.length - vs.length) none)
      rw [e1]
      exact R.slots.append (slr_rep _)
    · refine ⟨fun S' F1 α1 H1 σ1 k1 R1 s1 => k1 F1 α1 .non H1 S'.ρ σ1 R1 .non, fun S' F1 α1 H1 σ1 k1 R1 s1 => k1.elim, fun S' F1 α1 H1 σ1 k1 R1 s1 => k1.elim, fun c S' F1 α1 H1 σ1 v k1 R1 s1 r1 => k1 F1 α1 v H1 S'.ρ σ1 R1 r1⟩
theorem paired_slots {K : Frag} {mg : Mg} {F : Hp} {α : Nat → Addr} : ∀ {ds : List D} {vs : List V}, Reps K mg F ds vs → SlR K mg F α [] ((ds.map Ce.fr).map some) (vs.map some)
  | _, _, .nil => .nil
  | _, _, .cons h r => .so h (paired_slots r)
theorem Rel.call0 {K : Frag} {mg : Mg} {B : Bd} {F : Hp} {α : Nat → Addr} {H : Hp} {σ : L2.St} {S : Nz.S} {vs : List V} (R : Rel K mg B F α H σ S) (r : Reps K mg F ds vs) : Rel K mg (bdOf F H (fun _ => False) α []) F α H (vs.map some) ⟨(ds.map Ce.fr).map some, []⟩ :=
  ⟨R.sub, Same.refl _, fun b o e => .inl e, fun b o e _ => e, List.nodup_nil, fun n m h => absurd h (by simp [names]), fun n o h => absurd h (by simp), paired_slots r, fun n a h hn => absurd hn (by simp [names])⟩
/-- behind a call that was handed nothing that lives -/
theorem Rel.back0 {K : Frag} {mg : Mg} {B : Bd} {F F' : Hp} {α α' : Nat → Addr} {H H' : Hp} {σ σ' : L2.St} {S S' : Nz.S} (R : Rel K mg B F α H σ S) (R' : Rel K mg (bdOf F H (fun _ => False) α []) F' α' H' σ' S') : Rel K mg B F' α H' σ S :=
  R.grow R'.bF (fun b o e => R'.frame b o e fun z => z) R'.sub fun b u e => by
    rcases R'.nF b u e with z | z | z
    · exact .inl z
    · exact .inr z
    · exact z.elim
variable {CX : CXT} {f C : Addr} {fd : FuncData} {ps : List Str} {k : Nat} {sp : SpN} {dvs : List D}
/-- a value as the text has it, for a default -/
theorem ev_call {ds' : List D} {dvs : List V} {dfs : List Value} (F : FnOk X.prog X.w X.K X.mg X.base CX0 k f fd ps (SpOf X.K X.mg sp)) (hr : Room k X.A) (hm : X.mg x = some (.ref f)) (hk : PySem.W.keepIn X.K (.ref f) = true) (hb : Binds X.K fd ps dfs) (hd : Vals dvs dfs)
    (hdv : ∀ F', Reps X.K X.mg F' ds' dvs) (ha : Ea X B (e :: es) S (ds.map Ce.fr) S1) (hs : ∀ Kc : Ce → List (Nat × LO) → Prop, (∀ L', Kc (.fr d) L') → sp ((ds ++ ds').map Ce.fr) [] Kc) (hg : Gl X x) (h1 : Sub S.L S1.L := by exact Sub.refl) (hdb : (x == ("__debug__" : Str)) = false := by decide)
    (he : starEach (e :: es) X.env = (false, eval e X.env) :: starEach es X.env := by rfl) (hpl : (backTo pos (starEach es X.env)).any (·.1) = false := by rfl) : Ev X B (.Call (.Name x p) (e :: es) [] pos) S (.fr d) S1 :=
  fun F0 α H σ Q R k => wE.of (pe_call F hr hg hm hk hb hd pass0 pa_w hdb he hpl) (ha F0 α H σ _ R fun F1 α1 vs H1 R1 st1 r1 => by
    have r := Reps.append r1.fr (hdv F1)
    exact ⟨F1, α1, [], _, fun _ => False, R1.call0 r, hs _ fun L' F' α' v H' ρ' σ' R' r' => k F' α1 v H' (R1.back0 R') (st1.trans ⟨R'.bF, fun _ _ => rfl⟩ h1) r'⟩)
/-- c' forgets some of c -/
def Fg : List (Option Ce) → List (Option Ce) → Prop
  | [], [] => True
  | a :: as, b :: bs => (b = none ∨ b = a) ∧ Fg as bs
  | _, _ => False
theorem SlR.fg {K : Frag} {mg : Mg} {F : Hp} {α : Nat → Addr} {L : List (Nat × LO)} : ∀ {c c' : List (Option Ce)} {σ : L2.St}, Fg c c' → SlR K mg F α L c σ → SlR K mg F α L c' σ
  | _, [], _, h, .nil => .nil
  | _, b :: bs, _, h, .no r => by
    obtain ⟨h1 | h1, h2⟩ := h
    · subst h1; exact .no (SlR.fg h2 r)
    · subst h1; exact .no (SlR.fg h2 r)
  | _, b :: bs, _, h, .so q r => by
    obtain ⟨h1 | h1, h2⟩ := h
    · subst h1; exact .no (SlR.fg h2 r)
    · subst h1; exact .so q (SlR.fg h2 r)
  | _, [], _, h, .no r => False.elim h
  | _, [], _, h, .so q r => False.elim h
  | _, _ :: _, _, h, .nil => False.elim h
theorem exs_freeze {sts : List Stmt} {K : Out → Prop} (n : Nat) (hn : getL n S.L = some (.fl ds)) (h : Exs X B sts (frS n (.lst ds) S) K) : Exs X B sts S K := fun F α H σ D R o => by
  obtain ⟨F', R', st, _⟩ := R.freeze hn
  exact h F' α H σ D R' (o.mono st.fro)
end
end Nz
namespace Nz
open PySem PySem.Spec PyProof.Rows L2
section
variable {X : Cx} {B : Bd} {S S1 S2 S3 : Nz.S} {a b c e : Expr} {es : List Expr} {pos p q p2 : Pos} {x : Str} {ds : List D} {d d1 d2 : D}
theorem o_cat {xs ys : List D} (hz : xs.length + ys.length ≤ sizeLine) : Op2 X (binaryOp .Add) (.lst xs) (.lst ys) (.lst (xs ++ ys)) :=
  fun B F α H σ S Q x y R rx ry k pins s v u I rv ru => by
    obtain ⟨l1, vs, rfl, hq, rs⟩ := R.asL (c := .fr (.lst xs)) rfl rx
    obtain ⟨l2, us, rfl, hq2, rs2⟩ := R.asL (c := .fr (.lst ys)) rfl ry
    cases rv
    cases ru
    obtain ⟨its, r, ⟨⟨cl, od, dt, sl⟩, n, e1, c1, o1, t1⟩, z1⟩ := I.list hq
    obtain ⟨its2, r2, ⟨⟨cl2, od2, dt2, sl2⟩, n2, e2, c2, o2, t2⟩, z2⟩ := I.list hq2
    simp only at c1 o1 t1 c2 o2 t2
    subst c1 o1 t1 c2 o2 t2
    have hlen := r.length
    have hlen2 := r2.length
    have h1 := rs.length
    have h2 := rs2.length
    have ee : its.toArray ++ its2.toArray = (its ++ its2).toArray := by simp
    refine concat_meets ⟨_, e1, rfl⟩ ⟨_, e2, rfl⟩ noFill_list_add seq_list_add PySem.F.slot_list_add PySem.F.entry_list_add (PySem.F.args_list_add_2 _ _) (list_addW l1 l2 its.toArray its2.toArray n n2 none none sl sl2 (by simp only [List.size_toArray]; omega)) ⟨e1, e2, ?_⟩
    rw [ee]
    have hf := R.fresh I.fresh
    refine ⟨.ref _, _, I.lnew (t' := s.toks) (r.append r2) (by rw [List.length_append]; omega), rfl, k _ α _ _ (R.allocF I.fresh) (stp_allocF hf) (.lst (SqL.of upd_same) ((rs.append rs2).mono (same_upd hf)))⟩
def Eo (X : Cx) (B : Bd) (e : Option Expr) (S : Nz.S) (o : Option Int) : Prop :=
  ∀ F α H σ (Q : Option Int → Hp → Prop), RelX X B F α H σ S → (∀ F' α' H', RelX X B F' α' H' σ S → Stp F α S.L F' α' → Q o H') →
    ∀ pins s, Inv X pins σ H s → wpAny (model X.prog X.w) X.A (evalPart e X.env) (fun u s' => ∃ o H', Inv X pins σ H' s' ∧ IsPart u o ∧ Q o H') X.xe s
theorem eo_none : Eo X B none S none := fun F α H σ Q R k pins s I => po_none.run pins s σ H Q I (k F α H R Stp.refl)
theorem eo_some {i : Int} (h : Ev X B e S (.fr (.int i)) S) : Eo X B (some e) S (some i) := fun F α H σ Q R k pins s I => (po_some pe_w).run pins s σ H Q I (h F α H σ _ R fun F' α' v H' R' st r => by cases r; exact ⟨i, rfl, k F' α' H' R' st⟩)
def tO (X : Cx) (e : Option Expr) : TO := fun σ H Q => ∀ pins s, Inv X pins σ H s → wpAny (model X.prog X.w) X.A (evalPart e X.env) (fun u s' => ∃ o H', Inv X pins σ H' s' ∧ IsPart u o ∧ Q o H') X.xe s
theorem po_w {e : Option Expr} : PO X e (tO X e) := ⟨fun pins s σ H Q I h => h pins s I⟩
def slcD {τ : Type} (xs : List τ) (lo hi : Option Int) : List τ := (xs.drop (HT.sIx xs.length 0 lo)).take (HT.sIx xs.length xs.length hi - HT.sIx xs.length 0 lo)
theorem slcD_map {τ μ : Type} (f : τ → μ) (xs : List τ) (lo hi : Option Int) : slcD (xs.map f) lo hi = (slcD xs lo hi).map f := by
  unfold slcD
  rw [List.length_map, List.map_take, List.map_drop]
theorem ev_sliceL {ca : Ce} {lo hi : Option Expr} {ol oh : Option Int} (ha : Ev X B a S ca S1) (h1 : Eo X B lo S1 ol) (h2 : Eo X B hi S1 oh) (hl : AsL S1.L ca ds) (hS : Sub S.L S1.L := by exact Sub.refl) : Ev X B (.Subscript a (.Slice lo hi none p2) pos) S (.fr (.lst (slcD ds ol oh))) S1 :=
  fun F α H σ Q R k => wE.of (pe_slice sl_list pe_w po_w po_w) (ha F α H σ _ R fun F1 α1 v1 H1 R1 st1 r1 => h1 F1 α1 H1 σ _ R1 fun F2 α2 H2 R2 st2 => h2 F2 α2 H2 σ _ R2 fun F3 α3 H3 R3 st3 => by
    obtain ⟨pa, vs, rfl, hq, rs⟩ := R3.asL hl (r1.step (st2.trans st3 Sub.refl) Sub.refl)
    refine ⟨pa, vs, rfl, hq, fun l hl' => k _ α3 _ _ (R3.allocF hl') ⟨((st1.trans st2 hS).trans st3 hS).fro.trans (same_upd (R3.fresh hl')), ((st1.trans st2 hS).trans st3 hS).nm⟩ (.lst (SqL.of upd_same) (Reps.mono (same_upd (R3.fresh hl')) ?_))⟩
    unfold slcD cutV
    rw [rs.length]
    exact (rs.drop _).take _)
end
theorem at_map {τ : Type} [Inhabited τ] {enc : τ → D} {xs : List τ} {i : Int} (h0 : 0 ≤ i) (h1 : i < xs.length) : atI (xs.map enc) i = some (enc (xs.getD i.toNat default)) := by
  unfold atI ixN
  rw [if_pos h0, if_pos (by rw [List.length_map]; exact h1)]
  show (xs.map enc)[i.toNat]? = _
  rw [List.getElem?_map]
  have h2 : i.toNat < xs.length := by omega
  rw [List.getElem?_eq_getElem h2, List.getD_eq_getElem?_getD, List.getElem?_eq_getElem h2]
  rfl
end Nz
namespace Nz
open PySem PySem.Spec PyProof.Rows L2
end Nz
namespace Nz
open PySem PySem.Spec PyProof.Rows L2
def Le (S S' : Nz.S) : Prop := Fg S.ρ S'.ρ ∧ S'.L = S.L
theorem fg_refl : ∀ ρ : List (Option Ce), Fg ρ ρ
  | [] => trivial
  | _ :: r => ⟨.inr rfl, fg_refl r⟩
theorem Le.refl {S : Nz.S} : Le S S := ⟨fg_refl _, rfl⟩
theorem Le.of {S S' : Nz.S} (h : S = S') : Le S S' := h ▸ Le.refl
theorem Rel.le {K : Frag} {mg : Mg} {B : Bd} {F : Hp} {α : Nat → Addr} {H : Hp} {σ : L2.St} {S S' : Nz.S} (R : Rel K mg B F α H σ S) (h : Le S S') : Rel K mg B F α H σ S' := by
  obtain ⟨ρ', L'⟩ := S'
  obtain ⟨h1, h2⟩ := h
  have h2 : L' = S.L := h2
  subst h2
  exact ⟨R.sub, R.bF, R.nF, R.frame, R.nd, R.inj, R.live, R.slots.fg h1, R.fix⟩
def loopS (st : Nat → Nz.S) (P : Nat → Prop) (K : Out → Prop) (i : Nat) : Out → Prop
  | .nx S => Le S (st (i + 1)) ∧ P (i + 1)
  | .ct S => Le S (st (i + 1)) ∧ P (i + 1)
  | .bk S => K (.nx S)
  | .ret c S => K (.ret c S)
section
variable {X : Cx} {B : Bd} {S S1 S2 S3 : Nz.S} {tg a b c e : Expr} {es : List Expr} {pos p q p2 : Pos} {K : Out → Prop} {body : List Stmt}
theorem ex_forT {τ : Type} {ys : List τ} {enc : τ → D} (hp : PassesOwn (model X.prog X.w) X.A X.env X.xe) (hc : X.calm = true) (st : Nat → Nz.S) (P : Nat → Prop) (hsrc : Src X B tg e S (ys.map enc) S1) (h0 : Le S1 (st 0)) (p0 : P 0)
    (hs : ∀ i y, ys[i]? = some y → P i → ∃ S2, Eg X B tg (.fr (enc y)) (st i) S2 ∧ Exs X B body S2 (loopS st P K i)) (hd : P ys.length → K (.nx (st ys.length))) (hf : ∀ x, foldedSetIterable e X.env x = pure x := by intro _; rfl) : Ex X B (.For tg e body [] pos) S K :=
  fun F α H σ D R o => wS.of (ps_for hp hc pi_w pg_w pss_w hf) (hsrc F α H σ _ R fun F1 α1 H1 J R1 st1 j => by
    have o1 := o.mono st1.fro
    refine ⟨fun i m σ' H' => m = ys.length - i ∧ i ≤ ys.length ∧ ∃ F' α', RelX X B F' α' H' σ' (st i) ∧ Same F1 F' ∧ P i, ⟨ys.length, by simp, Nat.zero_le _, F1, α1, R1.le h0, Same.refl _, p0⟩, ?_⟩
    rintro i m σ' H' ⟨rfl, hi, F', α', R', sm, q⟩
    by_cases hlt : i < ys.length
    · have e1 : ys[i]? = some ys[i] := by simp [hlt]
      obtain ⟨g, y⟩ := j.go B F' α' H' σ' (st i) i (enc ys[i]) R' sm (by rw [List.getElem?_map, e1]; rfl)
      obtain ⟨S2, hg, hb⟩ := hs i _ e1 q
      refine .inr ⟨g, fun σ2 H2 => ∃ F2 α2, RelX X B F2 α2 H2 σ2 (st (i + 1)) ∧ Same F1 F2 ∧ P (i + 1), fun σ2 H2 ⟨F2, α2, R2, s2, q2⟩ => ⟨ys.length - (i + 1), by omega, rfl, hlt, F2, α2, R2, s2, q2⟩, fun x H2 yy => ?_⟩
      obtain ⟨F2, R2, s2, r2⟩ := y x H2 yy
      refine hg F2 α' H2 σ' x _ R2 r2 fun σ3 F3 H3 R3 s3 => hb F3 α' H3 σ3 _ R3 ?_
      have sall : Same F1 F3 := sm.trans (s2.trans s3)
      refine ⟨fun S4 F4 α4 H4 σ4 k4 R4 s4 => ⟨F4, α4, R4.le k4.1, sall.trans s4, k4.2⟩, fun S4 F4 α4 H4 σ4 k4 R4 s4 => o1.nx S4 F4 α4 H4 σ4 k4 R4 (sall.trans s4), fun S4 F4 α4 H4 σ4 k4 R4 s4 => ⟨F4, α4, R4.le k4.1, sall.trans s4, k4.2⟩,
        fun c S4 F4 α4 H4 σ4 v k4 R4 s4 r4 => o1.ret c S4 F4 α4 H4 σ4 v k4 R4 (sall.trans s4) r4⟩
    · have e1 : i = ys.length := by omega
      subst e1
      exact .inl ⟨j.stop B F' α' H' σ' _ _ R' sm (by rw [List.length_map]; exact Nat.le_refl _), o1.nx _ F' α' H' σ' (hd q) R' sm⟩)
inductive Ix (L : List (Nat × LO)) : Ce → Int → D → Prop
  | l {c : Ce} {ds : List D} {i : Int} {d : D} (h : AsL L c ds) (h2 : atI ds i = some d) : Ix L c i d
  | t {ds : List D} {i : Int} {d : D} (h2 : atI ds i = some d) : Ix L (.fr (.tup ds)) i d
theorem ev_ix {ca : Ce} {i : Int} {d : D} (hx : Ix S2.L ca i d) (ha : Ev X B a S ca S1) (hb : Ev X B b S1 (.fr (.int i)) S2) (hs : PlainIx b := by exact fun _ _ => rfl) (h1 : Sub S.L S1.L := by exact Sub.refl) (h2 : Sub S1.L S2.L := by exact Sub.refl) :
    Ev X B (.Subscript a b pos) S (.fr d) S2 := by
  cases hx with
  | l h h2' => exact ev_ixL ha hb h h2' hs h1 h2
  | t h2' => exact ev_ixT ha hb h2' hs h1 h2
inductive Ln (L : List (Nat × LO)) : Ce → Nat → Prop
  | l {c : Ce} {ds : List D} (h : AsL L c ds) : Ln L c ds.length
  | t {ds : List D} : Ln L (.fr (.tup ds)) ds.length
  | s {z : Str} (h : z.length ≤ sizeLine) : Ln L (.fr (.str z)) z.length
theorem ev_len {ca : Ce} {n : Nat} (hx : Ln S1.L ca n) (ha : Ev X B e S ca S1) (hg : Gl X "len") (hm : X.mg "len" = none) (h1 : Sub S.L S1.L := by exact Sub.refl) (hs : starEach [e] X.env = (false, eval e X.env) :: starEach [] X.env := by rfl) (hpl : (backTo pos (starEach [] X.env)).any (·.1) = false := by rfl) :
    Ev X B (.Call (.Name "len" p) [e] [] pos) S (.fr (.int n)) S1 := by
  cases hx with
  | l h => exact ev_lenL ha h hg hm hs hpl
  | t => exact ev_callB c_lenT (ea_cons ha ea_nil h1 Sub.refl hs) hg hm PySem.boot_len h1 (by decide) (by decide) hs hpl
  | s h => exact ev_callB (c_lenS h) (ea_cons ha ea_nil h1 Sub.refl hs) hg hm PySem.boot_len h1 (by decide) (by decide) hs hpl
end
theorem seq_range {n i y : Nat} (h : (List.range n)[i]? = some y) : i < n ∧ y = i := by
  by_cases hi : i < n
  · rw [List.getElem?_range hi] at h; exact ⟨hi, (Option.some.inj h).symm⟩
  · rw [List.getElem?_eq_none (by simpa using hi)] at h; cases h
theorem take_snoc {τ : Type} {ys : List τ} {i : Nat} {y : τ} (h : ys[i]? = some y) : ys.take (i + 1) = ys.take i ++ [y] := by rw [List.take_succ, h]; rfl
theorem foldl_snoc {τ β : Type} {ys : List τ} {i : Nat} {y : τ} (f : β → τ → β) (b : β) (h : ys[i]? = some y) : (ys.take (i + 1)).foldl f b = f ((ys.take i).foldl f b) y := by rw [take_snoc h, List.foldl_append]; rfl
end Nz
namespace Nz
open PySem PySem.Spec PyProof.Rows L2
abbrev eL {τ : Type} (e : τ → D) (xs : List τ) : D := .lst (xs.map e)
abbrev eT2 {τ μ : Type} (e : τ → D) (f : μ → D) (p : τ × μ) : D := .tup [e p.1, f p.2]
section
variable {X : Cx} {B : Bd} {S S1 S2 S3 : Nz.S} {tg a b c e : Expr} {es : List Expr} {pos p q p2 : Pos} {K : Out → Prop} {τ : Type} {enc : τ → D}
theorem o_catT {xs ys : List τ} (hz : xs.length + ys.length ≤ sizeLine) : Op2 X (binaryOp .Add) (eL enc xs) (eL enc ys) (eL enc (xs ++ ys)) := by
  have h := o_cat (X := X) (xs := xs.map enc) (ys := ys.map enc) (by simpa using hz)
  rwa [← List.map_append] at h
theorem ix_L [Inhabited τ] {L : List (Nat × LO)} {xs : List τ} {c : Ce} {i : Int} (h : AsL L c (xs.map enc)) (h0 : 0 ≤ i) (h1 : i < xs.length) : Ix L c i (enc (xs.getD i.toNat default)) := .l h (at_map h0 h1)
theorem ln_L {L : List (Nat × LO)} {xs : List τ} {c : Ce} (h : AsL L c (xs.map enc)) : Ln L c xs.length := by
  have := Ln.l h
  rwa [List.length_map] at this
theorem ev_sliceT {ca : Ce} {xs : List τ} {lo hi : Option Expr} {ol oh : Option Int} (hl : AsL S1.L ca (xs.map enc)) (ha : Ev X B a S ca S1) (h1 : Eo X B lo S1 ol) (h2 : Eo X B hi S1 oh) (hS : Sub S.L S1.L := by exact Sub.refl) : Ev X B (.Subscript a (.Slice lo hi none p2) pos) S (.fr (eL enc (slcD xs ol oh))) S1 := by
  have := ev_sliceL (pos := pos) (p2 := p2) ha h1 h2 hl hS
  rwa [slcD_map] at this
/-- [..] that lives, by its data -/
theorem ev_lstN (n : Nat) (xs : List τ) {ds : List D} (h : Ea X B es S (ds.map Ce.fr) S1) (hd : ds = xs.map enc) (hz : xs.length ≤ sizeLine) (hn : n ∉ names S1.L) (h100 : 100 ≤ n) (h1 : Sub S.L S1.L := by exact Sub.refl) : Ev X B (.List es pos) S (.ad n) ⟨S1.ρ, S1.L ++ [(n, .fl (xs.map enc))]⟩ := by
  subst hd
  exact ev_lstL n h (by rw [List.length_map]; exact hz) hn h100 h1
theorem ev_appendT {n : Nat} {o : Expr} {apos : Pos} {xs xs0 : List τ} (x : τ) {d : D} (hd : d = enc x) (hn : getL n S1.L = some (.fl (xs.map enc))) (hn0 : getL n S.L = some (.fl (xs0.map enc))) (hz : xs.length < sizeLine) (ho : Ev X B o S (.ad n) S) (ha : Ev X B e S (.fr d) S1) (h1 : Sub S.L S1.L := by exact Sub.refl)
    (hbase : attributeBase o "append" X.env (eval o X.env) = eval o X.env := by rfl)
    (hfew : ((backTo pos (starEach (e :: []) X.env)).all (fun x => !x.1) && (backToKw pos (keywordEach [] X.env)).all (fun x => x.1.isSome)
      && decide ((e :: ([] : List Expr)).length + ([] : List Keyword).length + (if ([] : List Keyword).isEmpty then 0 else 1) < 30)) = true := by rfl)
    (hline : (apos.endLine == pos.line) = true := by rfl) (hs : starEach (e :: []) X.env = (false, eval e X.env) :: starEach [] X.env := by rfl) (hplain : (backTo pos (starEach [] X.env)).any (·.1) = false := by rfl) :
    Ev X B (.Call (.Attribute o "append" apos) [e] [] pos) S (.fr .non) ⟨S1.ρ, setL n (.fl ((xs ++ [x]).map enc)) S1.L⟩ := by
  subst hd
  have := ev_append (pos := pos) (apos := apos) ho ha hn hn0 (by rw [List.length_map]; exact hz) h1 hbase hfew hline hs hplain
  rwa [show xs.map enc ++ [enc x] = (xs ++ [x]).map enc by simp] at this
theorem src_listT {xs : List τ} (h : Ev X B e S (.fr (eL enc xs)) S1) : Src X B tg e S (xs.map enc) S1 := src_list h
theorem exs_freezeT {sts : List Stmt} (n : Nat) {xs : List τ} (hn : getL n S.L = some (.fl (xs.map enc))) (h : Exs X B sts (frS n (eL enc xs) S) K) : Exs X B sts S K := exs_freeze n hn h
/-- an if that only stores: its two ends are one state -/
theorem ex_join {st : Stmt} (Sj : Nz.S) (h : Ex X B st S fun o => ∃ S', o = .nx S' ∧ Le S' Sj) (k : K (.nx Sj)) : Ex X B st S K := fun F α H σ D R o => h F α H σ D R
  ⟨fun S' F' α' H' σ' k' R' s' => (by
      obtain ⟨S2, e1, e2⟩ := k'
      cases e1
      exact o.nx Sj F' α' H' σ' k (R'.le e2) s'),
    fun S' F' α' H' σ' k' R' s' => (by obtain ⟨_, e1, _⟩ := k'; cases e1), fun S' F' α' H' σ' k' R' s' => (by obtain ⟨_, e1, _⟩ := k'; cases e1), fun c S' F' α' H' σ' v k' R' s' r => (by obtain ⟨_, e1, _⟩ := k'; cases e1)⟩
end
theorem PassesOwn.nox {P : Program} {w : World} {A : Around} {env : Env} : PassesOwn (model P w) A env (fun _ _ => False) := PassesOwn.never
end Nz
namespace Nz
open PySem PySem.Spec PyProof.Rows L2
theorem bd_d {p : Prop} [Decidable p] : decide p = true ↔ p := decide_eq_true_iff
theorem bd_or {a b : Bool} {p q : Prop} (h1 : a = true ↔ p) (h2 : b = true ↔ q) : (a || b) = true ↔ (p ∨ q) := by rw [Bool.or_eq_true, h1, h2]
theorem bd_not {a : Bool} {p : Prop} (h1 : a = true ↔ p) : (!a) = true ↔ ¬ p := by rw [← h1]; cases a <;> simp
theorem bd_n {p : Prop} [Decidable p] : (!decide p) = true ↔ ¬ p := bd_not bd_d
section
variable {X : Cx} {B : Bd} {S S1 S2 S3 : Nz.S} {tg a b c e : Expr} {es : List Expr} {pos p q p2 : Pos} {K : Out → Prop} {body els : List Stmt}
theorem ex_ifP {i : Bool} {P : Prop} (h : i = true ↔ P) (ht : Et X B e S i S1) (ha : P → Exs X B body S1 K) (hb : ¬ P → Exs X B els S1 K) : Ex X B (.If e body els pos) S K :=
  ex_if ht (fun z => ha (h.mp z)) fun z => hb fun w => by rw [h.mpr w] at z; cases z
theorem ev_ifP {t : Expr} {i : Bool} {P : Prop} [Decidable P] {τ : Type} {enc : τ → D} {x y : τ} (h : i = true ↔ P) (ht : Et X B t S i S) (ha : P → Ev X B a S (.fr (enc x)) S) (hb : ¬ P → Ev X B b S (.fr (enc y)) S) : Ev X B (.IfExp t a b pos) S (.fr (enc (if P then x else y))) S := by
  have := ev_if (pos := pos) ht (fun z => ha (h.mp z)) (fun z => hb fun w => by rw [h.mpr w] at z; cases z)
  by_cases hp : P
  · rw [if_pos (h.mpr hp)] at this; rw [if_pos hp]; exact this
  · rw [if_neg (fun z => hp (h.mp z))] at this; rw [if_neg hp]; exact this
theorem ev_andP {i j : Bool} {P : Prop} (h : i = true ↔ P) (ha : Ev X B a S (.fr (.bl i)) S) (hb : P → Ev X B (.BoolOp .And (b :: es) pos) S (.fr (.bl j)) S) : Ev X B (.BoolOp .And (a :: b :: es) pos) S (.fr (.bl (i && j))) S := ev_and ha fun z => hb (h.mp z)
theorem ew_orP {i j : Bool} {P : Prop} (h : i = true ↔ P) (ha : Et X B a S i S) (hb : ¬ P → Ew X B (.BoolOp .Or (b :: es) pos) S j) : Ew X B (.BoolOp .Or (a :: b :: es) pos) S (i || j) := ew_or ha fun z => hb fun w => by rw [h.mpr w] at z; cases z
variable {elt iter : Expr} {ifs : List Expr} {scope : Scope} {own : List (Str × Nat)} {τ μ : Type} {ys : List τ} {enc : τ → D} {enc2 : μ → D}
end
end Nz
namespace Nz
open PySem PySem.Spec PyProof.Rows L2
def loopF (Sn : Nz.S) (q : Prop) : Out → Prop
  | .nx S => Le S Sn ∧ q
  | .ct S => Le S Sn ∧ q
  | _ => False
def runE {τ σ ρ : Type} (step : σ → τ → Except ρ σ) : List τ → σ → Except ρ σ
  | [], s => .ok s
  | y :: ys, s => match step s y with
    | .error r => .error r
    | .ok s' => runE step ys s'
def loopE {σ ρ : Type} (stF : σ → Nz.S) (o : Except ρ σ) (Q : σ → Prop) (R : ρ → Ce → Nz.S → Prop) : Out → Prop
  | .nx S => ∃ s', o = .ok s' ∧ Le S (stF s') ∧ Q s'
  | .ct S => ∃ s', o = .ok s' ∧ Le S (stF s') ∧ Q s'
  | .ret c S => ∃ r, o = .error r ∧ R r c S
  | _ => False
section
variable {X : Cx} {B : Bd} {S S1 S2 S3 : Nz.S} {tg a b c e : Expr} {es : List Expr} {pos p q p2 : Pos} {K : Out → Prop} {body : List Stmt} {τ σ ρ : Type} {ys : List τ} {enc : τ → D}
theorem take_foldl {step : σ → τ → σ} {s0 : σ} {i : Nat} {y : τ} (h : ys[i]? = some y) : (ys.take (i + 1)).foldl step s0 = step ((ys.take i).foldl step s0) y := foldl_snoc step s0 h
theorem ex_forF (stF : σ → Nz.S) (step : σ → τ → σ) (s0 : σ) (Q : Nat → σ → Prop) (hsrc : Src X B tg e S (ys.map enc) S1) (h0 : Le S1 (stF s0)) (q0 : Q 0 s0)
    (hs : ∀ i y s, ys[i]? = some y → Q i s → ∃ S2, Eg X B tg (.fr (enc y)) (stF s) S2 ∧ Exs X B body S2 (loopF (stF (step s y)) (Q (i + 1) (step s y)))) (hd : Q ys.length (ys.foldl step s0) → K (.nx (stF (ys.foldl step s0))))
    (hp : PassesOwn (model X.prog X.w) X.A X.env X.xe) (hc : X.calm = true) (hf : ∀ x, foldedSetIterable e X.env x = pure x := by intro _; rfl) : Ex X B (.For tg e body [] pos) S K := by
  refine ex_forT hp hc (fun i => stF ((ys.take i).foldl step s0)) (fun i => Q i ((ys.take i).foldl step s0)) hsrc h0 q0 (fun i y hy hP => ?_) (fun hP => ?_) hf
  · obtain ⟨S2, h1, h2⟩ := hs i y _ hy hP
    refine ⟨S2, h1, h2.mono fun o ho => ?_⟩
    cases o with
    | nx S => show Le S (stF ((ys.take (i + 1)).foldl step s0)) ∧ Q (i + 1) ((ys.take (i + 1)).foldl step s0); rw [take_foldl hy]; exact ho
    | ct S => show Le S (stF ((ys.take (i + 1)).foldl step s0)) ∧ Q (i + 1) ((ys.take (i + 1)).foldl step s0); rw [take_foldl hy]; exact ho
    | bk S => exact False.elim ho
    | ret c S => exact False.elim ho
  · rw [List.take_length] at hP ⊢
    exact hd hP
theorem runE_cons {step : σ → τ → Except ρ σ} {x : τ} {xs : List τ} {s : σ} : runE step (x :: xs) s = (match step s x with | .error r => Except.error r | .ok s' => runE step xs s') := rfl
theorem runE_append {step : σ → τ → Except ρ σ} : ∀ {xs ys : List τ} {s : σ}, runE step (xs ++ ys) s = (match runE step xs s with | .error r => .error r | .ok s' => runE step ys s')
  | [], _, _ => rfl
  | x :: xs, ys, s => by
    rw [List.cons_append, runE_cons, runE_cons]
    cases step s x with
    | error r => rfl
    | ok s' => exact runE_append
theorem runE_split {step : σ → τ → Except ρ σ} {i : Nat} {y : τ} {s0 s : σ} (h : ys[i]? = some y) (hs : runE step (ys.take i) s0 = .ok s) : runE step (ys.take (i + 1)) s0 = step s y := by
  rw [take_snoc h, runE_append, hs]
  show runE step [y] s = step s y
  unfold runE
  cases step s y <;> rfl
theorem runE_err {step : σ → τ → Except ρ σ} {i : Nat} {y : τ} {s0 s : σ} {r : ρ} (h : ys[i]? = some y) (hs : runE step (ys.take i) s0 = .ok s) (hr : step s y = .error r) : runE step ys s0 = .error r := by
  have e : ys = ys.take (i + 1) ++ ys.drop (i + 1) := (List.take_append_drop _ _).symm
  rw [e, runE_append, runE_split h hs, hr]
/-- a loop that may return -/
theorem ex_forE (stF : σ → Nz.S) (step : σ → τ → Except ρ σ) (s0 : σ) (Q : Nat → σ → Prop) (R : ρ → Ce → Nz.S → Prop) (hsrc : Src X B tg e S (ys.map enc) S1) (h0 : Le S1 (stF s0)) (q0 : Q 0 s0)
    (hs : ∀ i y s, ys[i]? = some y → runE step (ys.take i) s0 = .ok s → Q i s → ∃ S2, Eg X B tg (.fr (enc y)) (stF s) S2 ∧ Exs X B body S2 (loopE stF (step s y) (Q (i + 1)) R))
    (hr : ∀ r c S', runE step ys s0 = .error r → R r c S' → K (.ret c S')) (hd : ∀ s, runE step ys s0 = .ok s → Q ys.length s → K (.nx (stF s)))
    (hp : PassesOwn (model X.prog X.w) X.A X.env X.xe) (hc : X.calm = true) (hf : ∀ x, foldedSetIterable e X.env x = pure x := by intro _; rfl) : Ex X B (.For tg e body [] pos) S K := by
  let sI : Nat → σ := fun i => match runE step (ys.take i) s0 with | .ok s => s | .error _ => s0
  refine ex_forT hp hc (fun i => stF (sI i)) (fun i => runE step (ys.take i) s0 = .ok (sI i) ∧ Q i (sI i)) hsrc h0 ⟨rfl, q0⟩ (fun i y hy hP => ?_) (fun hP => ?_) hf
  · obtain ⟨S2, h1, h2⟩ := hs i y _ hy hP.1 hP.2
    refine ⟨S2, h1, h2.mono fun o ho => ?_⟩
    have nx : ∀ s', step (sI i) y = .ok s' → sI (i + 1) = s' ∧ runE step (ys.take (i + 1)) s0 = .ok s' := fun s' e => by
      have := runE_split hy hP.1
      rw [e] at this
      refine ⟨?_, this⟩
      show (match runE step (ys.take (i + 1)) s0 with | .ok s => s | .error _ => s0) = s'
      rw [this]
    cases o with
    | nx S =>
      obtain ⟨s', e, l, q⟩ := ho
      obtain ⟨e1, e2⟩ := nx s' e
      show Le S (stF (sI (i + 1))) ∧ runE step (ys.take (i + 1)) s0 = .ok (sI (i + 1)) ∧ Q (i + 1) (sI (i + 1))
      rw [e1]; exact ⟨l, e2, q⟩
    | ct S =>
      obtain ⟨s', e, l, q⟩ := ho
      obtain ⟨e1, e2⟩ := nx s' e
      show Le S (stF (sI (i + 1))) ∧ runE step (ys.take (i + 1)) s0 = .ok (sI (i + 1)) ∧ Q (i + 1) (sI (i + 1))
      rw [e1]; exact ⟨l, e2, q⟩
    | bk S => exact False.elim ho
    | ret c S =>
      obtain ⟨r, e, l⟩ := ho
      exact hr r c S (runE_err hy hP.1 e) l
  · obtain ⟨h1, h2⟩ := hP
    rw [List.take_length] at h1
    exact hd _ h1 h2
end
end Nz
namespace Nz
open PySem PySem.Spec PyProof.Rows L2
section
variable {X : Cx} {B : Bd} {S S1 : Nz.S} {es : List Expr} {pos : Pos} {τ : Type} {enc : τ → D}
theorem ev_lstF (xs : List τ) {ds : List D} (h : Ea X B es S (ds.map Ce.fr) S1) (hd : ds = xs.map enc) (hz : xs.length ≤ sizeLine) : Ev X B (.List es pos) S (.fr (eL enc xs)) S1 := by
  subst hd
  exact ev_lst h (by rw [List.length_map]; exact hz)
end
end Nz
namespace Nz
open PySem PySem.Spec PyProof.Rows L2
mutual
def toP : D → PyData
  | .non => .none
  | .bl b => .bool b
  | .int i => .int i
  | .str s => .str s
  | .tup xs => .tuple (toPs xs)
  | .lst xs => .list (toPs xs)
  | .obj _ _ => .none
def toPs : List D → List PyData
  | [] => []
  | x :: xs => toP x :: toPs xs
end
mutual
def dataOk : D → Bool
  | .obj _ _ => false
  | .tup xs => datasOk xs
  | .lst xs => datasOk xs
  | _ => true
def datasOk : List D → Bool
  | [] => true
  | x :: xs => dataOk x && datasOk xs
end
mutual
theorem plain_toP : ∀ d : D, (toP d).plain = true
  | .non => rfl
  | .bl b => rfl
  | .int i => rfl
  | .str s => rfl
  | .tup xs => by simp only [toP, PyData.plain]; exact plain_toPs xs
  | .lst xs => by simp only [toP, PyData.plain]; exact plain_toPs xs
  | .obj _ _ => rfl
theorem plain_toPs : ∀ ds : List D, PyData.plainAll (toPs ds) = true
  | [] => rfl
  | x :: xs => by simp only [toPs, PyData.plainAll, plain_toP x, plain_toPs xs, Bool.and_self]
end
section
variable {K : Frag} {mg : Mg} {F H : Hp}
mutual
theorem dp_of (s : Same F H) : ∀ (d : D) (v : V), Rep K mg F d v → dataOk d = true → Dp K H v (toP d)
  | .non, _, r, h => by cases r; exact .non
  | .bl b, _, r, h => by cases r; exact .bl b
  | .int i, _, r, h => by cases r; exact .int i
  | .str z, _, r, h => by cases r; exact .str z
  | .tup xs, _, r, h => by
    cases r with
    | tup h1 h2 => exact .tup (s.seqT h1) (dps_of s xs _ h2 (by simpa [dataOk] using h))
  | .lst xs, _, r, h => by
    cases r with
    | lst h1 h2 => exact .lst (s.seq h1) (dps_of s xs _ h2 (by simpa [dataOk] using h))
  | .obj _ _, _, r, h => by simp [dataOk] at h
theorem dps_of (s : Same F H) : ∀ (ds : List D) (vs : List V), Reps K mg F ds vs → datasOk ds = true → DpAll K H vs (toPs ds)
  | [], _, r, h => by cases r; exact .nil
  | x :: xs, _, r, h => by
    cases r with
    | cons h1 h2 =>
      simp only [datasOk, Bool.and_eq_true] at h
      exact .cons (dp_of s x _ h1 h.1) (dps_of s xs _ h2 h.2)
end
end
/-- an encoding that == reads as = -/
structure EqEnc {τ : Type} [DecidableEq τ] (n : Nat) (e : τ → D) : Prop where
  ok : ∀ x, dataOk (e x) = true
  eqv : ∀ x y, PyData.eqv (toP (e x)) (toP (e y)) = decide (x = y)
  dep : ∀ x, (toP (e x)).depth ≤ n
theorem ee_int : EqEnc 0 D.int := ⟨fun _ => rfl, fun x y => by simp only [toP, PyData.eqv]; rw [Bool.eq_iff_iff]; simp, fun _ => Nat.zero_le _⟩
section
variable {τ μ ν κ ι : Type} [DecidableEq τ] [DecidableEq μ] [DecidableEq ν] [DecidableEq κ] [DecidableEq ι] {a b c d f n : Nat} {e : τ → D} {e2 : μ → D} {e3 : ν → D} {e4 : κ → D} {e5 : ι → D}
theorem ees_ok (h : EqEnc n e) : ∀ xs : List τ, datasOk (xs.map e) = true
  | [] => rfl
  | x :: xs => by simp only [List.map_cons, datasOk, h.ok, ees_ok h xs, Bool.and_self]
theorem ees_eqv (h : EqEnc n e) : ∀ xs ys : List τ, PyData.eqvAll (toPs (xs.map e)) (toPs (ys.map e)) = decide (xs = ys)
  | [], [] => by simp [toPs, PyData.eqvAll]
  | [], _ :: _ => by simp [toPs, PyData.eqvAll]
  | _ :: _, [] => by simp [toPs, PyData.eqvAll]
  | x :: xs, y :: ys => by
    simp only [List.map_cons, toPs, PyData.eqvAll, h.eqv, ees_eqv h xs ys]
    rw [Bool.eq_iff_iff]; simp
theorem ees_dep (h : EqEnc n e) : ∀ xs : List τ, PyData.depthAll (toPs (xs.map e)) ≤ n
  | [] => by simp [toPs, PyData.depthAll]
  | x :: xs => by
    simp only [List.map_cons, toPs, PyData.depthAll]
    have h1 := h.dep x
    have h2 := ees_dep h xs
    omega
theorem ee_L (h : EqEnc n e) : EqEnc (n + 1) (eL e) := ⟨fun xs => by simp only [dataOk]; exact ees_ok h xs, fun xs ys => by simp only [toP, PyData.eqv]; exact ees_eqv h xs ys, fun xs => by simp only [toP, PyData.depth]; have := ees_dep h xs; omega⟩
theorem ee_T2 (h1 : EqEnc a e) (h2 : EqEnc b e2) : EqEnc (a + b + 1) (eT2 e e2) := ⟨fun x => by simp [dataOk, datasOk, h1.ok, h2.ok], fun x y => by
    simp only [toP, toPs, PyData.eqv, PyData.eqvAll, h1.eqv, h2.eqv]
    rw [Bool.eq_iff_iff]; simp [Prod.ext_iff], fun x => by simp only [toP, toPs, PyData.depth, PyData.depthAll]; have := h1.dep x.1; have := h2.dep x.2; omega⟩
variable {X : Cx}
theorem o_neD (hu : X.A.units + 64 < cLine) (h : EqEnc n e) {x y : τ} (hn : n ≤ 60 := by decide) : Op2 X (compareOp .NotEq) (e x) (e y) (.bl (!decide (x = y))) :=
  fun B F α H σ S Q v1 v2 R r1 r2 k pins s u1 u2 I q1 q2 => by
    obtain ⟨as, ra⟩ := Dp.reads I _ _ _ (dp_of R.sub _ _ r1 (h.ok x)) q1
    obtain ⟨bs, rb⟩ := Dp.reads I _ _ _ (dp_of R.sub _ _ r2 (h.ok y)) q2
    refine PySem.SeqAt.ne_plain ra rb (plain_toP _) (plain_toP _) ?_ ?_
    · have := h.dep x; have := Nat.min_le_left (toP (e x)).depth (toP (e y)).depth; omega
    · rw [h.eqv]; exact ⟨.bl _, H, I, rfl, k F α _ H R Stp.refl (.bl _)⟩
end
def iterW {σ : Type} (c : σ → Bool) (f : σ → σ) : Nat → σ → σ
  | 0, s => s
  | n + 1, s => if c s = true then iterW c f n (f s) else s
theorem iterW_stop {σ : Type} {c : σ → Bool} {f : σ → σ} {s : σ} (h : c s = false) : ∀ n, iterW c f n s = s
  | 0 => rfl
  | n + 1 => by unfold iterW; rw [h, if_neg Bool.false_ne_true]
section
variable {X : Cx} {B : Bd} {S : Nz.S} {e : Expr} {pos : Pos} {K : Out → Prop} {body : List Stmt} {σ : Type}
theorem ex_whileF (stF : σ → Nz.S) (c : σ → Bool) (f : σ → σ) (s0 : σ) (n : Nat) (Q : σ → Prop) (μ : σ → Nat) (h0 : Le S (stF s0)) (q0 : Q s0) (hn : μ s0 ≤ n) (hm : ∀ s, Q s → c s = true → Q (f s) ∧ μ (f s) < μ s)
    (ht : ∀ s, Q s → Et X B e (stF s) (c s) (stF s)) (hs : ∀ s, Q s → c s = true → Exs X B body (stF s) (loopF (stF (f s)) True))
    (hd : Q (iterW c f n s0) → c (iterW c f n s0) = false → K (.nx (stF (iterW c f n s0)))) (hp : PassesOwn (model X.prog X.w) X.A X.env X.xe) : Ex X B (.While e body [] pos) S K :=
  fun F α H τ D R o => wS.of (ps_while hp pt_w pss_w) (by
    refine ⟨fun m σ' H' => ∃ s k F' α', m = μ s ∧ Q s ∧ μ s ≤ k ∧ iterW c f k s = iterW c f n s0 ∧ RelX X B F' α' H' σ' (stF s) ∧ Same F F', ⟨μ s0, s0, n, F, α, rfl, q0, hn, rfl, R.le h0, Same.refl _⟩, ?_⟩
    rintro m σ' H' ⟨s, k, F', α', rfl, q, hk, he, R', sm⟩
    refine ht s q F' α' H' σ' _ R' fun F1 α1 H1 R1 st1 => ?_
    have sall : Same F F1 := sm.trans st1.fro
    cases hc : c s with
    | true =>
      obtain ⟨q', l⟩ := hm s q hc
      rw [if_pos rfl]
      refine ⟨fun σ2 H2 => ∃ F2 α2, RelX X B F2 α2 H2 σ2 (stF (f s)) ∧ Same F F2, fun σ2 H2 ⟨F2, α2, R2, s2⟩ => ⟨μ (f s), l, f s, k - 1, F2, α2, rfl, q', by omega, ?_, R2, s2⟩, hs s q hc F1 α1 H1 σ' _ R1 ?_⟩
      · rw [← he]
        obtain ⟨k', rfl⟩ : ∃ k', k = k' + 1 := ⟨k - 1, by omega⟩
        show iterW c f k' (f s) = if c s = true then iterW c f k' (f s) else s
        rw [if_pos hc]
      · exact ⟨fun S4 F4 α4 H4 σ4 k4 R4 s4 => ⟨F4, α4, R4.le k4.1, sall.trans s4⟩, fun S4 F4 α4 H4 σ4 k4 R4 s4 => k4.elim, fun S4 F4 α4 H4 σ4 k4 R4 s4 => ⟨F4, α4, R4.le k4.1, sall.trans s4⟩, fun c S4 F4 α4 H4 σ4 v k4 R4 s4 r4 => k4.elim⟩
    | false =>
      rw [if_neg Bool.false_ne_true]
      rw [iterW_stop hc] at he
      exact o.nx _ F1 α1 H1 σ' (by rw [he]; exact hd (by rw [← he]; exact q) (by rw [← he]; exact hc)) R1 sall)
end
end Nz
namespace Nz
open PySem PySem.Spec PyProof.Rows L2
/-- the law's promise in the layer's own words -/
def spTrue (K : Frag) : Sp := fun vs H Q _ => ∃ (a : Addr) (ns : List Int), vs = [.ref a] ∧ SqL K H a (ns.map V.int) ∧ ns.length ≤ 63 ∧ ∀ H', Q (.bl true) H'
theorem spTrue_of {K : Frag} {mg : Mg} {mir : List Int → Bool} (hm : ∀ ns : List Int, ns.length ≤ 63 → mir ns = true) {vs : List V} {H : Hp} {Q : VK} {E : XK} (h : spTrue K vs H Q E) :
    SpOf K mg (fun cs L Kc => ∃ script : List Int, cs = [.fr (eL D.int script)] ∧ L = [] ∧ script.length ≤ 63 ∧ ∀ L', Kc (.fr (D.bl (mir script))) L') vs H Q E := by
  obtain ⟨a, ns, rfl, hs, hl, q⟩ := h
  refine ⟨H, fun _ => 0, [], [.fr (eL D.int ns)], fun _ => False, ⟨Same.refl _, Same.refl _, fun b o e => .inl e, fun b o e _ => e, List.nodup_nil, fun n m h => absurd h (by simp [names]), fun n o h => absurd h (by simp), .so (Rep.lst hs Reps.ints) .nil, fun n a h hn => absurd hn (by simp [names])⟩, ns, rfl, rfl, hl, fun L' F' α' v H' ρ' σ' R' r' => ?_⟩
  rw [hm ns hl] at r'
  cases (show Rep K mg F' (.bl true) v from r')
  exact q H'
end Nz
namespace Nz
open PySem PySem.Spec PyProof.Rows L2
def minL : List Int → Int
  | [] => 0
  | x :: xs => xs.foldl (fun a b => if b < a then b else a) x
def maxL : List Int → Int
  | [] => 0
  | x :: xs => xs.foldl (fun a b => if b > a then b else a) x
theorem foldmin : ∀ (xs : List Int) (a : Int), (xs.foldl (fun a b => if b < a then b else a) a = a ∨ xs.foldl (fun a b => if b < a then b else a) a ∈ xs) ∧ xs.foldl (fun a b => if b < a then b else a) a ≤ a ∧ ∀ y ∈ xs, xs.foldl (fun a b => if b < a then b else a) a ≤ y
  | [], a => ⟨.inl rfl, Int.le_refl _, fun y h => absurd h (by simp)⟩
  | x :: xs, a => by
    rw [List.foldl_cons]
    have ih := foldmin xs (if x < a then x else a)
    refine ⟨?_, ?_, fun y hy => ?_⟩
    · rcases ih.1 with h | h
      · rw [h]; split
        · exact .inr List.mem_cons_self
        · exact .inl rfl
      · exact .inr (List.mem_cons_of_mem _ h)
    · have := ih.2.1; split at this <;> omega
    · rcases List.mem_cons.mp hy with rfl | hy
      · have := ih.2.1; split at this <;> omega
      · exact ih.2.2 y hy
theorem foldmax : ∀ (xs : List Int) (a : Int), (xs.foldl (fun a b => if b > a then b else a) a = a ∨ xs.foldl (fun a b => if b > a then b else a) a ∈ xs) ∧ a ≤ xs.foldl (fun a b => if b > a then b else a) a ∧ ∀ y ∈ xs, y ≤ xs.foldl (fun a b => if b > a then b else a) a
  | [], a => ⟨.inl rfl, Int.le_refl _, fun y h => absurd h (by simp)⟩
  | x :: xs, a => by
    rw [List.foldl_cons]
    have ih := foldmax xs (if x > a then x else a)
    refine ⟨?_, ?_, fun y hy => ?_⟩
    · rcases ih.1 with h | h
      · rw [h]; split
        · exact .inr List.mem_cons_self
        · exact .inl rfl
      · exact .inr (List.mem_cons_of_mem _ h)
    · have := ih.2.1; split at this <;> omega
    · rcases List.mem_cons.mp hy with rfl | hy
      · have := ih.2.1; split at this <;> omega
      · exact ih.2.2 y hy
theorem minL_mem {ns : List Int} (h : ns ≠ []) : minL ns ∈ ns := by
  cases ns with
  | nil => exact absurd rfl h
  | cons x xs =>
    rcases (foldmin xs x).1 with e | e
    · show xs.foldl _ x ∈ _; rw [e]; exact List.mem_cons_self
    · exact List.mem_cons_of_mem _ e
theorem maxL_mem {ns : List Int} (h : ns ≠ []) : maxL ns ∈ ns := by
  cases ns with
  | nil => exact absurd rfl h
  | cons x xs =>
    rcases (foldmax xs x).1 with e | e
    · show xs.foldl _ x ∈ _; rw [e]; exact List.mem_cons_self
    · exact List.mem_cons_of_mem _ e
section
variable {X : Cx} {B : Bd} {S S1 S2 S3 : Nz.S} {tg a b c e : Expr} {es : List Expr} {pos p q p2 : Pos} {d : D} {ds : List D} {x : Str} {id : String} {τ : Type} {enc : τ → D}
/-- a module's name for a built-in function -/
theorem ev_callG (hc : Cb X (.builtin id) ds d) (ha : Ea X B (e :: es) S (ds.map Ce.fr) S1) (hg : Gl X x) (hm : X.mg x = some (.builtin id)) (h1 : Sub S.L S1.L := by exact Sub.refl) (hdb : (x == ("__debug__" : Str)) = false := by decide)
    (he : starEach (e :: es) X.env = (false, eval e X.env) :: starEach es X.env := by rfl) (hpl : (backTo pos (starEach es X.env)).any (·.1) = false := by rfl) : Ev X B (.Call (.Name x p) (e :: es) [] pos) S (.fr d) S1 :=
  fun F α H σ Q R k pins s I => wpAny_Call_Name_kw (ld_glob I hg hm (PyProof.Rows.callWith_builtin1 (thn (ha F α H σ (fun vs H1 => ∃ F1 α1, RelX X B F1 α1 H1 σ S1 ∧ Stp F α S.L F1 α1 ∧ Reps X.K X.mg F1 ds vs) R
    (fun F1 α1 vs H1 R1 st1 r1 => ⟨F1, α1, R1, st1, r1.fr⟩) pos pins s I) fun us s1 ⟨vs, H1, I1, rv, F1, α1, R1, st1, r1⟩ =>
      hc B F1 α1 H1 σ S1 Q vs R1 r1 (fun F' α' v H' R' st' r' => k F' α' v H' R' (st1.trans st' h1) r') pins s1 us I1 rv) he hpl) hdb)
theorem c_gcd {i j : Int} : Cb X (.builtin "math.gcd") [.int i, .int j] (.int ((Nat.gcd i.natAbs j.natAbs : Nat) : Int)) := .of cr_gcd fun B F α H σ S Q xs R rx k => by
  cases rx with | cons r rr => cases rr with | cons r2 rr => cases rr; cases r; cases r2; exact ⟨i, j, rfl, k F α _ H R Stp.refl (.int _)⟩
theorem o_divW {i j : Int} (h : CDivW i j) : Op2 X (binaryOp .FloorDiv) (.int i) (.int j) (.int (i / j)) := op2I op_fdivW h fun _ => .int _
theorem o_powN {i j r : Int} (h : CPow i j) (e : i ^ j.toNat = r) : Op2 X (binaryOp .Pow) (.int i) (.int j) (.int r) := by rw [← e]; exact op2I op_pow h fun _ => .int _
theorem o_mulW {i j : Int} (h : CMulW i j) : Op2 X (binaryOp .Mult) (.int i) (.int j) (.int (i * j)) := op2I op_mulW h fun _ => .int _
theorem mulW_of {i j : Int} (h : -(2 ^ 900) < i ∧ i < 2 ^ 900 ∧ -(2 ^ 900) < j ∧ j < 2 ^ 900) : CMulW i j :=
  wide_mul (a := 900) (b := 900) (by omega) (by omega) (by decide) (by decide) (by decide)
theorem divW_of {i j : Int} (h : 0 < j ∧ j < 2 ^ 900) : CDivW i j := wide_div (b := 900) h.1 (by omega) (by decide) (by decide)
end
end Nz
namespace Nz
open PySem PySem.Spec PyProof.Rows L2
section
variable {K : Frag} {mg : Mg} {B : Bd} {F F' : Hp} {α : Nat → Addr} {H H' : Hp} {σ : L2.St} {S : Nz.S} {L : List (Nat × LO)} {Q : VK} {E : XK}
theorem CRelF.fr : ∀ {fs : List (Str × D)} {vs : List (Str × V)}, CRelF K mg F α L (fs.map fun p => (p.1, Ce.fr p.2)) vs → RepF K mg F fs vs
  | [], _, .nil => .nil
  | _ :: _, _, .cons h r => .cons h (CRelF.fr r)
end
section
variable {X : Cx} {B : Bd} {S S1 S2 : Nz.S} {a e o : Expr} {es : List Expr} {pos apos p q : Pos} {d d1 : D} {ds : List D} {c f m x : Str} {fs : List (Str × D)} {C g pr : Addr} {fd : FuncData} {ps : List Str} {k : Nat} {sp : SpN}
/-- the fields behind self.f = .. -/
def putC (f : Str) (c : Ce) : List (Str × Ce) → List (Str × Ce)
  | [] => [(f, c)]
  | (g, x) :: r => if g = f then (g, c) :: r else (g, x) :: putC f c r
theorem CRelF.put {K : Frag} {mg : Mg} {F : Hp} {α : Nat → Addr} {L : List (Nat × LO)} {f : Str} {c : Ce} {v : V} (h : CRel K mg F α L c v) : ∀ {fs : List (Str × Ce)} {vs : List (Str × V)}, CRelF K mg F α L fs vs → CRelF K mg F α L (putC f c fs) (putF f v vs)
  | [], _, .nil => .cons h .nil
  | (g, _) :: _, _, .cons r rs => by
    unfold putC putF
    by_cases q : g = f
    · rw [if_pos q, if_pos q]; exact .cons h rs
    · rw [if_neg q, if_neg q]; exact .cons r (rs.put h)
end
end Nz
namespace Nz
open PySem PySem.Spec PyProof.Rows L2
open AutoSeq1 (wpAny_loadPart')
open Sem (wp)
end Nz
namespace Nz
open PySem PySem.Spec PyProof.Rows L2
end Nz
namespace Nz
open PySem PySem.Spec PyProof.Rows L2
theorem Reps.strs_eq {K : Frag} {mg : Mg} {F : Hp} : ∀ {ns : List Str} {vs : List V}, Reps K mg F (ns.map D.str) vs → vs = ns.map V.str
  | [], _, .nil => rfl
  | _ :: _, _, .cons h r => by cases h; rw [Reps.strs_eq r]; rfl
end Nz
namespace Nz
open PySem PySem.Spec PyProof.Rows L2
def wK (X : Cx) (kws : List Keyword) (σ : L2.St) (H : Hp) (Q : List V → Hp → Prop) : Prop :=
  ∀ pos pins s, Inv X pins σ H s → wpAny (model X.prog X.w) X.A (evalAll ((backToKw pos (keywordEach kws X.env)).map (·.2))) (AP X pins σ Q) X.xe s
theorem wK.of {X : Cx} {kws : List Keyword} {t : TA} (h : PK X kws t) {σ : L2.St} {H : Hp} {Q : List V → Hp → Prop} (q : t σ H Q) : wK X kws σ H Q := fun pos pins s I => h.run pos pins s σ H Q I q
end Nz
namespace Nz
open PySem PySem.Spec PyProof.Rows L2
section
variable {X : Cx} {B : Bd} {S S1 S2 S3 : Nz.S} {tg a b c e o : Expr} {pos apos p q p2 : Pos} {d : D} {ds : List D} {x : Str}
/-- sep.join(list of texts) -/
theorem ev_join {z : Str} {ys : List Str} (ho : Ev X B o S (.fr (.str z)) S1) (ha : Ev X B e S1 (.fr (eL D.str ys)) S2) (hz : (ys.map (·.length)).sum + ys.length * z.length ≤ 16777216) (g1 : Sub S.L S1.L := by exact Sub.refl)
    (hs : starEach [e] X.env = [(false, eval e X.env)] := by rfl) (hbase : attributeBase o "join" X.env (eval o X.env) = eval o X.env := by rfl) (hline : (apos.endLine == pos.line) = true := by rfl) :
    Ev X B (.Call (.Attribute o "join" apos) [e] [] pos) S (.fr (.str (Txt.join z ys))) S2 :=
  fun F α H σ Q R k => wE.of (pe_join pe_w pe_w hs hbase hline) (ho F α H σ _ R fun F1 α1 v1 H1 R1 st1 r1 => by
    cases r1
    refine ⟨⟨z, rfl⟩, ha F1 α1 H1 σ _ R1 fun F2 α2 v2 H2 R2 st2 r2 => ?_⟩
    obtain ⟨l, us, rfl, hq, rs⟩ := R2.asL (c := .fr (.lst (ys.map D.str))) rfl r2
    rw [Reps.strs_eq rs] at hq
    exact ⟨z, l, ys, rfl, rfl, .inl hq, hz, k F2 α2 _ H2 R2 (st1.trans st2 g1) (.str _)⟩)
end
end Nz
namespace Nz
open PySem PySem.Spec PyProof.Rows L2
end Nz
namespace Nz
open PySem PySem.Spec PyProof.Rows L2
end Nz
namespace Nz
theorem some_of {τ : Type} {y : Option τ} (h : ¬ (y.isNone = true)) : y.isSome = true := by
  cases y with
  | none => exact absurd rfl h
  | some z => rfl
theorem some_of2 {τ : Type} {y : Option τ} (h : ¬ ¬ ¬ (y.isNone = true)) : y.isSome = true := some_of fun z => h fun w => w z
end Nz
namespace Nz
end Nz
namespace Nz
open PySem PySem.Spec PyProof.Rows L2
theorem Reps.reverse {K : Frag} {mg : Mg} {F : Hp} : ∀ {ds : List D} {vs : List V}, Reps K mg F ds vs → Reps K mg F ds.reverse vs.reverse
  | _, _, .nil => .nil
  | _ :: _, _ :: _, .cons h r => by
    rw [List.reverse_cons, List.reverse_cons]
    exact (Reps.reverse r).append (.cons h .nil)
end Nz
namespace Nz
open PySem PySem.Spec PyProof.Rows L2
end Nz
namespace Nz
open PySem PySem.Spec PyProof.Rows L2
section
variable {X : Cx} {B : Bd} {S S1 S2 : Nz.S} {a b e o tg : Expr} {es : List Expr} {pos apos p q : Pos} {d1 : D} {c2 : Ce} {τ : Type} {enc : τ → D} {n : Nat}
/-- list(e), of what lives too -/
theorem ev_listC {ca : Ce} {xs : List τ} (hl : AsL S1.L ca (xs.map enc)) (ha : Ev X B e S ca S1) (hg : Gl X "list") (hm : X.mg "list" = none) (hv : bootBuiltins "list" = some (.type "list") := by decide +kernel)
    (hs : starEach [e] X.env = (false, eval e X.env) :: starEach [] X.env := by rfl) (hpl : (backTo pos (starEach [] X.env)).any (·.1) = false := by rfl) : Ev X B (.Call (.Name "list" p) [e] [] pos) S (.fr (eL enc xs)) S1 :=
  fun F α H σ Q R k => wE.of (pe_callTy call_list_of hg hm hv (pa_cons pe_w pa_nil hs) (by decide) (by decide) hs hpl) (ha F α H σ _ R fun F1 α1 v1 H1 R1 st1 r1 => by
    obtain ⟨a, vs, rfl, hq, rs⟩ := R1.asL hl r1
    refine ⟨a, vs, rfl, .inl hq, fun p hp => ?_⟩
    have hf := R1.fresh hp
    exact k _ α1 _ _ (R1.allocF hp) ⟨st1.fro.trans (same_upd hf), st1.nm⟩ (Rep.lst (SqL.of upd_same) (rs.mono (same_upd hf))))
end
end Nz
namespace Nz
open PySem PySem.Spec PyProof.Rows L2
end Nz
namespace Nz
theorem rng_lt {n i y : Nat} (h : (List.range n)[i]? = some y) : y < n := List.mem_range.mp (List.mem_of_getElem? h)
end Nz
namespace Nz
open PySem PySem.Spec PyProof.Rows L2
end Nz
namespace Nz
theorem small_log {i : Int} (h : -1000000 ≤ i ∧ i ≤ 1000000) : i.natAbs.log2 < 1920 := by
  by_cases h0 : i.natAbs = 0
  · rw [h0]; decide
  · have h1 : i.natAbs < 2 ^ 20 := by
      have : (2 : Nat) ^ 20 = 1048576 := by decide
      omega
    have := (Nat.log2_lt h0).mpr h1
    omega
end Nz
namespace Nz
theorem some_of3 {τ : Type} {y : Option τ} {b : Bool} (h : ¬ ¬ ((y.isSome && b) = true)) : y.isSome = true := by
  have := Classical.not_not.mp h
  rw [Bool.and_eq_true] at this
  exact this.1
theorem some_of4 {τ : Type} {y : Option τ} {b : Bool} {q : Prop} (h : ¬ ((¬ ((y.isSome && b) = true)) ∨ q)) : y.isSome = true := some_of3 fun z => h (.inl z)
theorem some_of5 {τ : Type} {y : Option τ} {b : Bool} {q : Prop} (h : ((y.isSome && b) = true)) : y.isSome = true := some_of3 fun z => z h
end Nz
namespace Nz
/-- from the test of a while -/
theorem some_ofW {τ : Type} {y : Option τ} (h : (!y.isNone) = true) : y.isSome = true := by
  cases y with
  | none => exact absurd h (by simp)
  | some z => rfl
end Nz
namespace Nz
open PySem PySem.Spec PyProof.Rows L2
end Nz
namespace Nz
open PySem PySem.Spec PyProof.Rows L2
end Nz
namespace Nz
open PySem PySem.Spec PyProof.Rows L2
end Nz
namespace Nz
open PySem PySem.Spec PyProof.Rows L2
end Nz
namespace Nz
open PySem PySem.Spec PyProof.Rows L2
section
variable {K : Frag} {mg : Mg} {B : Bd} {F F' : Hp} {α : Nat → Addr} {H : Hp} {σ : L2.St} {S : Nz.S}
/-- the ground is moved up -/
def Bd.at (B : Bd) (F : Hp) : Bd := { B with F0 := F }
end
/-- // by any number but 0 -/
def CDivZ (_ j : Int) : Prop := j ≠ 0 ∧ j.natAbs.log2 < 9000
theorem fdivW_of {i j : Int} (h : j ≠ 0) (h2 : -(2 ^ 900) < j ∧ j < 2 ^ 900) : CDivZ i j := ⟨h, Nat.lt_of_lt_of_le (PySem.Flt.log2_lt_of (k := 900) (by decide) (by omega)) (by decide)⟩
end Nz
namespace PySem
open PySem.AutoSeq1
end PySem
namespace L2
open PySem PySem.Spec PyProof.Rows
end L2
namespace Nz
open PySem PySem.Spec PyProof.Rows L2
end Nz
namespace Nz
open PySem PySem.Spec PyProof.Rows L2
end Nz
namespace Nz
open PySem PySem.Spec PyProof.Rows L2
end Nz
namespace Nz
open PySem PySem.Spec PyProof.Rows L2 NdefX
def okD (d : D) : Prop := (∃ i : Int, d = .int i ∧ i.natAbs.log2 < 1920) ∨ ∃ s : Str, d = .str s ∧ s.length ≤ 20000
theorem okD_int {i : Int} (h : -(2 ^ 900) < i ∧ i < 2 ^ 900) : okD (.int i) := .inl ⟨i, rfl, Nat.lt_of_lt_of_le (PySem.Flt.log2_lt_of (k := 900) (by decide) (by omega)) (by decide)⟩
theorem okD_str {s : Str} (h : s.length ≤ 20000) : okD (.str s) := .inr ⟨s, rfl, h⟩
/-- what the ground knows of the error -/
def ExD (K : Frag) (mg : Mg) (F : Hp) (fs : List (Str × D)) (d : Option Addr) : Prop := (fs = [] ∧ d = none) ∨ (fs ≠ [] ∧ ∃ dx vs, d = some dx ∧ F dx = some (.xd vs) ∧ RepF K mg F fs vs)
theorem ExD.mono {K : Frag} {mg : Mg} {F F' : Hp} {fs : List (Str × D)} {d : Option Addr} (h : ExD K mg F fs d) (s : Same F F') : ExD K mg F' fs d := by
  rcases h with h | ⟨h, dx, vs, h1, h2, h3⟩
  · exact .inl h
  · exact .inr ⟨h, dx, vs, h1, s _ _ h2, h3.mono s⟩
end Nz
namespace Nz
open PySem PySem.Spec PyProof.Rows L2
end Nz
namespace Nz
open PySem PySem.Spec PyProof.Rows L2
end Nz
namespace Nz
open PySem PySem.Spec PyProof.Rows L2
end Nz
namespace Nz
open PySem PySem.Spec PyProof.Rows L2
end Nz
namespace Nz
open PySem PySem.Spec PyProof.Rows L2
end Nz
namespace Nz
open PySem PySem.Spec PyProof.Rows L2
end Nz
namespace Nz
open PySem PySem.Spec PyProof.Rows L2
open AutoSeq1 (wpAny_loadPart')
open Sem (wp)
end Nz
namespace Nz
open PySem PySem.Spec PyProof.Rows L2
def IsG (t : Bool) (h : Heap) (a : Addr) (items : Array Value) : Prop := match t with | true => h.IsTuple a items | false => h.IsList a items
def ItG (t : Bool) (h : Heap) (it a : Addr) (i : Nat) : Prop := match t with | true => h.IsTupleIter it a i | false => h.IsListIter it a i
theorem ItG.at {t : Bool} {h h' : Heap} {it a : Addr} {i : Nat} (x : ItG t h it a i) (k : ∀ o, h.get? it = some o → h'.get? it = some o) : ItG t h' it a i := by
  cases t
  · exact Heap.IsListIter.at x k
  · exact Heap.IsTupleIter.at x k
theorem ItG.is {t : Bool} {h : Heap} {it a : Addr} {i : Nat} (x : ItG t h it a i) : ∃ o, h.get? it = some o ∧ ∀ v, o.data ≠ .cell v := by
  cases t
  · obtain ⟨o, e, _, d⟩ := x; exact ⟨o, e, fun v q => by rw [d] at q; cases q⟩
  · obtain ⟨o, e, _, d⟩ := x; exact ⟨o, e, fun v q => by rw [d] at q; cases q⟩
theorem IsG.at {t : Bool} {h h' : Heap} {a : Addr} {xs : Array Value} (x : IsG t h a xs) (k : ∀ o, h.get? a = some o → h'.get? a = some o) : IsG t h' a xs := by
  cases t
  · exact Heap.IsList.at x k
  · exact Heap.IsTuple.at x k
end Nz
namespace Nz
open PySem PySem.Spec PyProof.Rows L2
theorem Reps.rev {K : Frag} {mg : Mg} {F : Hp} : ∀ {ds : List D} {vs : List V}, Reps K mg F ds vs → Reps K mg F ds.reverse vs.reverse
  | _, _, .nil => .nil
  | _, _, .cons h r => by rw [List.reverse_cons, List.reverse_cons]; exact (Reps.rev r).append (.cons h .nil)
end Nz
namespace PySem
open AutoSeq1
end PySem
namespace Nz
open PySem PySem.Spec PyProof.Rows L2
section
variable {X : Cx} {B : Bd} {S : Nz.S} {τ : Type} {enc : τ → D}
theorem ev_reverseD {n : Nat} {o : Expr} {apos pos : Pos} {ds : List D} (ho : Ev X B o S (.ad n) S) (hn : getL n S.L = some (.fl ds))
    (hbase : attributeBase o "reverse" X.env (eval o X.env) = eval o X.env := by rfl) (hline : (apos.endLine == pos.line) = true := by rfl) :
    Ev X B (.Call (.Attribute o "reverse" apos) [] [] pos) S (.fr .non) ⟨S.ρ, setL n (.fl ds.reverse) S.L⟩ :=
  fun F α H σ Q R k => wE.of (pe_bm0 PySem.F.plainAttrs_list PySem.F.slot_list_reverse PySem.F.type_list_reverse mt_reverse pe_w hbase hline) (ho F α H σ _ R fun F1 α1 v1 H1 R1 st1 r1 => by
    obtain ⟨hm, rfl⟩ := r1
    have hmm := getL_mem hn
    obtain ⟨f0, f1, vs, e1, rs⟩ := R1.live n _ hmm
    refine ⟨.inl ⟨rfl, _, SqL.of e1⟩, α1 n, vs, rfl, rfl, e1, ?_⟩
    have Rp := R1.put (n := n) (u := .fl ds.reverse) (o' := .lst vs.reverse) hmm ⟨vs.reverse, upd_same, Reps.rev rs⟩
    exact k F1 α1 .non _ Rp (st1.trans Stp.refl Sub.refl) .non)
theorem ev_reverseT {n : Nat} {o : Expr} {apos pos : Pos} {xs : List τ} (ho : Ev X B o S (.ad n) S) (hn : getL n S.L = some (.fl (xs.map enc)))
    (hbase : attributeBase o "reverse" X.env (eval o X.env) = eval o X.env := by rfl) (hline : (apos.endLine == pos.line) = true := by rfl) :
    Ev X B (.Call (.Attribute o "reverse" apos) [] [] pos) S (.fr .non) ⟨S.ρ, setL n (.fl (xs.reverse.map enc)) S.L⟩ := by
  rw [List.map_reverse]; exact ev_reverseD ho hn hbase hline
end
end Nz
namespace Nz
open PySem PySem.Spec PyProof.Rows L2
end Nz
namespace Nz
open PySem PySem.Spec PyProof.Rows L2
end Nz
namespace L2
open PySem PySem.Spec PyProof.Rows
end L2
namespace Nz
open PySem PySem.Spec PyProof.Rows L2
end Nz
namespace Nz
open PySem PySem.Spec PyProof.Rows L2 SkE TL
theorem tos_le {z : Int} (h : z.natAbs.log2 < 1920) : (Str.ofString (toString z)).length ≤ 1921 := by
  rw [PySem.ofString_length]; exact int_text_length_le (k := 1920) (by decide) h
/-- joined texts -/
theorem join_cons2 (y a b : Str) (r : List Str) : Txt.join y (a :: b :: r) = a ++ y ++ Txt.join y (b :: r) := by
  rw [TL.join_eq, TL.join_eq]; rfl
theorem join_one (y a : Str) : Txt.join y [a] = a := by rw [TL.join_eq]; rfl
theorem join_nil (y : Str) : Txt.join y [] = Str.ofString "" := by rw [TL.join_eq]; rfl
theorem join_len (y : Str) : ∀ ys : List Str, (Txt.join y ys).length ≤ (ys.map (·.length)).sum + ys.length * y.length
  | [] => by rw [join_nil]; exact Nat.zero_le _
  | [a] => by rw [join_one]; simp
  | a :: b :: r => by
    have := join_len y (b :: r)
    rw [join_cons2, Str.length_append, Str.length_append, List.map_cons, List.sum_cons, List.length_cons, Nat.succ_mul]
    omega
theorem sum_le_mul {c : Nat} : ∀ ys : List Str, (∀ y ∈ ys, y.length ≤ c) → (ys.map (·.length)).sum ≤ ys.length * c
  | [], _ => Nat.zero_le _
  | a :: r, h => by
    have := sum_le_mul r fun z hz => h z (List.mem_cons_of_mem _ hz)
    have := h a List.mem_cons_self
    rw [List.map_cons, List.sum_cons, List.length_cons, Nat.succ_mul]; omega
end Nz
namespace L2
open PySem PySem.Spec PyProof.Rows
theorem call_divmodW {X : Cx} : CallR X (.builtin "divmod") (fun xs H Q => ∃ i j, xs = [.int i, .int j] ∧ (0 < j ∧ j.natAbs.log2 < 9000) ∧ ∀ p, H p = none → Q (.ref p) (upd H p (.tup [.int (i / j), .int (i % j)]))) := by
  intro pins s σ H xs us Q I r h
  obtain ⟨i, j, rfl, ⟨h1, h2⟩, q⟩ := h
  obtain ⟨u, w', rfl, ⟨t, rfl⟩, ⟨t', rfl⟩⟩ := vals2 r
  refine divmod_int (by omega) ?_ (.inl (PyProof.noPylong_of_log2 h2))
  rw [Int.fdiv_eq_ediv_of_nonneg i (by omega), Int.fmod_eq_emod_of_nonneg i (by omega)]
  have hn : H s.heap.objs.size = none := I.hok.fresh (Nat.le_refl _)
  refine ⟨.ref s.heap.objs.size, _, ?_, rfl, q _ hn⟩
  refine I.laid (fun b o e => Heap.get?_push_of_some _ e) (Nat.le_refl _) ⟨by simp only [List.length_cons, List.length_nil]; rw [sizeLine_eq]; decide, [.int (i / j) s.toks, .int (i % j) (s.toks + 1)], .cons ⟨_, rfl⟩ (.cons ⟨_, rfl⟩ .nil), ?_⟩
  exact ⟨_, Heap.get?_push_size s.heap rfl, rfl, 0, rfl⟩
end L2
namespace Nz
open PySem PySem.Spec PyProof.Rows L2 SkE TL
section
variable {X : Cx} {B : Bd} {S S1 S2 : Nz.S} {o e : Expr} {apos pos : Pos} {z : Str} {i : Int}
theorem c_divmodW {i j : Int} (h : 0 < j) (h' : j < 2 ^ 900) : Cb X (.builtin "divmod") [.int i, .int j] (.tup [.int (i / j), .int (i % j)]) := .of call_divmodW fun B F α H σ S Q vs R rx k => by
  cases rx with
  | cons r rr =>
    cases rr with
    | cons r2 rr => cases rr; cases r; cases r2; exact ⟨i, j, rfl, ⟨h, Nat.lt_of_lt_of_le (PySem.Flt.log2_lt_of (k := 900) (by decide) (by omega)) (by decide)⟩, fun p hp => k _ α _ _ (R.allocF hp) (stp_allocF (R.fresh hp)) (.tup (SqT.of upd_same) (.cons (.int _) (.cons (.int _) .nil)))⟩
theorem ev_zfill (ho : Ev X B o S (.fr (.str z)) S1) (ha : Ev X B e S1 (.fr (.int i)) S2) (hz : PadOk i = true) (g1 : Sub S.L S1.L := by exact Sub.refl)
    (hs : starEach [e] X.env = [(false, eval e X.env)] := by rfl) (hbase : attributeBase o "zfill" X.env (eval o X.env) = eval o X.env := by rfl) (hline : (apos.endLine == pos.line) = true := by rfl) :
    Ev X B (.Call (.Attribute o "zfill" apos) [e] [] pos) S (.fr (.str (Txt.zfill z i))) S2 :=
  fun F α H σ Q R k => wE.of (pe_m1 PySem.F.slot_str_zfill PySem.F.type_str_zfill mt_zfill pe_w pe_w hs hbase hline) (ho F α H σ _ R fun F1 α1 v1 H1 R1 st1 r1 => by
    cases r1
    refine ⟨⟨z, rfl⟩, ha F1 α1 H1 σ _ R1 fun F2 α2 v2 H2 R2 st2 r2 => ?_⟩
    cases r2
    exact ⟨z, i, rfl, rfl, hz, k F2 α2 _ H2 R2 (st1.trans st2 g1) (.str _)⟩)
theorem empty_app (x : Str) : Str.empty ++ x = x := Str.ext' (by rw [Str.cps_append]; exact Array.empty_append)
/-- f'{a}..{b}' of texts -/
theorem ev_fstr3 {a c b : Expr} {x y w : Str} {p1 p2 : Pos} (ha : Ev X B a S (.fr (.str x)) S) (hc : Ev X B c S (.fr (.str w)) S) (hb : Ev X B b S (.fr (.str y)) S) (hz : (x ++ w ++ y).length ≤ sizeLine) :
    Ev X B (.JoinedStr [.FormattedValue a (-1) none p1, c, .FormattedValue b (-1) none p2] pos) S (.fr (.str (x ++ w ++ y))) S := by
  have z1 : (x ++ w).length ≤ sizeLine := by rw [Str.length_append] at hz; omega
  have z2 : x.length ≤ sizeLine := by rw [Str.length_append] at z1; omega
  have z3 : y.length ≤ sizeLine := by rw [Str.length_append] at hz; omega
  refine fun F α H σ Q R k => wE.of (pe_joined (.cons (pe_fmt pe_w) (.cons pe_w (.cons (pe_fmt pe_w) .nil)))) ?_
  refine ha F α H σ _ R fun F1 α1 v1 H1 R1 st1 r1 => ?_
  cases r1
  refine .inl ⟨x, rfl, z2, x, rfl, by rw [empty_app]; exact z2, ?_⟩
  refine hc F1 α1 H1 σ _ R1 fun F2 α2 v2 H2 R2 st2 r2 => ?_
  cases r2
  refine ⟨w, rfl, by rw [empty_app]; exact z1, ?_⟩
  refine hb F2 α2 H2 σ _ R2 fun F3 α3 v3 H3 R3 st3 r3 => ?_
  cases r3
  refine .inl ⟨y, rfl, z3, y, rfl, by rw [empty_app]; exact hz, ?_⟩
  show Q (.str (Str.empty ++ x ++ w ++ y)) H3
  rw [empty_app]
  exact k F3 α3 _ H3 R3 ((st1.trans st2 Sub.refl).trans st3 Sub.refl) (.str _)
end
end Nz
set_option maxRecDepth 100000
set_option maxHeartbeats 4000000
namespace My
open PySem PySem.Spec PyProof.Rows L2 Nz
def top (i : Nat) : Stmt := PySem.Challenge.pw_neverlate_k02_sum_and_text.main.body.getD i (.Pass ⟨0, 0, 0, 0⟩)
local macro_rules | `(tactic| walk_at "pad") => `(tactic| decide)
local macro_rules | `(tactic| walk_at "okd") => `(tactic| first | exact okD_int (by omega) | exact okD_str (by omega))
local macro_rules | `(tactic| walk_at "rep") => `(tactic| omega)
local macro_rules | `(tactic| walk_at "ext") => `(tactic| omega)
local macro_rules | `(tactic| walk_at "lcm") => `(tactic| omega)
local macro_rules | `(tactic| walk_at "fdivw") => `(tactic| exact fdivW_of (by omega) (by omega))
local macro_rules | `(tactic| walk_at "str") => `(tactic| (apply small_log; omega))
local macro_rules | `(tactic| walk_at "scan") => `(tactic| (unfold PySem.scanBound; omega))
local macro_rules | `(tactic| walk_at "mulw") => `(tactic| first | exact mulW_of (by omega) | with_reducible assumption)
local macro_rules | `(tactic| walk_at "divw") => `(tactic| first | exact divW_of (by omega) | with_reducible assumption)
local macro_rules | `(tactic| walk_at "some") => `(tactic| first | assumption | exact some_ofW (by assumption) | exact some_of (by assumption) | exact some_of2 (by assumption) | exact some_of3 (by assumption) | exact some_of4 (by assumption) | exact some_of5 (by assumption) | (simp_all; done))
local macro_rules | `(tactic| walk_at "mem") => `(tactic| first | assumption | exact minL_mem (by walk_at "ne") | exact maxL_mem (by walk_at "ne"))
local macro_rules | `(tactic| walk_at "sd") => `(tactic| first | omega | (have hyy := seq_range (by assumption); omega) | (have hyy := rng_lt (by assumption); omega) | (simp only [List.length_append, List.length_map, List.length_cons, List.length_nil, List.length_range, List.length_replicate] at *; omega) | decide | with_reducible assumption | exact Int.emod_nonneg _ (by omega) | exact Int.emod_lt_of_pos _ (by omega) | (constructor <;> omega) | (refine ⟨?_, ?_⟩ <;> omega))
local macro_rules | `(tactic| walk_at "mul") => `(tactic| first | exact Or.inl ⟨by omega, by omega⟩ | (have hyy := seq_range (by assumption); exact Or.inl ⟨by omega, by omega⟩) | exact Or.inr ⟨by omega, by omega⟩ | with_reducible assumption)
local macro_rules | `(tactic| walk_at "ne") => `(tactic| first | assumption | (intro h; subst h; contradiction) | (intro h; simp only [h, List.isEmpty_nil, not_true_eq_false] at *; done) | (intro h; have := congrArg List.length h; simp only [List.length_map, List.length_range, List.length_nil, List.length_append, List.length_cons] at this; omega) | (simp; done) | (intro h; simp [h] at *; done) | (intro h; simp [h] at *; omega))
local macro_rules | `(tactic| walk_at "pre") => `(tactic| first | omega | with_reducible assumption | (simp only [List.length_map]; omega) | (refine ⟨?_, ?_⟩ <;> first | omega | with_reducible assumption) | (refine ⟨?_, ?_, ?_⟩ <;> first | omega | with_reducible assumption) | (refine ⟨?_, ?_, ?_, ?_⟩ <;> first | omega | with_reducible assumption) | (have hyy := seq_range (by assumption); (repeat' apply And.intro) <;> omega))
abbrev s_make_ratio : Stmt := top 5
abbrev s_add_ratios : Stmt := top 6
abbrev s_law_is_integer : Stmt := top 12
abbrev s_law_divisor : Stmt := top 13
abbrev s_law_is_ratio : Stmt := top 14
abbrev s_law_row : Stmt := top 15
abbrev s_law_numbers : Stmt := top 16
abbrev s_sum_ratios : Stmt := top 7
abbrev s_decimal : Stmt := top 9
abbrev s_ratio_text : Stmt := top 8
abbrev s_law : Stmt := top 17
structure TX (P : Program) (K : Frag) (mg : Mg) where
  n_abs : mg "abs" = none
  n_bool : mg "bool" = none
  n_divmod : mg "divmod" = none
  n_int : mg "int" = none
  n_isinstance : mg "isinstance" = none
  n_len : mg "len" = none
  n_list : mg "list" = none
  n_max : mg "max" = none
  n_range : mg "range" = none
  n_str : mg "str" = none
  n_tuple : mg "tuple" = none
  x_gcd : mg "gcd" = some (.builtin "math.gcd")
  a_make_ratio : Addr
  d_make_ratio : FuncData
  F_make_ratio : Fun K "make_ratio" "make_ratio" s_make_ratio a_make_ratio d_make_ratio
  k_make_ratio : PySem.W.keepIn K (.ref a_make_ratio) = true
  m_make_ratio : mg "make_ratio" = some (.ref a_make_ratio)
  b_make_ratio : Binds K d_make_ratio ["top", "bottom"] []
  a_add_ratios : Addr
  d_add_ratios : FuncData
  F_add_ratios : Fun K "add_ratios" "add_ratios" s_add_ratios a_add_ratios d_add_ratios
  k_add_ratios : PySem.W.keepIn K (.ref a_add_ratios) = true
  m_add_ratios : mg "add_ratios" = some (.ref a_add_ratios)
  b_add_ratios : Binds K d_add_ratios ["first", "second"] []
  a_law_is_integer : Addr
  d_law_is_integer : FuncData
  F_law_is_integer : Fun K "_law_is_integer" "_law_is_integer" s_law_is_integer a_law_is_integer d_law_is_integer
  k_law_is_integer : PySem.W.keepIn K (.ref a_law_is_integer) = true
  m_law_is_integer : mg "_law_is_integer" = some (.ref a_law_is_integer)
  b_law_is_integer : Binds K d_law_is_integer ["actual"] []
  a_law_divisor : Addr
  d_law_divisor : FuncData
  F_law_divisor : Fun K "_law_divisor" "_law_divisor" s_law_divisor a_law_divisor d_law_divisor
  k_law_divisor : PySem.W.keepIn K (.ref a_law_divisor) = true
  m_law_divisor : mg "_law_divisor" = some (.ref a_law_divisor)
  b_law_divisor : Binds K d_law_divisor ["first", "second"] []
  a_law_is_ratio : Addr
  d_law_is_ratio : FuncData
  F_law_is_ratio : Fun K "_law_is_ratio" "_law_is_ratio" s_law_is_ratio a_law_is_ratio d_law_is_ratio
  k_law_is_ratio : PySem.W.keepIn K (.ref a_law_is_ratio) = true
  m_law_is_ratio : mg "_law_is_ratio" = some (.ref a_law_is_ratio)
  b_law_is_ratio : Binds K d_law_is_ratio ["actual"] []
  a_law_row : Addr
  d_law_row : FuncData
  F_law_row : Fun K "_law_row" "_law_row" s_law_row a_law_row d_law_row
  k_law_row : PySem.W.keepIn K (.ref a_law_row) = true
  m_law_row : mg "_law_row" = some (.ref a_law_row)
  b_law_row : Binds K d_law_row ["cell", "many"] []
  a_law_numbers : Addr
  d_law_numbers : FuncData
  F_law_numbers : Fun K "_law_numbers" "_law_numbers" s_law_numbers a_law_numbers d_law_numbers
  k_law_numbers : PySem.W.keepIn K (.ref a_law_numbers) = true
  m_law_numbers : mg "_law_numbers" = some (.ref a_law_numbers)
  b_law_numbers : Binds K d_law_numbers ["script", "many"] []
  a_sum_ratios : Addr
  d_sum_ratios : FuncData
  F_sum_ratios : Fun K "sum_ratios" "sum_ratios" s_sum_ratios a_sum_ratios d_sum_ratios
  k_sum_ratios : PySem.W.keepIn K (.ref a_sum_ratios) = true
  m_sum_ratios : mg "sum_ratios" = some (.ref a_sum_ratios)
  b_sum_ratios : Binds K d_sum_ratios ["ratios"] []
  a_decimal : Addr
  d_decimal : FuncData
  F_decimal : Fun K "_decimal" "_decimal" s_decimal a_decimal d_decimal
  k_decimal : PySem.W.keepIn K (.ref a_decimal) = true
  m_decimal : mg "_decimal" = some (.ref a_decimal)
  b_decimal : Binds K d_decimal ["number"] []
  a_ratio_text : Addr
  d_ratio_text : FuncData
  F_ratio_text : Fun K "ratio_text" "ratio_text" s_ratio_text a_ratio_text d_ratio_text
  k_ratio_text : PySem.W.keepIn K (.ref a_ratio_text) = true
  m_ratio_text : mg "ratio_text" = some (.ref a_ratio_text)
  b_ratio_text : Binds K d_ratio_text ["ratio"] []
  a_law : Addr
  d_law : FuncData
  F_law : Fun K "law" "law" s_law a_law d_law
  k_law : PySem.W.keepIn K (.ref a_law) = true
  m_law : mg "law" = some (.ref a_law)
  b_law : Binds K d_law ["script"] []
  e_law : ∀ (s : Shared) (v : Value), BindsTo s d_law ⟨[v], []⟩ [("script", v)]
section
variable {P : Program} {w : World} {K : Frag} {mg : Mg} {base : Heap}
def m_make_ratio (top : Int) (bottom : Int) : Int × Int :=
  if (bottom = (0 : Int)) then default else let divisor2 : Int := ((Nat.gcd (top).natAbs (bottom).natAbs : Nat) : Int)
  let divisor2 : Int := (if (bottom < (0 : Int)) then (-divisor2) else divisor2)
  ((top / divisor2), (bottom / divisor2))
theorem mul_abs {a b : Int} {A B : Int} (h1 : -A < a) (h2 : a < A) (h3 : -B < b) (h4 : b < B) : -(A * B) < a * b ∧ a * b < A * B := by
  have h : (a * b).natAbs < A.natAbs * B.natAbs := by rw [Int.natAbs_mul]; exact Nat.mul_lt_mul_of_lt_of_lt (by omega) (by omega)
  have hA : (A.natAbs : Int) = A := by omega
  have hB : (B.natAbs : Int) = B := by omega
  have : ((A.natAbs * B.natAbs : Nat) : Int) = A * B := by rw [Int.natCast_mul, hA, hB]
  omega
theorem ratio_shape (top bottom : Int) (hb : 0 < bottom) : m_make_ratio top bottom = (top / ((Nat.gcd top.natAbs bottom.natAbs : Nat) : Int), bottom / ((Nat.gcd top.natAbs bottom.natAbs : Nat) : Int)) := by
  unfold m_make_ratio
  dsimp only
  rw [if_neg (by omega), if_neg (by omega)]
theorem ratio_bound (top bottom : Int) (hb : 0 < bottom) (E : Int) (h1 : -E < top) (h2 : top < E) (h3 : bottom < E) : -E < (m_make_ratio top bottom).1 ∧ (m_make_ratio top bottom).1 < E ∧ 0 < (m_make_ratio top bottom).2 ∧ (m_make_ratio top bottom).2 < E := by
  rw [ratio_shape top bottom hb]
  dsimp only
  have hg := Nat.gcd_pos_of_pos_right top.natAbs (show 0 < bottom.natAbs by omega)
  have hle := Nat.gcd_le_right top.natAbs (show 0 < bottom.natAbs by omega)
  have hd := Nat.gcd_dvd_right top.natAbs bottom.natAbs
  have t3 : 0 < bottom / ((Nat.gcd top.natAbs bottom.natAbs : Nat) : Int) := Int.ediv_pos_of_pos_of_dvd hb (by omega) (Int.ofNat_dvd_left.mpr hd)
  have t1 := Int.natAbs_ediv_le_natAbs top ((Nat.gcd top.natAbs bottom.natAbs : Nat) : Int)
  have t2 := Int.ediv_le_self ((Nat.gcd top.natAbs bottom.natAbs : Nat) : Int) (Int.le_of_lt hb)
  omega
theorem sc_make_ratio : FnScope ["top", "bottom", "divisor"] ["top", "bottom"] (defScope s_make_ratio) := ⟨rfl, rfl, rfl, by decide +kernel, rfl, by decide +kernel, by decide +kernel⟩
def sp_make_ratio : SpN := fun zcs zL zKc => ∃ top : Int, ∃ bottom : Int, zcs = [.fr (D.int top), .fr (D.int bottom)] ∧ zL = [] ∧ (-(2 ^ 890) < top ∧ top < 2 ^ 890 ∧ 0 < bottom ∧ bottom < 2 ^ 890) ∧ ∀ zL', zKc (.fr ((eT2 D.int D.int) (m_make_ratio top bottom))) zL'
theorem ok_make_ratio (T : TX P K mg) : FnOk P w K mg base CX0 1 T.a_make_ratio T.d_make_ratio ["top", "bottom"] (SpOf K mg sp_make_ratio) := by
  refine T.F_make_ratio.okN sc_make_ratio (fun zcs zL zKc zh => by obtain ⟨top, bottom, rfl, _⟩ := zh; rfl) fun zcdv zA zout zst zH zE zB zcs zL zKc zhr zh => ?_
  obtain ⟨top, bottom, rfl, rfl, hpre, zk⟩ := zh
  have nd := sc_make_ratio.nd
  have hSL := sizeLine_eq
  show Exs _ _ _ ⟨[some (.fr (D.int top)), some (.fr (D.int bottom)), none], []⟩ _
  refine exs_cons (ex_ifP bd_d (et_cmp o_eqi (ev_var 1 rfl (.inl rfl) rfl) ev_int (nomark _)) (fun (zh1 : (bottom = (0 : Int))) => ?_) (fun (zh1 : ¬ (bottom = (0 : Int))) => ?_))
  · skip
    exfalso
    omega
  · skip
    refine exs_nil ?_
    show Exs _ _ _ ⟨[some (.fr (D.int top)), some (.fr (D.int bottom)), none], []⟩ _
    refine exs_cons (ex_set 2 (ev_callG (ds := [D.int top, D.int bottom]) c_gcd (ea_cons (ev_var 0 rfl (.inl rfl) rfl) (ea_cons (ev_var 1 rfl (.inl rfl) rfl) ea_nil)) (by exact rfl) T.x_gcd) ?_ nd rfl (.inl rfl))
    show Exs _ _ _ ⟨[some (.fr (D.int top)), some (.fr (D.int bottom)), some (.fr (D.int ((Nat.gcd (top).natAbs (bottom).natAbs : Nat) : Int)))], []⟩ _
    generalize zg_divisor : ((Nat.gcd (top).natAbs (bottom).natAbs : Nat) : Int) = divisor
    show Exs _ _ _ ⟨[some (.fr (D.int top)), some (.fr (D.int bottom)), some (.fr (D.int divisor))], []⟩ _
    have hg1 : 0 < divisor := by rw [← zg_divisor]; have := Nat.gcd_pos_of_pos_right top.natAbs (show 0 < bottom.natAbs by omega); omega
    have hg2 : divisor ≤ bottom := by rw [← zg_divisor]; have := Nat.gcd_le_right top.natAbs (show 0 < bottom.natAbs by omega); omega
    refine exs_cons (ex_join ⟨[some (.fr (D.int top)), some (.fr (D.int bottom)), some (.fr (D.int (if (bottom < (0 : Int)) then (-divisor) else divisor)))], []⟩ (ex_ifP bd_d (et_cmp o_lt (ev_var 1 rfl (.inl rfl) rfl) ev_int (nomark _)) (fun (zh2 : (bottom < (0 : Int))) => ?_) (fun (zh2 : ¬ (bottom < (0 : Int))) => ?_)) ?_)
    · skip
      refine exs_one (ex_set 2 (ev_neg (ev_var 2 rfl (.inl rfl) rfl)) ?_ nd rfl (.inl rfl))
      exact ⟨_, rfl, by simp only [if_pos zh2]; exact ⟨⟨.inr rfl, .inr rfl, .inr rfl, trivial⟩, rfl⟩⟩
    · skip
      refine exs_nil ?_
      exact ⟨_, rfl, by simp only [if_neg zh2]; exact ⟨⟨.inr rfl, .inr rfl, .inr rfl, trivial⟩, rfl⟩⟩
    · skip
      show Exs _ _ _ ⟨[some (.fr (D.int top)), some (.fr (D.int bottom)), some (.fr (D.int (if (bottom < (0 : Int)) then (-divisor) else divisor)))], []⟩ _
      generalize zg_divisor1 : (if (bottom < (0 : Int)) then (-divisor) else divisor) = divisor1
      show Exs _ _ _ ⟨[some (.fr (D.int top)), some (.fr (D.int bottom)), some (.fr (D.int divisor1))], []⟩ _
      have hd1 : 0 < divisor1 ∧ divisor1 ≤ bottom := by rw [← zg_divisor1, if_neg (by omega)]; exact ⟨hg1, hg2⟩
      show Exs _ _ _ ⟨[some (.fr (D.int top)), some (.fr (D.int bottom)), some (.fr (D.int divisor1))], []⟩ _
      refine exs_one (ex_ret (ev_tup (ds := [D.int (top / divisor1), D.int (bottom / divisor1)]) (ea_cons (ev_bin (o_divW (by walk_at "divw")) (ev_var 0 rfl (.inl rfl) rfl) (ev_var 2 rfl (.inl rfl) rfl)) (ea_cons (ev_bin (o_divW (by walk_at "divw")) (ev_var 1 rfl (.inl rfl) rfl) (ev_var 2 rfl (.inl rfl) rfl)) ea_nil)) (by simp only [List.length_cons, List.length_nil]; decide)) ?_)
      have efin : m_make_ratio top bottom = ((top / divisor1), (bottom / divisor1)) := by subst zg_divisor1; subst zg_divisor; simp only [m_make_ratio, not_true_eq_false, not_false_eq_true, ↓reduceIte, ↓if_neg zh1]
      rw [efin] at zk
      exact zk _
def m_add_ratios (first : Int × Int) (second : Int × Int) : Int × Int :=
  (m_make_ratio ((first.1 * second.2) + (second.1 * first.2)) (first.2 * second.2))
theorem sc_add_ratios : FnScope ["first", "second"] ["first", "second"] (defScope s_add_ratios) := ⟨rfl, rfl, rfl, by decide +kernel, rfl, by decide +kernel, by decide +kernel⟩
def sp_add_ratios : SpN := fun zcs zL zKc => ∃ first : Int × Int, ∃ second : Int × Int, zcs = [.fr ((eT2 D.int D.int) first), .fr ((eT2 D.int D.int) second)] ∧ zL = [] ∧ (-(2 ^ 440) < first.1 ∧ first.1 < 2 ^ 440 ∧ 0 < first.2 ∧ first.2 < 2 ^ 440 ∧ -(2 ^ 440) < second.1 ∧ second.1 < 2 ^ 440 ∧ 0 < second.2 ∧ second.2 < 2 ^ 440) ∧ ∀ zL', zKc (.fr ((eT2 D.int D.int) (m_add_ratios first second))) zL'
theorem ok_add_ratios (T : TX P K mg) : FnOk P w K mg base CX0 2 T.a_add_ratios T.d_add_ratios ["first", "second"] (SpOf K mg sp_add_ratios) := by
  have O_make_ratio := ok_make_ratio (P := P) (w := w) (base := base) T
  refine T.F_add_ratios.okN sc_add_ratios (fun zcs zL zKc zh => by obtain ⟨first, second, rfl, _⟩ := zh; rfl) fun zcdv zA zout zst zH zE zB zcs zL zKc zhr zh => ?_
  obtain ⟨first, second, rfl, rfl, hpre, zk⟩ := zh
  have nd := sc_add_ratios.nd
  have hSL := sizeLine_eq
  have hm1 := mul_abs (a := first.1) (b := second.2) (A := 2 ^ 440) (B := 2 ^ 440) (by omega) (by omega) (by omega) (by omega)
  have hm2 := mul_abs (a := second.1) (b := first.2) (A := 2 ^ 440) (B := 2 ^ 440) (by omega) (by omega) (by omega) (by omega)
  have hm3 := mul_abs (a := first.2) (b := second.2) (A := 2 ^ 440) (B := 2 ^ 440) (by omega) (by omega) (by omega) (by omega)
  have hm4 := Int.mul_pos (a := first.2) (b := second.2) (by omega) (by omega)
  show Exs _ _ _ ⟨[some (.fr ((eT2 D.int D.int) first)), some (.fr ((eT2 D.int D.int) second))], []⟩ _
  refine exs_one (ex_ret (ev_call (ds := [D.int ((first.1 * second.2) + (second.1 * first.2)), D.int (first.2 * second.2)]) (ds' := []) (dvs := []) (dfs := []) O_make_ratio (zhr.mono (by decide)) T.m_make_ratio T.k_make_ratio T.b_make_ratio .nil (fun _ => .nil) (ea_cons (ev_bin o_add (ev_bin (o_mulW (by walk_at "mulw")) (ev_ix (.t (d := D.int first.1) rfl) (ev_var 0 rfl (.inl rfl) rfl) ev_int) (ev_ix (.t (d := D.int second.2) rfl) (ev_var 1 rfl (.inl rfl) rfl) ev_int)) (ev_bin (o_mulW (by walk_at "mulw")) (ev_ix (.t (d := D.int second.1) rfl) (ev_var 1 rfl (.inl rfl) rfl) ev_int) (ev_ix (.t (d := D.int first.2) rfl) (ev_var 0 rfl (.inl rfl) rfl) ev_int))) (ea_cons (ev_bin (o_mulW (by walk_at "mulw")) (ev_ix (.t (d := D.int first.2) rfl) (ev_var 0 rfl (.inl rfl) rfl) ev_int) (ev_ix (.t (d := D.int second.2) rfl) (ev_var 1 rfl (.inl rfl) rfl) ev_int)) ea_nil)) (fun _ zkk => ⟨((first.1 * second.2) + (second.1 * first.2)), (first.2 * second.2), rfl, rfl, (by walk_at "pre"), zkk⟩) (by exact rfl)) ?_)
  have efin : m_add_ratios first second = (m_make_ratio ((first.1 * second.2) + (second.1 * first.2)) (first.2 * second.2)) := by simp only [m_add_ratios, not_true_eq_false, not_false_eq_true, ↓reduceIte]
  rw [efin] at zk
  exact zk _
def m_law_is_integer (actual : Int) : Bool :=
  (true && (!false))
theorem sc_law_is_integer : FnScope ["actual"] ["actual"] (defScope s_law_is_integer) := ⟨rfl, rfl, rfl, by decide +kernel, rfl, by decide +kernel, by decide +kernel⟩
def sp_law_is_integer : SpN := fun zcs zL zKc => ∃ actual : Int, zcs = [.fr (D.int actual)] ∧ zL = [] ∧ (True) ∧ ∀ zL', zKc (.fr (D.bl (m_law_is_integer actual))) zL'
theorem ok_law_is_integer (T : TX P K mg) : FnOk P w K mg base CX0 1 T.a_law_is_integer T.d_law_is_integer ["actual"] (SpOf K mg sp_law_is_integer) := by
  refine T.F_law_is_integer.okN sc_law_is_integer (fun zcs zL zKc zh => by obtain ⟨actual, rfl, _⟩ := zh; rfl) fun zcdv zA zout zst zH zE zB zcs zL zKc zhr zh => ?_
  obtain ⟨actual, rfl, rfl, hpre, zk⟩ := zh
  have nd := sc_law_is_integer.nd
  have hSL := sizeLine_eq
  show Exs _ _ _ ⟨[some (.fr (D.int actual))], []⟩ _
  refine exs_one (ex_ret (ev_andP Iff.rfl (ev_isi (T := "int") (b := true) (ev_var 0 rfl (.inl rfl) rfl) rfl (by decide) (by exact rfl) T.n_isinstance (by exact rfl) T.n_int (by decide +kernel)) (fun zhp => (ev_one (ev_not (ev_isi (T := "bool") (b := false) (ev_var 0 rfl (.inl rfl) rfl) rfl (by decide) (by exact rfl) T.n_isinstance (by exact rfl) T.n_bool (by decide +kernel)))))) ?_)
  have efin : m_law_is_integer actual = (true && (!false)) := by simp only [m_law_is_integer, not_true_eq_false, not_false_eq_true, ↓reduceIte]
  rw [efin] at zk
  exact zk _
def m_law_divisor_l0 (zs0 : Int × Int) (zy0 : Nat) : Except Int (Int × Int) :=
  if (zs0.2 = (0 : Int)) then .error zs0.1 else .ok (zs0.2, (zs0.1 % zs0.2))
def m_law_divisor (first : Int) (second : Int) : Int :=
  let first2 : Int := (if first < 0 then -first else first)
  let second2 : Int := (if second < 0 then -second else second)
  match (runE (m_law_divisor_l0) (List.range ((1000 : Int)).toNat) (first2, second2)) with | .error r => r | .ok zs0 => zs0.1
theorem euclid : ∀ (k x y : Nat) (ys : List Nat), y < 2 ^ k → 2 * k + 1 ≤ ys.length → runE m_law_divisor_l0 ys ((x : Int), (y : Int)) = .error ((Nat.gcd x y : Nat) : Int)
  | k, x, 0, ys, _, hl => by
    cases ys with
    | nil => simp at hl
    | cons z zs =>
      rw [runE_cons, Nat.gcd_zero_right]; rfl
  | 0, x, y + 1, ys, hy, _ => by simp at hy
  | k + 1, x, y + 1, ys, hy, hl => by
    have st : ∀ (a b : Nat) (z : Nat), b ≠ 0 → m_law_divisor_l0 ((a : Int), (b : Int)) z = .ok ((b : Int), ((a % b : Nat) : Int)) := fun a b z hb => by
      unfold m_law_divisor_l0
      rw [if_neg (by show ¬ (b : Int) = 0; omega), Int.natCast_emod]
    match ys, hl with
    | z :: [], hl => simp at hl
    | z :: z2 :: zs, hl =>
      rw [runE_cons, st x (y + 1) z (by omega)]
      show runE m_law_divisor_l0 (z2 :: zs) _ = _
      have hr := Nat.mod_lt x (show 0 < y + 1 by omega)
      have hg : Nat.gcd x (y + 1) = Nat.gcd (y + 1) (x % (y + 1)) := by rw [Nat.gcd_comm x, Nat.gcd_rec, Nat.gcd_comm]
      rw [hg]
      generalize x % (y + 1) = r at hr
      rw [runE_cons]
      by_cases h0 : r = 0
      · subst h0
        rw [Nat.gcd_zero_right]; rfl
      · rw [st (y + 1) r z2 h0]
        show runE m_law_divisor_l0 zs _ = _
        have hg2 : Nat.gcd (y + 1) r = Nat.gcd r ((y + 1) % r) := by rw [Nat.gcd_comm (y + 1), Nat.gcd_rec, Nat.gcd_comm]
        rw [hg2]
        refine euclid k r ((y + 1) % r) zs ?_ (by simp at hl; omega)
        have h1 := Nat.mod_lt (y + 1) (show 0 < r by omega)
        rw [Nat.pow_succ] at hy
        by_cases h2 : 2 * r ≤ y + 1
        · omega
        · have : (y + 1) % r = y + 1 - r := by rw [Nat.mod_eq_sub_mod (by omega), Nat.mod_eq_of_lt (by omega)]
          omega
theorem divisor_eq (a b : Int) (h1 : -(2 ^ 499) < b) (h2 : b < 2 ^ 499) : m_law_divisor a b = ((Nat.gcd a.natAbs b.natAbs : Nat) : Int) := by
  unfold m_law_divisor
  dsimp only
  have ea : (if a < 0 then -a else a) = (a.natAbs : Int) := by split <;> omega
  have eb : (if b < 0 then -b else b) = (b.natAbs : Int) := by split <;> omega
  rw [ea, eb, euclid 499 a.natAbs b.natAbs _ (by omega) (by rw [List.length_range]; decide)]
theorem divisor_bound (a b : Int) (h1 : 0 < b) (h2 : b < 2 ^ 499) : 0 < m_law_divisor a b ∧ m_law_divisor a b ≤ b := by
  rw [divisor_eq a b (by omega) h2]
  have hg := Nat.gcd_pos_of_pos_right a.natAbs (show 0 < b.natAbs by omega)
  have hle := Nat.gcd_le_right a.natAbs (show 0 < b.natAbs by omega)
  omega
theorem sc_law_divisor : FnScope ["first", "second", "k", "rest"] ["first", "second"] (defScope s_law_divisor) := ⟨rfl, rfl, rfl, by decide +kernel, rfl, by decide +kernel, by decide +kernel⟩
def sp_law_divisor : SpN := fun zcs zL zKc => ∃ first : Int, ∃ second : Int, zcs = [.fr (D.int first), .fr (D.int second)] ∧ zL = [] ∧ (True) ∧ ∀ zL', zKc (.fr (D.int (m_law_divisor first second))) zL'
theorem ok_law_divisor (T : TX P K mg) : FnOk P w K mg base CX0 1 T.a_law_divisor T.d_law_divisor ["first", "second"] (SpOf K mg sp_law_divisor) := by
  refine T.F_law_divisor.okN sc_law_divisor (fun zcs zL zKc zh => by obtain ⟨first, second, rfl, _⟩ := zh; rfl) fun zcdv zA zout zst zH zE zB zcs zL zKc zhr zh => ?_
  obtain ⟨first, second, rfl, rfl, hpre, zk⟩ := zh
  have nd := sc_law_divisor.nd
  have hSL := sizeLine_eq
  show Exs _ _ _ ⟨[some (.fr (D.int first)), some (.fr (D.int second)), none, none], []⟩ _
  refine exs_cons (ex_set 0 (ev_callB (ds := [D.int first]) c_abs (ea_cons (ev_var 0 rfl (.inl rfl) rfl) ea_nil) (by exact rfl) T.n_abs (by decide +kernel)) ?_ nd rfl (.inl rfl))
  show Exs _ _ _ ⟨[some (.fr (D.int (if first < 0 then -first else first))), some (.fr (D.int second)), none, none], []⟩ _
  generalize zg_first1 : (if first < 0 then -first else first) = first1
  show Exs _ _ _ ⟨[some (.fr (D.int first1)), some (.fr (D.int second)), none, none], []⟩ _
  refine exs_cons (ex_set 1 (ev_callB (ds := [D.int second]) c_abs (ea_cons (ev_var 1 rfl (.inl rfl) rfl) ea_nil) (by exact rfl) T.n_abs (by decide +kernel)) ?_ nd rfl (.inl rfl))
  show Exs _ _ _ ⟨[some (.fr (D.int first1)), some (.fr (D.int (if second < 0 then -second else second))), none, none], []⟩ _
  generalize zg_second1 : (if second < 0 then -second else second) = second1
  show Exs _ _ _ ⟨[some (.fr (D.int first1)), some (.fr (D.int second1)), none, none], []⟩ _
  refine exs_cons (ex_forE (enc := (fun i : Nat => D.int ((0 : Int) + (i : Int)))) (fun (zs0 : Int × Int) => (⟨[some (.fr (D.int zs0.1)), some (.fr (D.int zs0.2)), none, none], []⟩ : Nz.S)) (m_law_divisor_l0) (first1, second1) (fun (zi0 : Nat) (zs0 : Int × Int) => 0 ≤ zs0.1 ∧ 0 ≤ zs0.2) (fun r c S' => c = .fr (D.int r) ∧ True) (src_range1 (ea_cons ev_int ea_nil) (by exact rfl) T.n_range (by walk_at "sd") (by walk_at "sd")) ⟨⟨.inr rfl, .inr rfl, .inl rfl, .inl rfl, trivial⟩, rfl⟩ ⟨by subst zg_first1; dsimp only; split <;> omega, by subst zg_second1; dsimp only; split <;> omega⟩ ?_ ?_ ?_ PassesOwn.never rfl)
  · intro zi0 zy0 zs0 zhy0 zrun0 zq0
    skip
    refine ⟨⟨[some (.fr (D.int zs0.1)), some (.fr (D.int zs0.2)), some (.fr (D.int ((0 : Int) + (zy0 : Int)))), none], []⟩, (eg_name 2 nd rfl (.inl rfl)), ?_⟩
    refine exs_cons (ex_ifP bd_d (et_cmp o_eqi (ev_var 1 rfl (.inl rfl) rfl) ev_int (nomark _)) (fun (zh1 : (zs0.2 = (0 : Int))) => ?_) (fun (zh1 : ¬ (zs0.2 = (0 : Int))) => ?_))
    · skip
      refine exs_one (ex_ret (ev_var 0 rfl (.inl rfl) rfl) ?_)
      have est : (m_law_divisor_l0) zs0 zy0 = .error zs0.1 := by simp only [m_law_divisor_l0, not_true_eq_false, not_false_eq_true, ↓reduceIte, ↓if_pos zh1]
      exact ⟨_, est, rfl, trivial⟩
    · skip
      refine exs_nil ?_
      show Exs _ _ _ ⟨[some (.fr (D.int zs0.1)), some (.fr (D.int zs0.2)), some (.fr (D.int ((0 : Int) + (zy0 : Int)))), none], []⟩ _
      refine exs_cons (ex_set 3 (ev_bin (o_mod (by walk_at "sd")) (ev_var 0 rfl (.inl rfl) rfl) (ev_var 1 rfl (.inl rfl) rfl)) ?_ nd rfl (.inl rfl))
      show Exs _ _ _ ⟨[some (.fr (D.int zs0.1)), some (.fr (D.int zs0.2)), some (.fr (D.int ((0 : Int) + (zy0 : Int)))), some (.fr (D.int (zs0.1 % zs0.2)))], []⟩ _
      refine exs_cons (ex_set 0 (ev_var 1 rfl (.inl rfl) rfl) ?_ nd rfl (.inl rfl))
      show Exs _ _ _ ⟨[some (.fr (D.int zs0.2)), some (.fr (D.int zs0.2)), some (.fr (D.int ((0 : Int) + (zy0 : Int)))), some (.fr (D.int (zs0.1 % zs0.2)))], []⟩ _
      refine exs_one (ex_set 1 (ev_var 3 rfl (.inl rfl) rfl) ?_ nd rfl (.inl rfl))
      have est : (m_law_divisor_l0) zs0 zy0 = .ok (zs0.2, (zs0.1 % zs0.2)) := by simp only [m_law_divisor_l0, not_true_eq_false, not_false_eq_true, ↓reduceIte, ↓if_neg zh1]
      exact ⟨_, est, ⟨⟨.inr rfl, .inr rfl, .inl rfl, .inl rfl, trivial⟩, rfl⟩, ⟨by omega, Int.emod_nonneg _ (by omega)⟩⟩
  · rintro zr zc zS zrun0 ⟨rfl, zhL⟩
    skip
    have zh2 := zrun0
    have efin : m_law_divisor first second = zr := by subst zg_second1; subst zg_first1; simp only [m_law_divisor, not_true_eq_false, not_false_eq_true, ↓reduceIte, ↓zh2]
    rw [efin] at zk
    exact zk _
  · intro zs0 zrun0 zq0
    have zh3 := zrun0
    show Exs _ _ _ ⟨[some (.fr (D.int zs0.1)), some (.fr (D.int zs0.2)), none, none], []⟩ _
    refine exs_one (ex_ret (ev_var 0 rfl (.inl rfl) rfl) ?_)
    have efin : m_law_divisor first second = zs0.1 := by subst zg_second1; subst zg_first1; simp only [m_law_divisor, not_true_eq_false, not_false_eq_true, ↓reduceIte, ↓zh3]
    rw [efin] at zk
    exact zk _
def m_law_is_ratio (actual : Int × Int) : Bool :=
  if ((¬ (true = true)) ∨ (¬ ((2 : Int) = (2 : Int)))) then false else if ((¬ ((m_law_is_integer actual.1) = true)) ∨ (¬ ((m_law_is_integer actual.2) = true))) then false else ((decide ((1 : Int) ≤ actual.2)) && (decide ((m_law_divisor actual.1 actual.2) = (1 : Int))))
theorem sc_law_is_ratio : FnScope ["actual"] ["actual"] (defScope s_law_is_ratio) := ⟨rfl, rfl, rfl, by decide +kernel, rfl, by decide +kernel, by decide +kernel⟩
def sp_law_is_ratio : SpN := fun zcs zL zKc => ∃ actual : Int × Int, zcs = [.fr ((eT2 D.int D.int) actual)] ∧ zL = [] ∧ (True) ∧ ∀ zL', zKc (.fr (D.bl (m_law_is_ratio actual))) zL'
theorem ok_law_is_ratio (T : TX P K mg) : FnOk P w K mg base CX0 2 T.a_law_is_ratio T.d_law_is_ratio ["actual"] (SpOf K mg sp_law_is_ratio) := by
  have O_law_divisor := ok_law_divisor (P := P) (w := w) (base := base) T
  have O_law_is_integer := ok_law_is_integer (P := P) (w := w) (base := base) T
  refine T.F_law_is_ratio.okN sc_law_is_ratio (fun zcs zL zKc zh => by obtain ⟨actual, rfl, _⟩ := zh; rfl) fun zcdv zA zout zst zH zE zB zcs zL zKc zhr zh => ?_
  obtain ⟨actual, rfl, rfl, hpre, zk⟩ := zh
  have nd := sc_law_is_ratio.nd
  have hSL := sizeLine_eq
  show Exs _ _ _ ⟨[some (.fr ((eT2 D.int D.int) actual))], []⟩ _
  refine exs_cons (ex_ifP (bd_or (bd_not Iff.rfl) bd_n) (Ew.et (ew_orP (bd_not Iff.rfl) (et_not (et_val (ev_isi (T := "tuple") (b := true) (ev_var 0 rfl (.inl rfl) rfl) rfl (by decide) (by exact rfl) T.n_isinstance (by exact rfl) T.n_tuple (by decide +kernel)))) (fun zhp => (ew_or1 (et_cmp o_nei (ev_len .t (ev_var 0 rfl (.inl rfl) rfl) (by exact rfl) T.n_len) ev_int (nomark _)))))) (fun (zh1 : ((¬ (true = true)) ∨ (¬ ((2 : Int) = (2 : Int))))) => ?_) (fun (zh1 : ¬ ((¬ (true = true)) ∨ (¬ ((2 : Int) = (2 : Int))))) => ?_))
  · skip
    refine exs_one (ex_ret ev_bl ?_)
    have efin : m_law_is_ratio actual = false := by simp only [m_law_is_ratio, not_true_eq_false, not_false_eq_true, ↓reduceIte, ↓if_pos zh1]
    rw [efin] at zk
    exact zk _
  · skip
    refine exs_nil ?_
    show Exs _ _ _ ⟨[some (.fr ((eT2 D.int D.int) actual))], []⟩ _
    refine exs_cons (ex_ifP (bd_or (bd_not Iff.rfl) (bd_not Iff.rfl)) (Ew.et (ew_orP (bd_not Iff.rfl) (et_not (et_val (ev_call (ds := [D.int actual.1]) (ds' := []) (dvs := []) (dfs := []) O_law_is_integer (zhr.mono (by decide)) T.m_law_is_integer T.k_law_is_integer T.b_law_is_integer .nil (fun _ => .nil) (ea_cons (ev_ix (.t (d := D.int actual.1) rfl) (ev_var 0 rfl (.inl rfl) rfl) ev_int) ea_nil) (fun _ zkk => ⟨actual.1, rfl, rfl, trivial, zkk⟩) (by exact rfl)))) (fun zhp => (ew_or1 (et_not (et_val (ev_call (ds := [D.int actual.2]) (ds' := []) (dvs := []) (dfs := []) O_law_is_integer (zhr.mono (by decide)) T.m_law_is_integer T.k_law_is_integer T.b_law_is_integer .nil (fun _ => .nil) (ea_cons (ev_ix (.t (d := D.int actual.2) rfl) (ev_var 0 rfl (.inl rfl) rfl) ev_int) ea_nil) (fun _ zkk => ⟨actual.2, rfl, rfl, trivial, zkk⟩) (by exact rfl)))))))) (fun (zh2 : ((¬ ((m_law_is_integer actual.1) = true)) ∨ (¬ ((m_law_is_integer actual.2) = true)))) => ?_) (fun (zh2 : ¬ ((¬ ((m_law_is_integer actual.1) = true)) ∨ (¬ ((m_law_is_integer actual.2) = true)))) => ?_))
    · skip
      refine exs_one (ex_ret ev_bl ?_)
      have efin : m_law_is_ratio actual = false := by simp only [m_law_is_ratio, not_true_eq_false, not_false_eq_true, ↓reduceIte, ↓if_neg zh1, ↓if_pos zh2]
      rw [efin] at zk
      exact zk _
    · skip
      refine exs_nil ?_
      show Exs _ _ _ ⟨[some (.fr ((eT2 D.int D.int) actual))], []⟩ _
      refine exs_one (ex_ret (ev_andP bd_d (ev_cmp o_ge (ev_ix (.t (d := D.int actual.2) rfl) (ev_var 0 rfl (.inl rfl) rfl) ev_int) ev_int (nomark _)) (fun zhp => (ev_one (ev_cmp o_eqi (ev_call (ds := [D.int actual.1, D.int actual.2]) (ds' := []) (dvs := []) (dfs := []) O_law_divisor (zhr.mono (by decide)) T.m_law_divisor T.k_law_divisor T.b_law_divisor .nil (fun _ => .nil) (ea_cons (ev_ix (.t (d := D.int actual.1) rfl) (ev_var 0 rfl (.inl rfl) rfl) ev_int) (ea_cons (ev_ix (.t (d := D.int actual.2) rfl) (ev_var 0 rfl (.inl rfl) rfl) ev_int) ea_nil)) (fun _ zkk => ⟨actual.1, actual.2, rfl, rfl, trivial, zkk⟩) (by exact rfl)) ev_int (nomark _))))) ?_)
      have efin : m_law_is_ratio actual = ((decide ((1 : Int) ≤ actual.2)) && (decide ((m_law_divisor actual.1 actual.2) = (1 : Int)))) := by simp only [m_law_is_ratio, not_true_eq_false, not_false_eq_true, ↓reduceIte, ↓if_neg zh1, ↓if_neg zh2]
      rw [efin] at zk
      exact zk _
def m_law_row_l0 (cell : Int) (zs0 : (List Int) × Int) (zy0 : Nat) : (List Int) × Int :=
  if (((10 : Int) ^ ((18 : Int)).toNat) ≤ (if cell < 0 then -cell else cell)) then ((zs0.1 ++ [(zs0.2 % (1009 : Int))]), (zs0.2 / (1009 : Int))) else let mixed : Int := (((zs0.2 * (48271 : Int)) + ((((0 : Int) + (zy0 : Int)) + (1 : Int)) * (69621 : Int))) % (2147483647 : Int))
  let mixed : Int := (((mixed * (16807 : Int)) + ((271 : Int) * (((0 : Int) + (zy0 : Int)) + (3 : Int)))) % (2147483629 : Int))
  ((zs0.1 ++ [(mixed % (1009 : Int))]), zs0.2)
def m_law_row (cell : Int) (many : Int) : List Int :=
  let rest1 : Int := (if cell < 0 then -cell else cell)
  ((List.range (many).toNat).foldl (m_law_row_l0 cell) (([] : List Int), rest1)).1
theorem len_row (cell many : Int) : (m_law_row cell many).length = many.toNat := by
  have key : ∀ (n : Nat) (xs : List Nat) (s : List Int × Int), ((xs.foldl (m_law_row_l0 cell) s).1).length = s.1.length + xs.length := by
    intro _ xs
    induction xs with
    | nil => intro s; rfl
    | cons x r ih =>
      intro s
      rw [List.foldl_cons, ih]
      have : ((m_law_row_l0 cell s x).1).length = s.1.length + 1 := by
        unfold m_law_row_l0
        split <;> split <;> simp
      rw [this, List.length_cons]; omega
  have := key 0 (List.range (many).toNat) (([] : List Int), (if cell < 0 then -cell else cell))
  unfold m_law_row
  simpa using this
theorem mem_row (cell many : Int) : ∀ x ∈ m_law_row cell many, 0 ≤ x ∧ x ≤ 1008 := by
  have key : ∀ (xs : List Nat) (s : List Int × Int), (∀ x ∈ s.1, 0 ≤ x ∧ x ≤ 1008) → ∀ x ∈ ((xs.foldl (m_law_row_l0 cell) s).1), 0 ≤ x ∧ x ≤ 1008 := by
    intro xs
    induction xs with
    | nil => intro s h; exact h
    | cons y r ih =>
      intro s h
      rw [List.foldl_cons]
      refine ih _ ?_
      have app : ∀ (v : Int), 0 ≤ v ∧ v ≤ 1008 → ∀ x ∈ s.1 ++ [v], 0 ≤ x ∧ x ≤ 1008 := fun v hv x hx => by
        rcases List.mem_append.mp hx with hx | hx
        · exact h x hx
        · rw [List.mem_singleton.mp hx]; exact hv
      unfold m_law_row_l0
      split <;> split <;> exact app _ (by omega)
  unfold m_law_row
  exact key _ _ (fun x hx => absurd hx (by simp))
theorem sc_law_row : FnScope ["cell", "many", "row", "rest", "k", "mixed"] ["cell", "many"] (defScope s_law_row) := ⟨rfl, rfl, rfl, by decide +kernel, rfl, by decide +kernel, by decide +kernel⟩
def sp_law_row : SpN := fun zcs zL zKc => ∃ cell : Int, ∃ many : Int, zcs = [.fr (D.int cell), .fr (D.int many)] ∧ zL = [] ∧ (0 ≤ many ∧ many ≤ 1001) ∧ ∀ zL', zKc (.fr ((eL D.int) (m_law_row cell many))) zL'
theorem ok_law_row (T : TX P K mg) : FnOk P w K mg base CX0 1 T.a_law_row T.d_law_row ["cell", "many"] (SpOf K mg sp_law_row) := by
  refine T.F_law_row.okN sc_law_row (fun zcs zL zKc zh => by obtain ⟨cell, many, rfl, _⟩ := zh; rfl) fun zcdv zA zout zst zH zE zB zcs zL zKc zhr zh => ?_
  obtain ⟨cell, many, rfl, rfl, hpre, zk⟩ := zh
  have nd := sc_law_row.nd
  have hSL := sizeLine_eq
  show Exs _ _ _ ⟨[some (.fr (D.int cell)), some (.fr (D.int many)), none, none, none, none], []⟩ _
  refine exs_cons (ex_set 2 (ev_lstN 100 (enc := D.int) ([] : List Int) ea_nil rfl (by simp only [List.length_cons, List.length_nil]; decide) (by simp [names]) (by decide)) ?_ nd rfl (.inl rfl))
  show Exs _ _ _ ⟨[some (.fr (D.int cell)), some (.fr (D.int many)), some (.ad 100), none, none, none], [(100, .fl ((([] : List Int)).map D.int))]⟩ _
  refine exs_cons (ex_set 3 (ev_callB (ds := [D.int cell]) c_abs (ea_cons (ev_var 0 rfl (.inl rfl) rfl) ea_nil) (by exact rfl) T.n_abs (by decide +kernel)) ?_ nd rfl (.inl rfl))
  show Exs _ _ _ ⟨[some (.fr (D.int cell)), some (.fr (D.int many)), some (.ad 100), some (.fr (D.int (if cell < 0 then -cell else cell))), none, none], [(100, .fl ((([] : List Int)).map D.int))]⟩ _
  generalize zg_rest : (if cell < 0 then -cell else cell) = rest
  show Exs _ _ _ ⟨[some (.fr (D.int cell)), some (.fr (D.int many)), some (.ad 100), some (.fr (D.int rest)), none, none], [(100, .fl ((([] : List Int)).map D.int))]⟩ _
  refine exs_cons (ex_forF (enc := (fun i : Nat => D.int ((0 : Int) + (i : Int)))) (fun (zs0 : (List Int) × Int) => (⟨[some (.fr (D.int cell)), some (.fr (D.int many)), some (.ad 100), some (.fr (D.int zs0.2)), none, none], [(100, .fl ((zs0.1).map D.int))]⟩ : Nz.S)) (m_law_row_l0 cell) (([] : List Int), rest) (fun (zi0 : Nat) (zs0 : (List Int) × Int) => zs0.1.length ≤ zi0) (src_range1 (ea_cons (ev_var 1 rfl (.inl rfl) rfl) ea_nil) (by exact rfl) T.n_range (by walk_at "sd") (by walk_at "sd")) ⟨⟨.inr rfl, .inr rfl, .inr rfl, .inr rfl, .inl rfl, .inl rfl, trivial⟩, rfl⟩ (by simp) ?_ ?_ PassesOwn.never rfl)
  · intro zi0 zy0 zs0 zhy0 zq0
    skip
    have hi := (List.getElem?_eq_some_iff.mp zhy0).1
    simp only [List.length_range] at hi
    refine ⟨⟨[some (.fr (D.int cell)), some (.fr (D.int many)), some (.ad 100), some (.fr (D.int zs0.2)), some (.fr (D.int ((0 : Int) + (zy0 : Int)))), none], [(100, .fl ((zs0.1).map D.int))]⟩, (eg_name 4 nd rfl (.inl rfl)), ?_⟩
    refine exs_one (ex_ifP bd_d (et_cmp o_ge (ev_callB (ds := [D.int cell]) c_abs (ea_cons (ev_var 0 rfl (.inl rfl) rfl) ea_nil) (by exact rfl) T.n_abs (by decide +kernel)) (ev_bin (o_pow (by unfold CPow; decide)) ev_int ev_int) (nomark _)) (fun (zh1 : (((10 : Int) ^ ((18 : Int)).toNat) ≤ (if cell < 0 then -cell else cell))) => ?_) (fun (zh1 : ¬ (((10 : Int) ^ ((18 : Int)).toNat) ≤ (if cell < 0 then -cell else cell))) => ?_))
    · skip
      refine exs_cons (ex_expr (ev_appendT (n := 100) (enc := D.int) (xs := zs0.1) (xs0 := zs0.1) (zs0.2 % (1009 : Int)) rfl rfl rfl (by walk_at "sd") (ev_var 2 rfl (.inl rfl) rfl) (ev_bin (o_mod (by walk_at "sd")) (ev_var 3 rfl (.inl rfl) rfl) ev_int)) ?_)
      show Exs _ _ _ ⟨[some (.fr (D.int cell)), some (.fr (D.int many)), some (.ad 100), some (.fr (D.int zs0.2)), some (.fr (D.int ((0 : Int) + (zy0 : Int)))), none], [(100, .fl (((zs0.1 ++ [(zs0.2 % (1009 : Int))])).map D.int))]⟩ _
      refine exs_one (ex_set 3 (ev_bin (o_div (by walk_at "sd") (by walk_at "sd")) (ev_var 3 rfl (.inl rfl) rfl) ev_int) ?_ nd rfl (.inl rfl))
      have est : (m_law_row_l0 cell) zs0 zy0 = ((zs0.1 ++ [(zs0.2 % (1009 : Int))]), (zs0.2 / (1009 : Int))) := by simp only [m_law_row_l0, not_true_eq_false, not_false_eq_true, ↓reduceIte, ↓if_pos zh1]
      show Le _ _ ∧ _
      try rw [est]
      exact ⟨⟨⟨.inr rfl, .inr rfl, .inr rfl, .inr rfl, .inl rfl, .inl rfl, trivial⟩, rfl⟩, (by simp; omega)⟩
    · skip
      refine exs_cons (ex_set 5 (ev_bin (o_mod (by walk_at "sd")) (ev_bin o_add (ev_bin (o_mul (by walk_at "mul")) (ev_var 3 rfl (.inl rfl) rfl) ev_int) (ev_bin (o_mul (by walk_at "mul")) (ev_bin o_add (ev_var 4 rfl (.inl rfl) rfl) ev_int) ev_int)) ev_int) ?_ nd rfl (.inl rfl))
      show Exs _ _ _ ⟨[some (.fr (D.int cell)), some (.fr (D.int many)), some (.ad 100), some (.fr (D.int zs0.2)), some (.fr (D.int ((0 : Int) + (zy0 : Int)))), some (.fr (D.int (((zs0.2 * (48271 : Int)) + ((((0 : Int) + (zy0 : Int)) + (1 : Int)) * (69621 : Int))) % (2147483647 : Int))))], [(100, .fl ((zs0.1).map D.int))]⟩ _
      generalize zg_mixed : (((zs0.2 * (48271 : Int)) + ((((0 : Int) + (zy0 : Int)) + (1 : Int)) * (69621 : Int))) % (2147483647 : Int)) = mixed
      show Exs _ _ _ ⟨[some (.fr (D.int cell)), some (.fr (D.int many)), some (.ad 100), some (.fr (D.int zs0.2)), some (.fr (D.int ((0 : Int) + (zy0 : Int)))), some (.fr (D.int mixed))], [(100, .fl ((zs0.1).map D.int))]⟩ _
      refine exs_cons (ex_set 5 (ev_bin (o_mod (by walk_at "sd")) (ev_bin o_add (ev_bin (o_mul (by walk_at "mul")) (ev_var 5 rfl (.inl rfl) rfl) ev_int) (ev_bin (o_mul (by walk_at "mul")) ev_int (ev_bin o_add (ev_var 4 rfl (.inl rfl) rfl) ev_int))) ev_int) ?_ nd rfl (.inl rfl))
      show Exs _ _ _ ⟨[some (.fr (D.int cell)), some (.fr (D.int many)), some (.ad 100), some (.fr (D.int zs0.2)), some (.fr (D.int ((0 : Int) + (zy0 : Int)))), some (.fr (D.int (((mixed * (16807 : Int)) + ((271 : Int) * (((0 : Int) + (zy0 : Int)) + (3 : Int)))) % (2147483629 : Int))))], [(100, .fl ((zs0.1).map D.int))]⟩ _
      generalize zg_mixed1 : (((mixed * (16807 : Int)) + ((271 : Int) * (((0 : Int) + (zy0 : Int)) + (3 : Int)))) % (2147483629 : Int)) = mixed1
      show Exs _ _ _ ⟨[some (.fr (D.int cell)), some (.fr (D.int many)), some (.ad 100), some (.fr (D.int zs0.2)), some (.fr (D.int ((0 : Int) + (zy0 : Int)))), some (.fr (D.int mixed1))], [(100, .fl ((zs0.1).map D.int))]⟩ _
      refine exs_one (ex_expr (ev_appendT (n := 100) (enc := D.int) (xs := zs0.1) (xs0 := zs0.1) (mixed1 % (1009 : Int)) rfl rfl rfl (by walk_at "sd") (ev_var 2 rfl (.inl rfl) rfl) (ev_bin (o_mod (by walk_at "sd")) (ev_var 5 rfl (.inl rfl) rfl) ev_int)) ?_)
      have est : (m_law_row_l0 cell) zs0 zy0 = ((zs0.1 ++ [(mixed1 % (1009 : Int))]), zs0.2) := by subst zg_mixed1; subst zg_mixed; simp only [m_law_row_l0, not_true_eq_false, not_false_eq_true, ↓reduceIte, ↓if_neg zh1]
      show Le _ _ ∧ _
      try rw [est]
      exact ⟨⟨⟨.inr rfl, .inr rfl, .inr rfl, .inr rfl, .inl rfl, .inl rfl, trivial⟩, rfl⟩, (by simp; omega)⟩
  · intro zq0
    show Exs _ _ _ ⟨[some (.fr (D.int cell)), some (.fr (D.int many)), some (.ad 100), some (.fr (D.int (((List.range (many).toNat).foldl (m_law_row_l0 cell) (([] : List Int), rest)).2))), none, none], [(100, .fl ((((List.range (many).toNat).foldl (m_law_row_l0 cell) (([] : List Int), rest)).1).map D.int))]⟩ _
    refine exs_freezeT 100 (xs := ((List.range (many).toNat).foldl (m_law_row_l0 cell) (([] : List Int), rest)).1) (enc := D.int) (by exact rfl) ?_
    show Exs _ _ _ ⟨[some (.fr (D.int cell)), some (.fr (D.int many)), some (.fr ((eL D.int) (((List.range (many).toNat).foldl (m_law_row_l0 cell) (([] : List Int), rest)).1))), some (.fr (D.int (((List.range (many).toNat).foldl (m_law_row_l0 cell) (([] : List Int), rest)).2))), none, none], []⟩ _
    refine exs_one (ex_ret (ev_var 2 rfl (.inl rfl) rfl) ?_)
    have efin : m_law_row cell many = ((List.range (many).toNat).foldl (m_law_row_l0 cell) (([] : List Int), rest)).1 := by subst zg_rest; simp only [m_law_row, not_true_eq_false, not_false_eq_true, ↓reduceIte]
    rw [efin] at zk
    exact zk _
def m_law_numbers_l1 (zs1 : (List Int)) (zy1 : Int) : (List Int) :=
  (zs1 ++ [zy1])
def m_law_numbers_l0 (each : Int) (zs0 : (List Int)) (zy0 : Int) : (List Int) :=
  ((m_law_row zy0 each).foldl (m_law_numbers_l1) zs0)
def m_law_numbers_c2 (many : Int) (zs0 : (List Int)) : Bool := (decide ((zs0.length : Int) < many))
def m_law_numbers_w2 (many : Int) (zs0 : (List Int)) : (List Int) :=
  (zs0 ++ [(0 : Int)])
def m_law_numbers (script : List Int) (many : Int) : List Int :=
  let cells1 : List Int := (slcD script none (some (63 : Int)))
  let each1 : Int := ((1 : Int) + (many / (if (cells1.length : Int) > (1 : Int) then (cells1.length : Int) else (1 : Int))))
  (slcD (iterW (m_law_numbers_c2 many) (m_law_numbers_w2 many) ((many).toNat) (cells1.foldl (m_law_numbers_l0 each1) ([] : List Int))) none (some many))
theorem cut63_len (xs : List Int) : (slcD xs none (some (63 : Int))).length ≤ 63 := by
  unfold slcD
  rw [List.length_take, HT.sIx_none, show (63 : Int) = ((63 : Nat) : Int) from rfl, HT.sIx_nat]
  omega
theorem fold_app (xs s : List Int) : xs.foldl m_law_numbers_l1 s = s ++ xs := by
  induction xs generalizing s with
  | nil => simp
  | cons x r ih => rw [List.foldl_cons, ih]; unfold m_law_numbers_l1; simp
theorem fill_eq (many : Int) : ∀ (n : Nat) (s : List Int), (many - (s.length : Int)).toNat ≤ n → iterW (m_law_numbers_c2 many) (m_law_numbers_w2 many) n s = s ++ List.replicate (many - (s.length : Int)).toNat 0
  | 0, s, h => by
    have e : (many - (s.length : Int)).toNat = 0 := by omega
    rw [e]; simp [iterW]
  | n + 1, s, h => by
    unfold iterW
    by_cases hc : (s.length : Int) < many
    · have e : (many - (s.length : Int)).toNat = (many - ((s ++ [(0 : Int)]).length : Int)).toNat + 1 := by
        simp only [List.length_append, List.length_cons, List.length_nil]; omega
      rw [if_pos (by simpa [m_law_numbers_c2] using hc)]
      show iterW _ _ n (s ++ [(0 : Int)]) = _
      rw [fill_eq many n _ (by simp only [List.length_append, List.length_cons, List.length_nil] at e ⊢; omega), e, List.replicate_succ, List.append_assoc]
      rfl
    · have e : (many - (s.length : Int)).toNat = 0 := by omega
      rw [if_neg (by simpa [m_law_numbers_c2] using hc), e]; simp
theorem numbers_facts (script : List Int) (many : Int) (h0 : 0 ≤ many) : (m_law_numbers script many).length = many.toNat ∧ ∀ x ∈ m_law_numbers script many, 0 ≤ x ∧ x ≤ 1008 := by
  have key : ∀ (each : Int) (xs s : List Int), (∀ x ∈ s, 0 ≤ x ∧ x ≤ 1008) → ∀ x ∈ xs.foldl (m_law_numbers_l0 each) s, 0 ≤ x ∧ x ≤ 1008 := by
    intro each xs
    induction xs with
    | nil => intro s h; exact h
    | cons y r ih =>
      intro s h
      rw [List.foldl_cons]
      refine ih _ fun x hx => ?_
      unfold m_law_numbers_l0 at hx
      rw [fold_app] at hx
      rcases List.mem_append.mp hx with hx | hx
      · exact h x hx
      · exact mem_row _ _ x hx
  unfold m_law_numbers
  dsimp only
  generalize hS : (slcD script none (some (63 : Int))).foldl _ _ = S
  have hm : ∀ x ∈ S, 0 ≤ x ∧ x ≤ 1008 := by rw [← hS]; exact key _ _ _ (fun x hx => absurd hx (by simp))
  rw [fill_eq many _ S (by omega)]
  unfold slcD
  rw [HT.sIx_none, List.drop_zero]
  have hl : (S ++ List.replicate (many - (S.length : Int)).toNat (0 : Int)).length = S.length + (many - (S.length : Int)).toNat := by simp
  have e1 : HT.sIx (S ++ List.replicate (many - (S.length : Int)).toNat (0 : Int)).length (S ++ List.replicate (many - (S.length : Int)).toNat (0 : Int)).length (some many) = many.toNat := by
    obtain ⟨n, rfl⟩ := Int.eq_ofNat_of_zero_le h0
    rw [HT.sIx_nat, hl]
    omega
  rw [e1]
  refine ⟨by rw [List.length_take, hl]; omega, fun x hx => ?_⟩
  have hx := List.mem_of_mem_take hx
  rcases List.mem_append.mp hx with hx | hx
  · exact hm x hx
  · rw [(List.mem_replicate.mp hx).2]; omega
theorem getD_bound {xs : List Int} (h : ∀ x ∈ xs, 0 ≤ x ∧ x ≤ 1008) (i : Nat) : 0 ≤ xs.getD i default ∧ xs.getD i default ≤ 1008 := by
  rw [List.getD_eq_getElem?_getD]
  cases e : xs[i]? with
  | none => exact ⟨Int.le_refl _, by decide⟩
  | some v => exact h v (List.mem_of_getElem? e)
theorem sc_law_numbers : FnScope ["script", "many", "cells", "each", "numbers", "cell", "number"] ["script", "many"] (defScope s_law_numbers) := ⟨rfl, rfl, rfl, by decide +kernel, rfl, by decide +kernel, by decide +kernel⟩
def sp_law_numbers : SpN := fun zcs zL zKc => ∃ script : List Int, ∃ many : Int, zcs = [.fr ((eL D.int) script), .fr (D.int many)] ∧ zL = [] ∧ (script.length ≤ 63 ∧ 0 ≤ many ∧ many ≤ 1000) ∧ ∀ zL', zKc (.fr ((eL D.int) (m_law_numbers script many))) zL'
theorem ok_law_numbers (T : TX P K mg) : FnOk P w K mg base CX0 2 T.a_law_numbers T.d_law_numbers ["script", "many"] (SpOf K mg sp_law_numbers) := by
  have O_law_row := ok_law_row (P := P) (w := w) (base := base) T
  refine T.F_law_numbers.okN sc_law_numbers (fun zcs zL zKc zh => by obtain ⟨script, many, rfl, _⟩ := zh; rfl) fun zcdv zA zout zst zH zE zB zcs zL zKc zhr zh => ?_
  obtain ⟨script, many, rfl, rfl, hpre, zk⟩ := zh
  have nd := sc_law_numbers.nd
  have hSL := sizeLine_eq
  show Exs _ _ _ ⟨[some (.fr ((eL D.int) script)), some (.fr (D.int many)), none, none, none, none, none], []⟩ _
  refine exs_cons (ex_set 2 (ev_sliceT (enc := D.int) (xs := script) (by exact rfl) (ev_var 0 rfl (.inl rfl) rfl) eo_none (eo_some ev_int)) ?_ nd rfl (.inl rfl))
  show Exs _ _ _ ⟨[some (.fr ((eL D.int) script)), some (.fr (D.int many)), some (.fr ((eL D.int) (slcD script none (some (63 : Int))))), none, none, none, none], []⟩ _
  generalize zg_cells : (slcD script none (some (63 : Int))) = cells
  show Exs _ _ _ ⟨[some (.fr ((eL D.int) script)), some (.fr (D.int many)), some (.fr ((eL D.int) cells)), none, none, none, none], []⟩ _
  have hcl : cells.length ≤ 63 := by rw [← zg_cells]; exact cut63_len script
  refine exs_cons (ex_set 3 (ev_bin o_add ev_int (ev_bin (o_div (by walk_at "sd") (by walk_at "sd")) (ev_var 1 rfl (.inl rfl) rfl) (ev_callB (ds := [D.int (1 : Int), D.int (cells.length : Int)]) (c_max2 rfl) (ea_cons ev_int (ea_cons (ev_len (ln_L (xs := cells) (enc := D.int) (by exact rfl)) (ev_var 2 rfl (.inl rfl) rfl) (by exact rfl) T.n_len) ea_nil)) (by exact rfl) T.n_max (by decide +kernel)))) ?_ nd rfl (.inl rfl))
  show Exs _ _ _ ⟨[some (.fr ((eL D.int) script)), some (.fr (D.int many)), some (.fr ((eL D.int) cells)), some (.fr (D.int ((1 : Int) + (many / (if (cells.length : Int) > (1 : Int) then (cells.length : Int) else (1 : Int)))))), none, none, none], []⟩ _
  generalize zg_each : ((1 : Int) + (many / (if (cells.length : Int) > (1 : Int) then (cells.length : Int) else (1 : Int)))) = each
  show Exs _ _ _ ⟨[some (.fr ((eL D.int) script)), some (.fr (D.int many)), some (.fr ((eL D.int) cells)), some (.fr (D.int each)), none, none, none], []⟩ _
  have heach : 1 ≤ each ∧ each ≤ 1001 := by rw [← zg_each]; split <;> (constructor <;> first | omega | (have := Int.ediv_le_self (cells.length : Int) hpre.2.1; have := Int.ediv_nonneg hpre.2.1 (show (0:Int) ≤ (cells.length : Int) by omega); omega))
  refine exs_cons (ex_set 4 (ev_lstN 100 (enc := D.int) ([] : List Int) ea_nil rfl (by simp only [List.length_cons, List.length_nil]; decide) (by simp [names]) (by decide)) ?_ nd rfl (.inl rfl))
  show Exs _ _ _ ⟨[some (.fr ((eL D.int) script)), some (.fr (D.int many)), some (.fr ((eL D.int) cells)), some (.fr (D.int each)), some (.ad 100), none, none], [(100, .fl ((([] : List Int)).map D.int))]⟩ _
  refine exs_cons (ex_forF (enc := D.int) (fun (zs0 : (List Int)) => (⟨[some (.fr ((eL D.int) script)), some (.fr (D.int many)), some (.fr ((eL D.int) cells)), some (.fr (D.int each)), some (.ad 100), none, none], [(100, .fl ((zs0).map D.int))]⟩ : Nz.S)) (m_law_numbers_l0 each) ([] : List Int) (fun (zi0 : Nat) (zs0 : (List Int)) => zs0.length ≤ 1001 * zi0) (src_listT (ev_var 2 rfl (.inl rfl) rfl)) ⟨⟨.inr rfl, .inr rfl, .inr rfl, .inr rfl, .inr rfl, .inl rfl, .inl rfl, trivial⟩, rfl⟩ (by simp) ?_ ?_ PassesOwn.never rfl)
  · intro zi0 zy0 zs0 zhy0 zq0
    skip
    have hi := (List.getElem?_eq_some_iff.mp zhy0).1
    have hrl := len_row zy0 each
    refine ⟨⟨[some (.fr ((eL D.int) script)), some (.fr (D.int many)), some (.fr ((eL D.int) cells)), some (.fr (D.int each)), some (.ad 100), some (.fr (D.int zy0)), none], [(100, .fl ((zs0).map D.int))]⟩, (eg_name 5 nd rfl (.inl rfl)), ?_⟩
    refine exs_one (ex_forF (enc := D.int) (fun (zs1 : (List Int)) => (⟨[some (.fr ((eL D.int) script)), some (.fr (D.int many)), some (.fr ((eL D.int) cells)), some (.fr (D.int each)), some (.ad 100), some (.fr (D.int zy0)), none], [(100, .fl ((zs1).map D.int))]⟩ : Nz.S)) (m_law_numbers_l1) zs0 (fun (zi1 : Nat) (zs1 : (List Int)) => zs1.length ≤ 1001 * zi0 + zi1) (src_listT (ev_call (ds := [D.int zy0, D.int each]) (ds' := []) (dvs := []) (dfs := []) O_law_row (zhr.mono (by decide)) T.m_law_row T.k_law_row T.b_law_row .nil (fun _ => .nil) (ea_cons (ev_var 5 rfl (.inl rfl) rfl) (ea_cons (ev_var 3 rfl (.inl rfl) rfl) ea_nil)) (fun _ zkk => ⟨zy0, each, rfl, rfl, (by walk_at "pre"), zkk⟩) (by exact rfl))) ⟨⟨.inr rfl, .inr rfl, .inr rfl, .inr rfl, .inr rfl, .inr rfl, .inl rfl, trivial⟩, rfl⟩ (by omega) ?_ ?_ PassesOwn.never rfl)
    · intro zi1 zy1 zs1 zhy1 zq1
      skip
      have hi1 := (List.getElem?_eq_some_iff.mp zhy1).1
      refine ⟨⟨[some (.fr ((eL D.int) script)), some (.fr (D.int many)), some (.fr ((eL D.int) cells)), some (.fr (D.int each)), some (.ad 100), some (.fr (D.int zy0)), some (.fr (D.int zy1))], [(100, .fl ((zs1).map D.int))]⟩, (eg_name 6 nd rfl (.inl rfl)), ?_⟩
      refine exs_one (ex_expr (ev_appendT (n := 100) (enc := D.int) (xs := zs1) (xs0 := zs1) zy1 rfl rfl rfl (by walk_at "sd") (ev_var 4 rfl (.inl rfl) rfl) (ev_var 6 rfl (.inl rfl) rfl)) ?_)
      have est : (m_law_numbers_l1) zs1 zy1 = (zs1 ++ [zy1]) := by simp only [m_law_numbers_l1, not_true_eq_false, not_false_eq_true, ↓reduceIte]
      show Le _ _ ∧ _
      try rw [est]
      exact ⟨⟨⟨.inr rfl, .inr rfl, .inr rfl, .inr rfl, .inr rfl, .inr rfl, .inl rfl, trivial⟩, rfl⟩, (by simp; omega)⟩
    · intro zq1
      have est : (m_law_numbers_l0 each) zs0 zy0 = ((m_law_row zy0 each).foldl (m_law_numbers_l1) zs0) := by simp only [m_law_numbers_l0, not_true_eq_false, not_false_eq_true, ↓reduceIte]
      show Le _ _ ∧ _
      try rw [est]
      exact ⟨⟨⟨.inr rfl, .inr rfl, .inr rfl, .inr rfl, .inr rfl, .inl rfl, .inl rfl, trivial⟩, rfl⟩, (by omega)⟩
  · intro zq0
    show Exs _ _ _ ⟨[some (.fr ((eL D.int) script)), some (.fr (D.int many)), some (.fr ((eL D.int) cells)), some (.fr (D.int each)), some (.ad 100), none, none], [(100, .fl (((cells.foldl (m_law_numbers_l0 each) ([] : List Int))).map D.int))]⟩ _
    refine exs_cons (ex_whileF (fun (zs0 : (List Int)) => (⟨[some (.fr ((eL D.int) script)), some (.fr (D.int many)), some (.fr ((eL D.int) cells)), some (.fr (D.int each)), some (.ad 100), none, none], [(100, .fl ((zs0).map D.int))]⟩ : Nz.S)) (m_law_numbers_c2 many) (m_law_numbers_w2 many) (cells.foldl (m_law_numbers_l0 each) ([] : List Int)) ((many).toNat) (fun (zs0 : (List Int)) => zs0.length ≤ 100000) (fun (zs0 : (List Int)) => (many - (zs0.length : Int)).toNat) ⟨⟨.inr rfl, .inr rfl, .inr rfl, .inr rfl, .inr rfl, .inl rfl, .inl rfl, trivial⟩, rfl⟩ (by omega) (by walk_at "sd") ?_ ?_ ?_ ?_ PassesOwn.never)
    · intro zs0 zq0 zhc0
      simp only [m_law_numbers_c2, decide_eq_true_eq] at zhc0
      simp only [m_law_numbers_w2, List.length_append, List.length_cons, List.length_nil]
      exact ⟨by omega, by omega⟩
    · intro zs0 zq0
      exact (et_cmp o_lt (ev_len (ln_L (xs := zs0) (enc := D.int) (by exact rfl)) (ev_var 4 rfl (.inl rfl) rfl) (by exact rfl) T.n_len) (ev_var 1 rfl (.inl rfl) rfl) (nomark _))
    · intro zs0 zq0 zhc0
      simp only [m_law_numbers_c2, decide_eq_true_eq] at zhc0
      show Exs _ _ _ ⟨[some (.fr ((eL D.int) script)), some (.fr (D.int many)), some (.fr ((eL D.int) cells)), some (.fr (D.int each)), some (.ad 100), none, none], [(100, .fl ((zs0).map D.int))]⟩ _
      refine exs_one (ex_expr (ev_appendT (n := 100) (enc := D.int) (xs := zs0) (xs0 := zs0) (0 : Int) rfl rfl rfl (by walk_at "sd") (ev_var 4 rfl (.inl rfl) rfl) ev_int) ?_)
      have est : (m_law_numbers_w2 many) zs0 = (zs0 ++ [(0 : Int)]) := by simp only [m_law_numbers_w2, ↓reduceIte]
      show Le _ _ ∧ _
      rw [est]
      exact ⟨⟨⟨.inr rfl, .inr rfl, .inr rfl, .inr rfl, .inr rfl, .inl rfl, .inl rfl, trivial⟩, rfl⟩, trivial⟩
    · intro zq0 zhc0
      show Exs _ _ _ ⟨[some (.fr ((eL D.int) script)), some (.fr (D.int many)), some (.fr ((eL D.int) cells)), some (.fr (D.int each)), some (.ad 100), none, none], [(100, .fl (((iterW (m_law_numbers_c2 many) (m_law_numbers_w2 many) ((many).toNat) (cells.foldl (m_law_numbers_l0 each) ([] : List Int)))).map D.int))]⟩ _
      refine exs_one (ex_ret (ev_sliceT (enc := D.int) (xs := (iterW (m_law_numbers_c2 many) (m_law_numbers_w2 many) ((many).toNat) (cells.foldl (m_law_numbers_l0 each) ([] : List Int)))) (by exact rfl) (ev_var 4 rfl (.inl rfl) rfl) eo_none (eo_some (ev_var 1 rfl (.inl rfl) rfl))) ?_)
      have efin : m_law_numbers script many = (slcD (iterW (m_law_numbers_c2 many) (m_law_numbers_w2 many) ((many).toNat) (cells.foldl (m_law_numbers_l0 each) ([] : List Int))) none (some many)) := by subst zg_each; subst zg_cells; simp only [m_law_numbers, not_true_eq_false, not_false_eq_true, ↓reduceIte]
      rw [efin] at zk
      exact zk _
def m_sum_ratios_l0 (zs0 : (Int × Int)) (zy0 : Int × Int) : (Int × Int) :=
  (m_add_ratios zs0 zy0)
def m_sum_ratios (ratios : List (Int × Int)) : Int × Int :=
  (ratios.foldl (m_sum_ratios_l0) ((0 : Int), (1 : Int)))
def RB2 (t : Int × Int) (i : Nat) : Prop := -(2 ^ (11 * i) : Int) ≤ t.1 ∧ t.1 ≤ 2 ^ (11 * i) ∧ 0 < t.2 ∧ t.2 ≤ 2 ^ (11 * i)
theorem rb0 : RB2 ((0 : Int), (1 : Int)) 0 := ⟨by decide, by decide, by decide, by decide⟩
theorem pow11 (i : Nat) : (2 : Int) ^ (11 * (i + 1)) = 2048 * 2 ^ (11 * i) := by
  rw [show 11 * (i + 1) = 11 * i + 11 by omega, Int.pow_add]
  show (2 : Int) ^ (11 * i) * 2048 = _
  omega
theorem pow11_le {i : Nat} (hi : i ≤ 21) : (1 : Int) ≤ 2 ^ (11 * i) ∧ (2 : Int) ^ (11 * i) ≤ 2 ^ 231 := by
  have h1 : (2 ^ (11 * i) : Nat) ≤ 2 ^ 231 := Nat.pow_le_pow_right (by decide) (by omega)
  have h2 : (1 : Nat) ≤ 2 ^ (11 * i) := Nat.one_le_two_pow
  constructor
  · exact_mod_cast h2
  · exact_mod_cast h1
theorem rb_le {t : Int × Int} {i : Nat} (h : RB2 t i) (hi : i ≤ 21) : -(2 ^ 231) ≤ t.1 ∧ t.1 ≤ 2 ^ 231 ∧ 0 < t.2 ∧ t.2 ≤ 2 ^ 231 := by
  obtain ⟨a, b, c, d⟩ := h
  have := (pow11_le hi).2
  omega
theorem mul_le2 {a b A B : Int} (h1 : -A ≤ a) (h2 : a ≤ A) (h3 : -B ≤ b) (h4 : b ≤ B) : -(A * B) ≤ a * b ∧ a * b ≤ A * B := by
  have h : (a * b).natAbs ≤ A.natAbs * B.natAbs := by rw [Int.natAbs_mul]; exact Nat.mul_le_mul (by omega) (by omega)
  have hA : (A.natAbs : Int) = A := by omega
  have hB : (B.natAbs : Int) = B := by omega
  have : ((A.natAbs * B.natAbs : Nat) : Int) = A * B := by rw [Int.natCast_mul, hA, hB]
  omega
/-- a step of adding up -/
theorem add_le {a b c d E : Int} (h1 : -E ≤ a ∧ a ≤ E) (h2 : 0 < b ∧ b ≤ E) (h3 : -1020 ≤ c ∧ c ≤ 1020) (h4 : 0 < d ∧ d ≤ 1020) : (-(2048 * E) ≤ a * d + c * b ∧ a * d + c * b ≤ 2048 * E) ∧ 0 < b * d ∧ b * d ≤ 2048 * E := by
  have m1 := mul_le2 (a := a) (b := d) (A := E) (B := 1020) h1.1 h1.2 (by omega) h4.2
  have m2 := mul_le2 (a := c) (b := b) (A := 1020) (B := E) h3.1 h3.2 (by omega) h2.2
  have m3 := mul_le2 (a := b) (b := d) (A := E) (B := 1020) (by omega) h2.2 (by omega) h4.2
  have m4 := Int.mul_pos h2.1 h4.1
  omega
theorem rb_step {t r : Int × Int} {i : Nat} (h : RB2 t i) (hr : -1020 ≤ r.1 ∧ r.1 ≤ 1020 ∧ 0 < r.2 ∧ r.2 ≤ 1020) : RB2 (m_add_ratios t r) (i + 1) := by
  obtain ⟨a, b, c, d⟩ := h
  have g := add_le (a := t.1) (b := t.2) (c := r.1) (d := r.2) (E := 2 ^ (11 * i)) ⟨a, b⟩ ⟨c, d⟩ ⟨hr.1, hr.2.1⟩ hr.2.2
  unfold RB2
  rw [pow11]
  generalize (2 : Int) ^ (11 * i) = E at g
  have q := ratio_bound (t.1 * r.2 + r.1 * t.2) (t.2 * r.2) g.2.1 (2048 * E + 1) (by omega) (by omega) (by omega)
  unfold m_add_ratios
  omega
set_option hygiene false in
local macro_rules | `(tactic| walk_at "pre") => `(tactic| first | exact ⟨by omega, by omega, by omega, by omega, by omega, by omega, by omega, by omega⟩ | fail)
theorem sc_sum_ratios : FnScope ["ratios", "total", "ratio"] ["ratios"] (defScope s_sum_ratios) := ⟨rfl, rfl, rfl, by decide +kernel, rfl, by decide +kernel, by decide +kernel⟩
def sp_sum_ratios : SpN := fun zcs zL zKc => ∃ ratios : List (Int × Int), zcs = [.fr ((eL (eT2 D.int D.int)) ratios)] ∧ zL = [] ∧ (ratios.length ≤ 20 ∧ ∀ r ∈ ratios, (-1020 ≤ r.1 ∧ r.1 ≤ 1020 ∧ 0 < r.2 ∧ r.2 ≤ 1020)) ∧ ∀ zL', zKc (.fr ((eT2 D.int D.int) (m_sum_ratios ratios))) zL'
theorem ok_sum_ratios (T : TX P K mg) : FnOk P w K mg base CX0 3 T.a_sum_ratios T.d_sum_ratios ["ratios"] (SpOf K mg sp_sum_ratios) := by
  have O_add_ratios := ok_add_ratios (P := P) (w := w) (base := base) T
  refine T.F_sum_ratios.okN sc_sum_ratios (fun zcs zL zKc zh => by obtain ⟨ratios, rfl, _⟩ := zh; rfl) fun zcdv zA zout zst zH zE zB zcs zL zKc zhr zh => ?_
  obtain ⟨ratios, rfl, rfl, hpre, zk⟩ := zh
  have nd := sc_sum_ratios.nd
  have hSL := sizeLine_eq
  show Exs _ _ _ ⟨[some (.fr ((eL (eT2 D.int D.int)) ratios)), none, none], []⟩ _
  refine exs_cons (ex_set 1 (ev_tup (ds := [D.int (0 : Int), D.int (1 : Int)]) (ea_cons ev_int (ea_cons ev_int ea_nil)) (by simp only [List.length_cons, List.length_nil]; decide)) ?_ nd rfl (.inl rfl))
  show Exs _ _ _ ⟨[some (.fr ((eL (eT2 D.int D.int)) ratios)), some (.fr ((eT2 D.int D.int) ((0 : Int), (1 : Int)))), none], []⟩ _
  refine exs_cons (ex_forF (enc := (eT2 D.int D.int)) (fun (zs0 : (Int × Int)) => (⟨[some (.fr ((eL (eT2 D.int D.int)) ratios)), some (.fr ((eT2 D.int D.int) zs0)), none], []⟩ : Nz.S)) (m_sum_ratios_l0) ((0 : Int), (1 : Int)) (fun (zi0 : Nat) (zs0 : (Int × Int)) => RB2 zs0 zi0) (src_listT (ev_var 0 rfl (.inl rfl) rfl)) ⟨⟨.inr rfl, .inr rfl, .inl rfl, trivial⟩, rfl⟩ rb0 ?_ ?_ PassesOwn.never rfl)
  · intro zi0 zy0 zs0 zhy0 zq0
    skip
    have hr := hpre.2 zy0 (List.mem_of_getElem? zhy0)
    have hi := (List.getElem?_eq_some_iff.mp zhy0).1
    have hrb := rb_le zq0 (by omega)
    refine ⟨⟨[some (.fr ((eL (eT2 D.int D.int)) ratios)), some (.fr ((eT2 D.int D.int) zs0)), some (.fr ((eT2 D.int D.int) zy0))], []⟩, (eg_name 2 nd rfl (.inl rfl)), ?_⟩
    refine exs_one (ex_set 1 (ev_call (ds := [(eT2 D.int D.int) zs0, (eT2 D.int D.int) zy0]) (ds' := []) (dvs := []) (dfs := []) O_add_ratios (zhr.mono (by decide)) T.m_add_ratios T.k_add_ratios T.b_add_ratios .nil (fun _ => .nil) (ea_cons (ev_var 1 rfl (.inl rfl) rfl) (ea_cons (ev_var 2 rfl (.inl rfl) rfl) ea_nil)) (fun _ zkk => ⟨zs0, zy0, rfl, rfl, (by walk_at "pre"), zkk⟩) (by exact rfl)) ?_ nd rfl (.inl rfl))
    have est : (m_sum_ratios_l0) zs0 zy0 = (m_add_ratios zs0 zy0) := by simp only [m_sum_ratios_l0, not_true_eq_false, not_false_eq_true, ↓reduceIte]
    show Le _ _ ∧ _
    try rw [est]
    exact ⟨⟨⟨.inr rfl, .inr rfl, .inl rfl, trivial⟩, rfl⟩, (rb_step zq0 hr)⟩
  · intro zq0
    show Exs _ _ _ ⟨[some (.fr ((eL (eT2 D.int D.int)) ratios)), some (.fr ((eT2 D.int D.int) (ratios.foldl (m_sum_ratios_l0) ((0 : Int), (1 : Int))))), none], []⟩ _
    refine exs_one (ex_ret (ev_var 1 rfl (.inl rfl) rfl) ?_)
    have efin : m_sum_ratios ratios = (ratios.foldl (m_sum_ratios_l0) ((0 : Int), (1 : Int))) := by simp only [m_sum_ratios, not_true_eq_false, not_false_eq_true, ↓reduceIte]
    rw [efin] at zk
    exact zk _
def m_decimal_c0 (block : Int) (zs0 : Int × (List Str)) : Bool := (decide (block ≤ zs0.1))
def m_decimal_w0 (block : Int) (zs0 : Int × (List Str)) : Int × (List Str) :=
  ((zs0.1 / block, zs0.1 % block).1, (zs0.2 ++ [(Txt.zfill (Str.ofString (toString ((zs0.1 / block, zs0.1 % block).2))) (60 : Int))]))
def m_decimal (number : Int) : Str :=
  let block1 : Int := (1000000000000000000000000000000000000000000000000000000000000 : Int)
  let rest1 : Int := (if number < 0 then -number else number)
  let sign1 : Str := (if (number < (0 : Int)) then (Str.ofString "-") else (Str.ofString ""))
  (sign1 ++ (Txt.join (Str.ofString "") (((iterW (m_decimal_c0 block1) (m_decimal_w0 block1) number.natAbs (rest1, ([] : List Str))).2 ++ [(Str.ofString (toString ((iterW (m_decimal_c0 block1) (m_decimal_w0 block1) number.natAbs (rest1, ([] : List Str))).1)))]).reverse)))
def dg (n : Nat) : List Nat := (Nat.toDigits 10 n).map Char.toNat
theorem tos_nat (n : Nat) : Str.ofString (toString (n : Int)) = ⟨(dg n).toArray⟩ := by
  rw [show toString (n : Int) = String.ofList (Nat.toDigits 10 n) from rfl, Str.ofString_eq_toList]
  unfold dg
  rw [String.toList_ofList]
theorem dg_step {n d : Nat} (hn : 0 < n) (hd : d < 10) : dg (10 * n + d) = dg n ++ dg d := by
  unfold dg
  rw [← Nat.toDigits_append_toDigits (by decide) hn hd, List.map_append]
theorem dg_one : ∀ d : Nat, d < 10 → dg d = [48 + d] := by
  have : ∀ d : Fin 10, (Nat.digitChar d.val).toNat = 48 + d.val := by decide
  intro d hd
  unfold dg
  rw [Nat.toDigits_of_lt_base hd]
  show [(Nat.digitChar d).toNat] = _
  rw [this ⟨d, hd⟩]
theorem dg_len {n k : Nat} (hk : 0 < k) (h : n < 10 ^ k) : (dg n).length ≤ k := by
  unfold dg
  rw [List.length_map]
  exact (Nat.length_toDigits_le_iff (by decide) hk).mpr h
theorem dg_first (n : Nat) : ∃ c t, dg n = c :: t ∧ 48 ≤ c ∧ c ≤ 57 := by
  unfold dg
  cases h : Nat.toDigits 10 n with
  | nil => have := Nat.length_toDigits_pos (b := 10) (n := n); rw [h] at this; cases this
  | cons c t =>
    refine ⟨c.toNat, t.map Char.toNat, rfl, ?_⟩
    have := Nat.isDigit_of_mem_toDigits (b := 10) (n := n) (c := c) (by decide) (by decide) (by rw [h]; exact List.mem_cons_self)
    unfold Char.isDigit at this
    rw [Bool.and_eq_true, decide_eq_true_eq, decide_eq_true_eq] at this
    exact ⟨this.1, this.2⟩
def pd (k n : Nat) : List Nat := List.replicate (k - (dg n).length) 48 ++ dg n
theorem dg_pad (q : Nat) (hq : 1 ≤ q) : ∀ (k r : Nat), r < 10 ^ (k + 1) → dg (q * 10 ^ (k + 1) + r) = dg q ++ pd (k + 1) r
  | 0, r, h => by
    have h : r < 10 := by simpa using h
    rw [show q * 10 ^ (0 + 1) + r = 10 * q + r by omega, dg_step (by omega) h]
    unfold pd
    rw [dg_one r h]; rfl
  | k + 1, r, h => by
    have h1 : r / 10 < 10 ^ (k + 1) := by rw [Nat.pow_succ] at h; omega
    have e : q * 10 ^ (k + 1 + 1) + r = 10 * (q * 10 ^ (k + 1) + r / 10) + r % 10 := by
      rw [Nat.pow_succ 10 (k + 1), ← Nat.mul_assoc]
      omega
    have hp : 0 < q * 10 ^ (k + 1) := Nat.mul_pos hq (Nat.pow_pos (by decide))
    rw [e, dg_step (by omega) (Nat.mod_lt _ (by decide)), dg_pad q hq k _ h1, List.append_assoc]
    congr 1
    unfold pd
    by_cases hr : r / 10 = 0
    · have e2 : r % 10 = r := by omega
      rw [hr, e2, dg_one 0 (by decide), dg_one r (by omega)]
      simp only [List.length_cons, List.length_nil]
      rw [show k + 1 - (0 + 1) = k by omega, show k + 1 + 1 - (0 + 1) = k + 1 by omega, List.replicate_succ']
    · have e2 : dg r = dg (r / 10) ++ dg (r % 10) := by
        rw [← dg_step (by omega) (Nat.mod_lt _ (by decide))]
        congr 1; omega
      rw [e2, dg_one (r % 10) (Nat.mod_lt _ (by decide)), List.length_append, List.append_assoc]
      simp only [List.length_cons, List.length_nil]
      rw [show k + 1 + 1 - ((dg (r / 10)).length + (0 + 1)) = k + 1 - (dg (r / 10)).length by omega]
theorem zfill_nat (r : Nat) : Txt.zfill (⟨(dg r).toArray⟩ : Str) 60 = ⟨(pd 60 r).toArray⟩ := by
  have hl : (⟨(dg r).toArray⟩ : Str).length = (dg r).length := rfl
  unfold Txt.zfill pd
  rw [hl]
  split
  · rename_i h
    rw [show 60 - (dg r).length = 0 by omega]; rfl
  · obtain ⟨c, t, e, h1, h2⟩ := dg_first r
    unfold zfilled
    rw [e]
    have e0 : (⟨(c :: t).toArray⟩ : Str).cps[0]? = some c := rfl
    rw [e0]
    split
    · rename_i q; cases q; omega
    · rename_i q; cases q; omega
    · refine Str.ext' ?_
      show Array.replicate _ 48 ++ (c :: t).toArray ++ Array.replicate 0 48 = _
      apply Array.toList_inj.mp
      simp
theorem tos_split {q r : Nat} (hq : 1 ≤ q) (hr : r < 10 ^ 60) : Str.ofString (toString ((q * 10 ^ 60 + r : Nat) : Int)) = Str.ofString (toString (q : Int)) ++ Txt.zfill (Str.ofString (toString (r : Int))) 60 := by
  rw [tos_nat, tos_nat, tos_nat, zfill_nat, dg_pad q hq 59 r hr]
  refine Str.ext' ?_
  show _ = (dg q).toArray ++ (pd 60 r).toArray
  apply Array.toList_inj.mp
  simp
theorem str_wide {z : Int} (h : -(2 ^ 900) < z ∧ z < 2 ^ 900) : z.natAbs.log2 < 1920 := Nat.lt_of_lt_of_le (PySem.Flt.log2_lt_of (k := 900) (by decide) (by omega)) (by decide)
theorem zfill_len {r : Int} (h0 : 0 ≤ r) (h : r < 10 ^ 60) : (Txt.zfill (Str.ofString (toString r)) 60).length ≤ 60 := by
  obtain ⟨n, rfl⟩ := Int.eq_ofNat_of_zero_le h0
  have hn : n < 10 ^ 60 := by exact_mod_cast h
  rw [show (Str.ofString (toString ((n : Nat) : Int))) = ⟨(dg n).toArray⟩ from tos_nat n, zfill_nat]
  show (pd 60 n).length ≤ 60
  have := dg_len (k := 60) (by decide) hn
  unfold pd
  rw [List.length_append, List.length_replicate]; omega
def bndR : Nat → Int
  | 0 => 2 ^ 460
  | 1 => 2 ^ 360
  | 2 => 2 ^ 260
  | 3 => 2 ^ 160
  | _ => 2 ^ 60
def DecR (rest : Int) (bs : List Str) : Prop := 0 ≤ rest ∧ rest < bndR bs.length ∧ bs.length ≤ 4 ∧ ∀ b ∈ bs, b.length ≤ 60
theorem dec0 {number : Int} (h : -(2 ^ 460) < number ∧ number < 2 ^ 460) {rest : Int} (e : (if number < 0 then -number else number) = rest) : DecR rest ([] : List Str) := by
  refine ⟨by rw [← e]; split <;> omega, ?_, by decide, fun b hb => absurd hb (by simp)⟩
  show rest < 2 ^ 460
  rw [← e]; split <;> omega
theorem dec_step {block : Int} (hb : block = 1000000000000000000000000000000000000000000000000000000000000) {zs : Int × List Str} (h : DecR zs.1 zs.2) (hc : block ≤ zs.1) : DecR (m_decimal_w0 block zs).1 (m_decimal_w0 block zs).2 ∧ (m_decimal_w0 block zs).1.toNat < zs.1.toNat := by
  obtain ⟨h0, h1, h2, h3⟩ := h
  subst hb
  have e : m_decimal_w0 (1000000000000000000000000000000000000000000000000000000000000) zs = (zs.1 / 1000000000000000000000000000000000000000000000000000000000000, zs.2 ++ [Txt.zfill (Str.ofString (toString (zs.1 % 1000000000000000000000000000000000000000000000000000000000000))) (60 : Int)]) := rfl
  rw [e]
  dsimp only
  have hz := zfill_len (r := zs.1 % 1000000000000000000000000000000000000000000000000000000000000) (by omega) (by rw [show (10 : Int) ^ 60 = 1000000000000000000000000000000000000000000000000000000000000 by decide]; omega)
  refine ⟨⟨by omega, ?_, ?_, fun b hb => ?_⟩, by omega⟩
  · rw [List.length_append]
    generalize zs.2.length = n at h1 h2
    have : n = 0 ∨ n = 1 ∨ n = 2 ∨ n = 3 ∨ n = 4 := by omega
    rcases this with rfl | rfl | rfl | rfl | rfl
    · have h1 : zs.1 < 2 ^ 460 := h1
      show zs.1 / _ < 2 ^ 360; omega
    · have h1 : zs.1 < 2 ^ 360 := h1
      show zs.1 / _ < 2 ^ 260; omega
    · have h1 : zs.1 < 2 ^ 260 := h1
      show zs.1 / _ < 2 ^ 160; omega
    · have h1 : zs.1 < 2 ^ 160 := h1
      show zs.1 / _ < 2 ^ 60; omega
    · have h1 : zs.1 < 2 ^ 60 := h1
      omega
  · rw [List.length_append]
    generalize zs.2.length = n at h1 h2
    by_cases q : n = 4
    · subst q
      have h1 : zs.1 < 2 ^ 60 := h1
      omega
    · simp only [List.length_cons, List.length_nil]; omega
  · rcases List.mem_append.mp hb with q | q
    · exact h3 b q
    · rw [List.mem_singleton.mp q]; exact hz
theorem dec_bnd {rest : Int} {bs : List Str} (h : DecR rest bs) : 0 ≤ rest ∧ rest < 2 ^ 460 ∧ bs.length ≤ 4 := by
  obtain ⟨h0, h1, h2, h3⟩ := h
  refine ⟨h0, ?_, h2⟩
  generalize bs.length = n at h1 h2
  have : n = 0 ∨ n = 1 ∨ n = 2 ∨ n = 3 ∨ n = 4 := by omega
  rcases this with rfl | rfl | rfl | rfl | rfl
  · exact h1
  · have h1 : rest < 2 ^ 360 := h1; omega
  · have h1 : rest < 2 ^ 260 := h1; omega
  · have h1 : rest < 2 ^ 160 := h1; omega
  · have h1 : rest < 2 ^ 60 := h1; omega
theorem dec_room {rest : Int} {bs : List Str} (h : DecR rest bs) : (((bs ++ [Str.ofString (toString rest)]).reverse).map (·.length)).sum + ((bs ++ [Str.ofString (toString rest)]).reverse).length * (Str.ofString "").length ≤ 10000 := by
  have hb := dec_bnd h
  have h1 := tos_le (z := rest) (str_wide ⟨by omega, by omega⟩)
  have h2 := sum_le_mul (c := 60) bs h.2.2.2
  rw [show (Str.ofString "").length = 0 by decide +kernel, List.map_reverse, List.sum_reverse, List.map_append, List.sum_append]
  simp only [List.map_cons, List.map_nil, List.sum_cons, List.sum_nil]
  omega
theorem dec_len {rest : Int} {bs : List Str} (h : DecR rest bs) {number : Int} {sign : Str} (e : (if (number < (0 : Int)) then (Str.ofString "-") else (Str.ofString "")) = sign) : sign.length + (Txt.join (Str.ofString "") ((bs ++ [Str.ofString (toString rest)]).reverse)).length ≤ 10001 := by
  have h1 := join_len (Str.ofString "") ((bs ++ [Str.ofString (toString rest)]).reverse)
  have h2 := dec_room h
  have h3 : sign.length ≤ 1 := by rw [← e]; split <;> decide +kernel
  omega
set_option hygiene false in
local macro_rules | `(tactic| walk_at "str") => `(tactic| first | exact str_wide ⟨by dsimp only; omega, by dsimp only; omega⟩ | exact str_wide ⟨by have := dec_bnd zq0; omega, by have := dec_bnd zq0; omega⟩ | fail)
set_option hygiene false in
local macro_rules | `(tactic| walk_at "sd") => `(tactic| first | (have hdb := dec_bnd zq0; omega) | exact Nat.le_trans (dec_len zq0 zg_sign) (by rw [sizeLine_eq]; decide) | fail)
set_option hygiene false in
local macro_rules | `(tactic| walk_at "join") => `(tactic| exact Nat.le_trans (dec_room zq0) (by decide))
theorem sc_decimal : FnScope ["number", "block", "rest", "blocks", "low", "sign"] ["number"] (defScope s_decimal) := ⟨rfl, rfl, rfl, by decide +kernel, rfl, by decide +kernel, by decide +kernel⟩
def sp_decimal : SpN := fun zcs zL zKc => ∃ number : Int, zcs = [.fr (D.int number)] ∧ zL = [] ∧ (-(2 ^ 460) < number ∧ number < 2 ^ 460) ∧ ∀ zL', zKc (.fr (D.str (m_decimal number))) zL'
theorem ok_decimal (T : TX P K mg) : FnOk P w K mg base CX0 1 T.a_decimal T.d_decimal ["number"] (SpOf K mg sp_decimal) := by
  refine T.F_decimal.okN sc_decimal (fun zcs zL zKc zh => by obtain ⟨number, rfl, _⟩ := zh; rfl) fun zcdv zA zout zst zH zE zB zcs zL zKc zhr zh => ?_
  obtain ⟨number, rfl, rfl, hpre, zk⟩ := zh
  have nd := sc_decimal.nd
  have hSL := sizeLine_eq
  show Exs _ _ _ ⟨[some (.fr (D.int number)), none, none, none, none, none], []⟩ _
  refine exs_cons (ex_set 1 (ev_bin (o_powN (by unfold CPow; decide) (by decide : _ = (1000000000000000000000000000000000000000000000000000000000000 : Int))) ev_int ev_int) ?_ nd rfl (.inl rfl))
  show Exs _ _ _ ⟨[some (.fr (D.int number)), some (.fr (D.int (1000000000000000000000000000000000000000000000000000000000000 : Int))), none, none, none, none], []⟩ _
  generalize zg_block : (1000000000000000000000000000000000000000000000000000000000000 : Int) = block
  show Exs _ _ _ ⟨[some (.fr (D.int number)), some (.fr (D.int block)), none, none, none, none], []⟩ _
  have hbk : block = 1000000000000000000000000000000000000000000000000000000000000 := zg_block.symm
  refine exs_cons (ex_set 2 (ev_callB (ds := [D.int number]) c_abs (ea_cons (ev_var 0 rfl (.inl rfl) rfl) ea_nil) (by exact rfl) T.n_abs (by decide +kernel)) ?_ nd rfl (.inl rfl))
  show Exs _ _ _ ⟨[some (.fr (D.int number)), some (.fr (D.int block)), some (.fr (D.int (if number < 0 then -number else number))), none, none, none], []⟩ _
  generalize zg_rest : (if number < 0 then -number else number) = rest
  show Exs _ _ _ ⟨[some (.fr (D.int number)), some (.fr (D.int block)), some (.fr (D.int rest)), none, none, none], []⟩ _
  refine exs_cons (ex_set 3 (ev_lstN 100 (enc := D.str) ([] : List Str) ea_nil rfl (by simp only [List.length_cons, List.length_nil]; decide) (by simp [names]) (by decide)) ?_ nd rfl (.inl rfl))
  show Exs _ _ _ ⟨[some (.fr (D.int number)), some (.fr (D.int block)), some (.fr (D.int rest)), some (.ad 100), none, none], [(100, .fl ((([] : List Str)).map D.str))]⟩ _
  refine exs_cons (ex_whileF (fun (zs0 : Int × (List Str)) => (⟨[some (.fr (D.int number)), some (.fr (D.int block)), some (.fr (D.int zs0.1)), some (.ad 100), none, none], [(100, .fl ((zs0.2).map D.str))]⟩ : Nz.S)) (m_decimal_c0 block) (m_decimal_w0 block) (rest, ([] : List Str)) number.natAbs (fun (zs0 : Int × (List Str)) => DecR zs0.1 zs0.2) (fun (zs0 : Int × (List Str)) => zs0.1.toNat) ⟨⟨.inr rfl, .inr rfl, .inr rfl, .inr rfl, .inl rfl, .inl rfl, trivial⟩, rfl⟩ (dec0 hpre zg_rest) (by rw [← zg_rest]; show (if number < 0 then -number else number).toNat ≤ number.natAbs; split <;> omega) ?_ ?_ ?_ ?_ PassesOwn.never)
  · intro zs0 zq0 zhc0
    simp only [m_decimal_c0, decide_eq_true_eq] at zhc0
    exact dec_step hbk zq0 zhc0
  · intro zs0 zq0
    have hdb := dec_bnd zq0
    have hm1 := Int.emod_nonneg zs0.1 (show block ≠ 0 by omega)
    have hm2 := Int.emod_lt_of_pos zs0.1 (show 0 < block by omega)
    exact (et_cmp o_ge (ev_var 2 rfl (.inl rfl) rfl) (ev_var 1 rfl (.inl rfl) rfl) (nomark _))
  · intro zs0 zq0 zhc0
    simp only [m_decimal_c0, decide_eq_true_eq] at zhc0
    have hdb := dec_bnd zq0
    have hm1 := Int.emod_nonneg zs0.1 (show block ≠ 0 by omega)
    have hm2 := Int.emod_lt_of_pos zs0.1 (show 0 < block by omega)
    show Exs _ _ _ ⟨[some (.fr (D.int number)), some (.fr (D.int block)), some (.fr (D.int zs0.1)), some (.ad 100), none, none], [(100, .fl ((zs0.2).map D.str))]⟩ _
    refine exs_cons (ex_asg (ev_callB (ds := [D.int zs0.1, D.int block]) (c_divmodW (by walk_at "sd") (by walk_at "sd")) (ea_cons (ev_var 2 rfl (.inl rfl) rfl) (ea_cons (ev_var 1 rfl (.inl rfl) rfl) ea_nil)) (by exact rfl) T.n_divmod (by decide +kernel)) (eg_tup rfl (egs_cons (eg_name 2 nd rfl (.inl rfl)) (egs_cons (eg_name 4 nd rfl (.inl rfl)) egs_nil))) ?_)
    show Exs _ _ _ ⟨[some (.fr (D.int number)), some (.fr (D.int block)), some (.fr (D.int ((zs0.1 / block, zs0.1 % block).1))), some (.ad 100), some (.fr (D.int ((zs0.1 / block, zs0.1 % block).2))), none], [(100, .fl ((zs0.2).map D.str))]⟩ _
    refine exs_one (ex_expr (ev_appendT (n := 100) (enc := D.str) (xs := zs0.2) (xs0 := zs0.2) (Txt.zfill (Str.ofString (toString ((zs0.1 / block, zs0.1 % block).2))) (60 : Int)) rfl rfl rfl (by walk_at "sd") (ev_var 3 rfl (.inl rfl) rfl) (ev_zfill (z := (Str.ofString (toString ((zs0.1 / block, zs0.1 % block).2)))) (i := (60 : Int)) (ev_callTy (ds := [D.int ((zs0.1 / block, zs0.1 % block).2)]) (c_str (by walk_at "str")) (ea_cons (ev_var 4 rfl (.inl rfl) rfl) ea_nil) (by exact rfl) T.n_str (by decide +kernel)) ev_int (by walk_at "pad"))) ?_)
    have est : (m_decimal_w0 block) zs0 = ((zs0.1 / block, zs0.1 % block).1, (zs0.2 ++ [(Txt.zfill (Str.ofString (toString ((zs0.1 / block, zs0.1 % block).2))) (60 : Int))])) := by simp only [m_decimal_w0, ↓reduceIte]
    show Le _ _ ∧ _
    rw [est]
    exact ⟨⟨⟨.inr rfl, .inr rfl, .inr rfl, .inr rfl, .inl rfl, .inl rfl, trivial⟩, rfl⟩, trivial⟩
  · intro zq0 zhc0
    show Exs _ _ _ ⟨[some (.fr (D.int number)), some (.fr (D.int block)), some (.fr (D.int ((iterW (m_decimal_c0 block) (m_decimal_w0 block) number.natAbs (rest, ([] : List Str))).1))), some (.ad 100), none, none], [(100, .fl (((iterW (m_decimal_c0 block) (m_decimal_w0 block) number.natAbs (rest, ([] : List Str))).2).map D.str))]⟩ _
    refine exs_cons (ex_expr (ev_appendT (n := 100) (enc := D.str) (xs := (iterW (m_decimal_c0 block) (m_decimal_w0 block) number.natAbs (rest, ([] : List Str))).2) (xs0 := (iterW (m_decimal_c0 block) (m_decimal_w0 block) number.natAbs (rest, ([] : List Str))).2) (Str.ofString (toString ((iterW (m_decimal_c0 block) (m_decimal_w0 block) number.natAbs (rest, ([] : List Str))).1))) rfl rfl rfl (by walk_at "sd") (ev_var 3 rfl (.inl rfl) rfl) (ev_callTy (ds := [D.int ((iterW (m_decimal_c0 block) (m_decimal_w0 block) number.natAbs (rest, ([] : List Str))).1)]) (c_str (by walk_at "str")) (ea_cons (ev_var 2 rfl (.inl rfl) rfl) ea_nil) (by exact rfl) T.n_str (by decide +kernel))) ?_)
    show Exs _ _ _ ⟨[some (.fr (D.int number)), some (.fr (D.int block)), some (.fr (D.int ((iterW (m_decimal_c0 block) (m_decimal_w0 block) number.natAbs (rest, ([] : List Str))).1))), some (.ad 100), none, none], [(100, .fl ((((iterW (m_decimal_c0 block) (m_decimal_w0 block) number.natAbs (rest, ([] : List Str))).2 ++ [(Str.ofString (toString ((iterW (m_decimal_c0 block) (m_decimal_w0 block) number.natAbs (rest, ([] : List Str))).1)))])).map D.str))]⟩ _
    refine exs_cons (ex_expr (ev_reverseT (n := 100) (enc := D.str) (xs := ((iterW (m_decimal_c0 block) (m_decimal_w0 block) number.natAbs (rest, ([] : List Str))).2 ++ [(Str.ofString (toString ((iterW (m_decimal_c0 block) (m_decimal_w0 block) number.natAbs (rest, ([] : List Str))).1)))])) (ev_var 3 rfl (.inl rfl) rfl) rfl) ?_)
    show Exs _ _ _ ⟨[some (.fr (D.int number)), some (.fr (D.int block)), some (.fr (D.int ((iterW (m_decimal_c0 block) (m_decimal_w0 block) number.natAbs (rest, ([] : List Str))).1))), some (.ad 100), none, none], [(100, .fl (((((iterW (m_decimal_c0 block) (m_decimal_w0 block) number.natAbs (rest, ([] : List Str))).2 ++ [(Str.ofString (toString ((iterW (m_decimal_c0 block) (m_decimal_w0 block) number.natAbs (rest, ([] : List Str))).1)))]).reverse)).map D.str))]⟩ _
    refine exs_cons (ex_set 5 (ev_ifP (enc := D.str) (x := (Str.ofString "-")) (y := (Str.ofString "")) bd_d (et_cmp o_lt (ev_var 0 rfl (.inl rfl) rfl) ev_int (nomark _)) (fun zhp => ev_str) (fun zhp => ev_str)) ?_ nd rfl (.inl rfl))
    show Exs _ _ _ ⟨[some (.fr (D.int number)), some (.fr (D.int block)), some (.fr (D.int ((iterW (m_decimal_c0 block) (m_decimal_w0 block) number.natAbs (rest, ([] : List Str))).1))), some (.ad 100), none, some (.fr (D.str (if (number < (0 : Int)) then (Str.ofString "-") else (Str.ofString ""))))], [(100, .fl (((((iterW (m_decimal_c0 block) (m_decimal_w0 block) number.natAbs (rest, ([] : List Str))).2 ++ [(Str.ofString (toString ((iterW (m_decimal_c0 block) (m_decimal_w0 block) number.natAbs (rest, ([] : List Str))).1)))]).reverse)).map D.str))]⟩ _
    generalize zg_sign : (if (number < (0 : Int)) then (Str.ofString "-") else (Str.ofString "")) = sign
    show Exs _ _ _ ⟨[some (.fr (D.int number)), some (.fr (D.int block)), some (.fr (D.int ((iterW (m_decimal_c0 block) (m_decimal_w0 block) number.natAbs (rest, ([] : List Str))).1))), some (.ad 100), none, some (.fr (D.str sign))], [(100, .fl (((((iterW (m_decimal_c0 block) (m_decimal_w0 block) number.natAbs (rest, ([] : List Str))).2 ++ [(Str.ofString (toString ((iterW (m_decimal_c0 block) (m_decimal_w0 block) number.natAbs (rest, ([] : List Str))).1)))]).reverse)).map D.str))]⟩ _
    refine exs_freezeT 100 (xs := (((iterW (m_decimal_c0 block) (m_decimal_w0 block) number.natAbs (rest, ([] : List Str))).2 ++ [(Str.ofString (toString ((iterW (m_decimal_c0 block) (m_decimal_w0 block) number.natAbs (rest, ([] : List Str))).1)))]).reverse)) (enc := D.str) (by exact rfl) ?_
    show Exs _ _ _ ⟨[some (.fr (D.int number)), some (.fr (D.int block)), some (.fr (D.int ((iterW (m_decimal_c0 block) (m_decimal_w0 block) number.natAbs (rest, ([] : List Str))).1))), some (.fr ((eL D.str) (((iterW (m_decimal_c0 block) (m_decimal_w0 block) number.natAbs (rest, ([] : List Str))).2 ++ [(Str.ofString (toString ((iterW (m_decimal_c0 block) (m_decimal_w0 block) number.natAbs (rest, ([] : List Str))).1)))]).reverse))), none, some (.fr (D.str sign))], []⟩ _
    refine exs_one (ex_ret (ev_bin (o_adds (by walk_at "sd")) (ev_var 5 rfl (.inl rfl) rfl) (ev_join (z := (Str.ofString "")) (ys := (((iterW (m_decimal_c0 block) (m_decimal_w0 block) number.natAbs (rest, ([] : List Str))).2 ++ [(Str.ofString (toString ((iterW (m_decimal_c0 block) (m_decimal_w0 block) number.natAbs (rest, ([] : List Str))).1)))]).reverse)) ev_str (ev_var 3 rfl (.inl rfl) rfl) (by walk_at "join"))) ?_)
    have efin : m_decimal number = (sign ++ (Txt.join (Str.ofString "") (((iterW (m_decimal_c0 block) (m_decimal_w0 block) number.natAbs (rest, ([] : List Str))).2 ++ [(Str.ofString (toString ((iterW (m_decimal_c0 block) (m_decimal_w0 block) number.natAbs (rest, ([] : List Str))).1)))]).reverse))) := by subst zg_sign; subst zg_rest; subst zg_block; simp only [m_decimal, not_true_eq_false, not_false_eq_true, ↓reduceIte]
    rw [efin] at zk
    exact zk _
def m_ratio_text (ratio : Int × Int) : Str :=
  if (ratio.2 = (1 : Int)) then (m_decimal ratio.1) else (((m_decimal ratio.1) ++ (Str.ofString "/")) ++ (m_decimal ratio.2))
theorem joinE_cons (a : Str) (r : List Str) : Txt.join (Str.ofString "") (a :: r) = a ++ Txt.join (Str.ofString "") r := by
  have e0 : Str.ofString "" = Str.empty := by decide +kernel
  cases r with
  | nil => rw [Nz.join_one, Nz.join_nil, e0, Str.append_empty]
  | cons b r => rw [join_cons2, e0, Str.append_empty]
def decT (s : Int × List Str) : Str := Txt.join (Str.ofString "") ((s.2 ++ [Str.ofString (toString s.1)]).reverse)
theorem decT_eq (s : Int × List Str) : decT s = Str.ofString (toString s.1) ++ Txt.join (Str.ofString "") s.2.reverse := by
  unfold decT
  rw [List.reverse_append]
  exact joinE_cons _ _
theorem decT_step (s : Int × List Str) (h : 1000000000000000000000000000000000000000000000000000000000000 ≤ s.1) : decT (m_decimal_w0 1000000000000000000000000000000000000000000000000000000000000 s) = decT s := by
  rw [decT_eq, decT_eq]
  have e : m_decimal_w0 (1000000000000000000000000000000000000000000000000000000000000) s = (s.1 / 1000000000000000000000000000000000000000000000000000000000000, s.2 ++ [Txt.zfill (Str.ofString (toString (s.1 % 1000000000000000000000000000000000000000000000000000000000000))) (60 : Int)]) := rfl
  rw [e]
  dsimp only
  rw [List.reverse_append]
  show _ ++ Txt.join _ (_ :: s.2.reverse) = _
  rw [joinE_cons, ← Str.append_assoc]
  congr 1
  obtain ⟨n, hn⟩ := Int.eq_ofNat_of_zero_le (show 0 ≤ s.1 by omega)
  rw [hn]
  rw [hn] at h
  have g := tos_split (q := n / 10 ^ 60) (r := n % 10 ^ 60) (by omega) (Nat.mod_lt _ (by decide))
  rw [show n / 10 ^ 60 * 10 ^ 60 + n % 10 ^ 60 = n from Nat.div_add_mod' n (10 ^ 60)] at g
  exact g.symm
theorem dec_iter : ∀ (k : Nat) (s : Int × List Str), decT (iterW (m_decimal_c0 1000000000000000000000000000000000000000000000000000000000000) (m_decimal_w0 1000000000000000000000000000000000000000000000000000000000000) k s) = decT s
  | 0, s => rfl
  | k + 1, s => by
    unfold iterW
    by_cases h : m_decimal_c0 1000000000000000000000000000000000000000000000000000000000000 s = true
    · rw [if_pos h, dec_iter k, decT_step s (by unfold m_decimal_c0 at h; exact of_decide_eq_true h)]
    · rw [if_neg h]
theorem decimal_eq (n : Int) : m_decimal n = Str.ofString (toString n) := by
  have h := dec_iter n.natAbs (if n < 0 then -n else n, [])
  rw [decT_eq (_, [])] at h
  have e0 : Str.ofString "" = Str.empty := by decide +kernel
  rw [show Txt.join (Str.ofString "") (([] : List Str).reverse) = Str.empty by rw [List.reverse_nil, Nz.join_nil, e0], Str.append_empty] at h
  have e : m_decimal n = (if n < 0 then Str.ofString "-" else Str.ofString "") ++ decT (iterW (m_decimal_c0 1000000000000000000000000000000000000000000000000000000000000) (m_decimal_w0 1000000000000000000000000000000000000000000000000000000000000) n.natAbs (if n < 0 then -n else n, [])) := rfl
  rw [e, h]
  by_cases hn : n < 0
  · rw [if_pos hn]
    obtain ⟨m, hm⟩ := Int.eq_negSucc_of_lt_zero hn
    subst hm
    rw [show (if Int.negSucc m < 0 then -Int.negSucc m else Int.negSucc m) = ((m + 1 : Nat) : Int) from by rw [if_pos hn]; rfl]
    rw [Str.ofString_eq_toList, Str.ofString_eq_toList, Str.ofString_eq_toList]
    refine Str.ext' ?_
    show (List.map Char.toNat "-".toList).toArray ++ (List.map Char.toNat (toString ((m + 1 : Nat) : Int)).toList).toArray = (List.map Char.toNat (toString (Int.negSucc m)).toList).toArray
    rw [show toString (Int.negSucc m) = "-" ++ toString ((m + 1 : Nat) : Int) from rfl, String.toList_append, List.map_append]
    apply Array.toList_inj.mp
    simp
  · rw [if_neg hn, e0, Str.empty_append]
    rw [if_neg hn]
theorem decimal_len {n : Int} (h : -(2 ^ 460) < n ∧ n < 2 ^ 460) : (m_decimal n).length ≤ 1921 := by
  rw [decimal_eq]; exact tos_le (str_wide ⟨by omega, by omega⟩)
theorem text_room {r : Int × Int} (h : -(2 ^ 460) < r.1 ∧ r.1 < 2 ^ 460 ∧ -(2 ^ 460) < r.2 ∧ r.2 < 2 ^ 460) : (m_decimal r.1 ++ Str.ofString "/" ++ m_decimal r.2).length ≤ 4000 := by
  have h1 := decimal_len (n := r.1) ⟨by omega, by omega⟩
  have h2 := decimal_len (n := r.2) ⟨by omega, by omega⟩
  rw [Str.length_append, Str.length_append, show (Str.ofString "/").length = 1 by decide +kernel]; omega
set_option hygiene false in
local macro_rules | `(tactic| walk_at "pre") => `(tactic| first | exact ⟨by omega, by omega⟩ | fail)
set_option hygiene false in
local macro_rules | `(tactic| walk_at "sd") => `(tactic| first | exact Nat.le_trans (text_room hpre) (by rw [sizeLine_eq]; decide) | fail)
theorem sc_ratio_text : FnScope ["ratio", "top", "bottom"] ["ratio"] (defScope s_ratio_text) := ⟨rfl, rfl, rfl, by decide +kernel, rfl, by decide +kernel, by decide +kernel⟩
def sp_ratio_text : SpN := fun zcs zL zKc => ∃ ratio : Int × Int, zcs = [.fr ((eT2 D.int D.int) ratio)] ∧ zL = [] ∧ (-(2 ^ 460) < ratio.1 ∧ ratio.1 < 2 ^ 460 ∧ -(2 ^ 460) < ratio.2 ∧ ratio.2 < 2 ^ 460) ∧ ∀ zL', zKc (.fr (D.str (m_ratio_text ratio))) zL'
theorem ok_ratio_text (T : TX P K mg) : FnOk P w K mg base CX0 2 T.a_ratio_text T.d_ratio_text ["ratio"] (SpOf K mg sp_ratio_text) := by
  have O_decimal := ok_decimal (P := P) (w := w) (base := base) T
  refine T.F_ratio_text.okN sc_ratio_text (fun zcs zL zKc zh => by obtain ⟨ratio, rfl, _⟩ := zh; rfl) fun zcdv zA zout zst zH zE zB zcs zL zKc zhr zh => ?_
  obtain ⟨ratio, rfl, rfl, hpre, zk⟩ := zh
  have nd := sc_ratio_text.nd
  have hSL := sizeLine_eq
  show Exs _ _ _ ⟨[some (.fr ((eT2 D.int D.int) ratio)), none, none], []⟩ _
  refine exs_cons (ex_asg (ev_var 0 rfl (.inl rfl) rfl) (eg_tup rfl (egs_cons (eg_name 1 nd rfl (.inl rfl)) (egs_cons (eg_name 2 nd rfl (.inl rfl)) egs_nil))) ?_)
  show Exs _ _ _ ⟨[some (.fr ((eT2 D.int D.int) ratio)), some (.fr (D.int ratio.1)), some (.fr (D.int ratio.2))], []⟩ _
  refine exs_cons (ex_ifP bd_d (et_cmp o_eqi (ev_var 2 rfl (.inl rfl) rfl) ev_int (nomark _)) (fun (zh1 : (ratio.2 = (1 : Int))) => ?_) (fun (zh1 : ¬ (ratio.2 = (1 : Int))) => ?_))
  · skip
    refine exs_one (ex_ret (ev_call (ds := [D.int ratio.1]) (ds' := []) (dvs := []) (dfs := []) O_decimal (zhr.mono (by decide)) T.m_decimal T.k_decimal T.b_decimal .nil (fun _ => .nil) (ea_cons (ev_var 1 rfl (.inl rfl) rfl) ea_nil) (fun _ zkk => ⟨ratio.1, rfl, rfl, (by walk_at "pre"), zkk⟩) (by exact rfl)) ?_)
    have efin : m_ratio_text ratio = (m_decimal ratio.1) := by simp only [m_ratio_text, not_true_eq_false, not_false_eq_true, ↓reduceIte, ↓if_pos zh1]
    rw [efin] at zk
    exact zk _
  · skip
    refine exs_nil ?_
    show Exs _ _ _ ⟨[some (.fr ((eT2 D.int D.int) ratio)), some (.fr (D.int ratio.1)), some (.fr (D.int ratio.2))], []⟩ _
    refine exs_one (ex_ret (ev_fstr3 (x := (m_decimal ratio.1)) (w := (Str.ofString "/")) (y := (m_decimal ratio.2)) (ev_call (ds := [D.int ratio.1]) (ds' := []) (dvs := []) (dfs := []) O_decimal (zhr.mono (by decide)) T.m_decimal T.k_decimal T.b_decimal .nil (fun _ => .nil) (ea_cons (ev_var 1 rfl (.inl rfl) rfl) ea_nil) (fun _ zkk => ⟨ratio.1, rfl, rfl, (by walk_at "pre"), zkk⟩) (by exact rfl)) ev_str (ev_call (ds := [D.int ratio.2]) (ds' := []) (dvs := []) (dfs := []) O_decimal (zhr.mono (by decide)) T.m_decimal T.k_decimal T.b_decimal .nil (fun _ => .nil) (ea_cons (ev_var 2 rfl (.inl rfl) rfl) ea_nil) (fun _ zkk => ⟨ratio.2, rfl, rfl, (by walk_at "pre"), zkk⟩) (by exact rfl)) (by walk_at "sd")) ?_)
    have efin : m_ratio_text ratio = (((m_decimal ratio.1) ++ (Str.ofString "/")) ++ (m_decimal ratio.2)) := by simp only [m_ratio_text, not_true_eq_false, not_false_eq_true, ↓reduceIte, ↓if_neg zh1]
    rw [efin] at zk
    exact zk _
def m_law_l0 (numbers : List Int) (zs0 : (List (Int × Int)) × Int × Int) (zy0 : Nat) : (List (Int × Int)) × Int × Int :=
  let part : Int := ((numbers.getD (((1 : Int) + ((3 : Int) * ((0 : Int) + (zy0 : Int))))).toNat default) - ((500 : Int) * ((numbers.getD (((3 : Int) + ((3 : Int) * ((0 : Int) + (zy0 : Int))))).toNat default) % (3 : Int))))
  let whole : Int := ((1 : Int) + (numbers.getD (((2 : Int) + ((3 : Int) * ((0 : Int) + (zy0 : Int))))).toNat default))
  let divisor : Int := (m_law_divisor part whole)
  let top : Int := ((zs0.2.1 * whole) + (part * zs0.2.2))
  ((zs0.1 ++ [((part / divisor), (whole / divisor))]), top, (zs0.2.2 * whole))
def m_law_l1 (zs0 : Unit) (zy0 : Int × Int) : Except Bool (Unit) :=
  let due : Str := (Str.ofString (toString zy0.1))
  let due : Str := (if (¬ (zy0.2 = (1 : Int))) then ((due ++ (Str.ofString "/")) ++ (Str.ofString (toString zy0.2))) else due)
  if ((¬ (true = true)) ∨ (¬ ((m_ratio_text zy0) = due))) then .error false else .ok ()
def m_law (script : List Int) : Bool :=
  let numbers1 : List Int := (m_law_numbers script (61 : Int))
  let actual1 : Int × Int := (m_sum_ratios (((List.range (((numbers1.getD ((0 : Int)).toNat default) % (21 : Int))).toNat).foldl (m_law_l0 numbers1) (([] : List (Int × Int)), (0 : Int), (1 : Int))).1))
  if ((¬ ((m_law_is_ratio actual1) = true)) ∨ (¬ (((List.range (((numbers1.getD ((0 : Int)).toNat default) % (21 : Int))).toNat).foldl (m_law_l0 numbers1) (([] : List (Int × Int)), (0 : Int), (1 : Int))).1 = ((List.range (((numbers1.getD ((0 : Int)).toNat default) % (21 : Int))).toNat).foldl (m_law_l0 numbers1) (([] : List (Int × Int)), (0 : Int), (1 : Int))).1))) then false else if (¬ ((actual1.1 * ((List.range (((numbers1.getD ((0 : Int)).toNat default) % (21 : Int))).toNat).foldl (m_law_l0 numbers1) (([] : List (Int × Int)), (0 : Int), (1 : Int))).2.2) = (((List.range (((numbers1.getD ((0 : Int)).toNat default) % (21 : Int))).toNat).foldl (m_law_l0 numbers1) (([] : List (Int × Int)), (0 : Int), (1 : Int))).2.1 * actual1.2))) then false else match (runE (m_law_l1) (((List.range (((numbers1.getD ((0 : Int)).toNat default) % (21 : Int))).toNat).foldl (m_law_l0 numbers1) (([] : List (Int × Int)), (0 : Int), (1 : Int))).1 ++ [((0 : Int), (1 : Int)), ((((List.range (((numbers1.getD ((0 : Int)).toNat default) % (21 : Int))).toNat).foldl (m_law_l0 numbers1) (([] : List (Int × Int)), (0 : Int), (1 : Int))).2.1 / (m_law_divisor (((List.range (((numbers1.getD ((0 : Int)).toNat default) % (21 : Int))).toNat).foldl (m_law_l0 numbers1) (([] : List (Int × Int)), (0 : Int), (1 : Int))).2.1) (((List.range (((numbers1.getD ((0 : Int)).toNat default) % (21 : Int))).toNat).foldl (m_law_l0 numbers1) (([] : List (Int × Int)), (0 : Int), (1 : Int))).2.2))), (((List.range (((numbers1.getD ((0 : Int)).toNat default) % (21 : Int))).toNat).foldl (m_law_l0 numbers1) (([] : List (Int × Int)), (0 : Int), (1 : Int))).2.2 / (m_law_divisor (((List.range (((numbers1.getD ((0 : Int)).toNat default) % (21 : Int))).toNat).foldl (m_law_l0 numbers1) (([] : List (Int × Int)), (0 : Int), (1 : Int))).2.1) (((List.range (((numbers1.getD ((0 : Int)).toNat default) % (21 : Int))).toNat).foldl (m_law_l0 numbers1) (([] : List (Int × Int)), (0 : Int), (1 : Int))).2.2))))]) ()) with | .error r => r | .ok zs0 => true
def LawI (s : List (Int × Int) × Int × Int) (i : Nat) : Prop := s.1.length = i ∧ (∀ r ∈ s.1, -1020 ≤ r.1 ∧ r.1 ≤ 1020 ∧ 0 < r.2 ∧ r.2 ≤ 1020) ∧ (-(2 ^ (11 * i) : Int) ≤ s.2.1 ∧ s.2.1 ≤ 2 ^ (11 * i)) ∧ 0 < s.2.2 ∧ s.2.2 ≤ 2 ^ (11 * i)
theorem law0 : LawI (([] : List (Int × Int)), (0 : Int), (1 : Int)) 0 := ⟨rfl, fun r hr => absurd hr (by simp), ⟨by decide, by decide⟩, by decide, by decide⟩
theorem law_le {s : List (Int × Int) × Int × Int} {i : Nat} (h : LawI s i) (hi : i ≤ 20) : s.1.length = i ∧ (-(2 ^ 231) ≤ s.2.1 ∧ s.2.1 ≤ 2 ^ 231) ∧ 0 < s.2.2 ∧ s.2.2 ≤ 2 ^ 231 := by
  obtain ⟨a, b, c, d, e⟩ := h
  have := (pow11_le (i := i) (by omega)).2
  omega
theorem part_ok {numbers : List Int} (hn : ∀ x ∈ numbers, 0 ≤ x ∧ x ≤ 1008) (a b c : Nat) : (-1000 ≤ numbers.getD a default - 500 * (numbers.getD b default % 3) ∧ numbers.getD a default - 500 * (numbers.getD b default % 3) ≤ 1008) ∧ 1 ≤ 1 + numbers.getD c default ∧ 1 + numbers.getD c default ≤ 1009 := by
  have h1 := getD_bound hn a
  have h2 := getD_bound hn b
  have h3 := getD_bound hn c
  omega
theorem low_ok {p w g : Int} (hp : -1000 ≤ p ∧ p ≤ 1008) (hw : 1 ≤ w ∧ w ≤ 1009) (hg : g = ((Nat.gcd p.natAbs w.natAbs : Nat) : Int)) : -1020 ≤ p / g ∧ p / g ≤ 1020 ∧ 0 < w / g ∧ w / g ≤ 1020 := by
  have q := ratio_bound p w (by omega) 1010 (by omega) (by omega) (by omega)
  rw [ratio_shape p w (by omega), ← hg] at q
  dsimp only at q
  omega
theorem law_step2 {s : List (Int × Int) × Int × Int} {i : Nat} (h : LawI s i) {p w g t : Int} (hp : -1000 ≤ p ∧ p ≤ 1008) (hw : 1 ≤ w ∧ w ≤ 1009) (hg : m_law_divisor p w = g) (ht : s.2.1 * w + p * s.2.2 = t) : LawI (s.1 ++ [(p / g, w / g)], t, s.2.2 * w) (i + 1) := by
  obtain ⟨a, b, c, d, e⟩ := h
  subst ht
  have hl := low_ok hp hw (hg.symm.trans (divisor_eq p w (by omega) (by omega)))
  have g := add_le (a := s.2.1) (b := s.2.2) (c := p) (d := w) (E := 2 ^ (11 * i)) c ⟨d, e⟩ (by omega) (by omega)
  unfold LawI
  rw [pow11]
  dsimp only
  refine ⟨by rw [List.length_append, a]; rfl, fun r hr => ?_, g.1, g.2⟩
  rcases List.mem_append.mp hr with q | q
  · exact b r q
  · rw [List.mem_singleton.mp q]; exact hl
theorem law_step {numbers : List Int} (hn : ∀ x ∈ numbers, 0 ≤ x ∧ x ≤ 1008) {s : List (Int × Int) × Int × Int} {i : Nat} (h : LawI s i) (y : Nat) : LawI (m_law_l0 numbers s y) (i + 1) := by
  have hp := part_ok hn (((1 : Int) + ((3 : Int) * ((0 : Int) + (y : Int))))).toNat (((3 : Int) + ((3 : Int) * ((0 : Int) + (y : Int))))).toNat (((2 : Int) + ((3 : Int) * ((0 : Int) + (y : Int))))).toNat
  exact law_step2 h hp.1 hp.2 rfl rfl
theorem sum_all : ∀ (xs : List (Int × Int)) (t : Int × Int) (i : Nat), RB2 t i → (∀ r ∈ xs, -1020 ≤ r.1 ∧ r.1 ≤ 1020 ∧ 0 < r.2 ∧ r.2 ≤ 1020) → RB2 (xs.foldl m_sum_ratios_l0 t) (i + xs.length)
  | [], _, _, h, _ => h
  | x :: xs, t, i, h, hx => by
    rw [List.foldl_cons, List.length_cons, show i + (xs.length + 1) = i + 1 + xs.length by omega]
    exact sum_all xs _ _ (rb_step h (hx x List.mem_cons_self)) fun r hr => hx r (List.mem_cons_of_mem _ hr)
theorem sum_bnd {xs : List (Int × Int)} (h : xs.length ≤ 20) (hx : ∀ r ∈ xs, -1020 ≤ r.1 ∧ r.1 ≤ 1020 ∧ 0 < r.2 ∧ r.2 ≤ 1020) : -(2 ^ 231) ≤ (m_sum_ratios xs).1 ∧ (m_sum_ratios xs).1 ≤ 2 ^ 231 ∧ 0 < (m_sum_ratios xs).2 ∧ (m_sum_ratios xs).2 ≤ 2 ^ 231 := by
  have g := sum_all xs (0, 1) 0 rb0 hx
  rw [Nat.zero_add] at g
  exact rb_le g (by omega)
theorem low_big {p w : Int} (hp : -(2 ^ 231) ≤ p ∧ p ≤ 2 ^ 231) (hw : 0 < w ∧ w ≤ 2 ^ 231) : -(2 ^ 231) ≤ p / m_law_divisor p w ∧ p / m_law_divisor p w ≤ 2 ^ 231 ∧ 0 < w / m_law_divisor p w ∧ w / m_law_divisor p w ≤ 2 ^ 231 := by
  have q := ratio_bound p w hw.1 (2 ^ 231 + 1) (by omega) (by omega) (by omega)
  rw [ratio_shape p w hw.1, ← divisor_eq p w (by omega) (by omega)] at q
  dsimp only at q
  omega
theorem law_mem {s : List (Int × Int) × Int × Int} {i : Nat} (h : LawI s i) (hi : i ≤ 20) {r : Int × Int} (hr : r ∈ s.1 ++ [((0 : Int), (1 : Int)), (s.2.1 / m_law_divisor s.2.1 s.2.2, s.2.2 / m_law_divisor s.2.1 s.2.2)]) : -(2 ^ 231) ≤ r.1 ∧ r.1 ≤ 2 ^ 231 ∧ 0 < r.2 ∧ r.2 ≤ 2 ^ 231 := by
  have hl := law_le h hi
  rcases List.mem_append.mp hr with q | q
  · have := h.2.1 r q; omega
  · simp only [List.mem_cons, List.not_mem_nil, or_false] at q
    rcases q with rfl | rfl
    · decide
    · exact low_big hl.2.1 hl.2.2
theorem law_div {s : List (Int × Int) × Int × Int} {i : Nat} (h : LawI s i) (hi : i ≤ 20) : 0 < m_law_divisor s.2.1 s.2.2 ∧ m_law_divisor s.2.1 s.2.2 ≤ s.2.2 := by
  have hl := law_le h hi
  exact divisor_bound _ _ hl.2.2.1 (by have := hl.2.2.2; omega)
set_option hygiene false in
local macro_rules | `(tactic| walk_at "pre") => `(tactic| first | exact ⟨by omega, by omega⟩ | exact ⟨by omega, by omega, by omega, by omega⟩ | exact ⟨by have := hlf.1; omega, hli.2.1⟩ | omega | fail)
set_option hygiene false in
local macro_rules | `(tactic| walk_at "str") => `(tactic| exact str_wide ⟨by omega, by omega⟩)
set_option hygiene false in
local macro_rules | `(tactic| walk_at "divw") => `(tactic| first | exact divW_of ⟨by omega, by omega⟩ | exact divW_of ⟨by have := hdv; omega, by have := hdv; omega⟩ | fail)
set_option hygiene false in
local macro_rules | `(tactic| walk_at "sd") => `(tactic| first | (have hx1 := tos_le (z := zy0.1) (str_wide ⟨by omega, by omega⟩); have hx2 := tos_le (z := zy0.2) (str_wide ⟨by omega, by omega⟩); have hx3 : (Str.ofString "/").length = 1 := (by decide +kernel); simp only [Str.length_append, sizeLine_eq]; omega) | (rw [sizeLine_eq]; have := hlf.1; simp only [List.length_cons, List.length_nil]; omega) | fail)
theorem sc_law : FnScope ["script", "numbers", "ratios", "top", "bottom", "k", "part", "whole", "divisor", "handed", "actual", "ratio", "text", "due"] ["script"] (defScope s_law) := ⟨rfl, rfl, rfl, by decide +kernel, rfl, by decide +kernel, by decide +kernel⟩
def sp_law : SpN := fun zcs zL zKc => ∃ script : List Int, zcs = [.fr ((eL D.int) script)] ∧ zL = [] ∧ (script.length ≤ 63) ∧ ∀ zL', zKc (.fr (D.bl (m_law script))) zL'
theorem ok_law (T : TX P K mg) : FnOk P w K mg base CX0 4 T.a_law T.d_law ["script"] (SpOf K mg sp_law) := by
  have O_law_divisor := ok_law_divisor (P := P) (w := w) (base := base) T
  have O_law_is_ratio := ok_law_is_ratio (P := P) (w := w) (base := base) T
  have O_law_numbers := ok_law_numbers (P := P) (w := w) (base := base) T
  have O_ratio_text := ok_ratio_text (P := P) (w := w) (base := base) T
  have O_sum_ratios := ok_sum_ratios (P := P) (w := w) (base := base) T
  refine T.F_law.okN sc_law (fun zcs zL zKc zh => by obtain ⟨script, rfl, _⟩ := zh; rfl) fun zcdv zA zout zst zH zE zB zcs zL zKc zhr zh => ?_
  obtain ⟨script, rfl, rfl, hpre, zk⟩ := zh
  have nd := sc_law.nd
  have hSL := sizeLine_eq
  show Exs _ _ _ ⟨[some (.fr ((eL D.int) script)), none, none, none, none, none, none, none, none, none, none, none, none, none], []⟩ _
  refine exs_cons (ex_set 1 (ev_call (ds := [(eL D.int) script, D.int (61 : Int)]) (ds' := []) (dvs := []) (dfs := []) O_law_numbers (zhr.mono (by decide)) T.m_law_numbers T.k_law_numbers T.b_law_numbers .nil (fun _ => .nil) (ea_cons (ev_var 0 rfl (.inl rfl) rfl) (ea_cons ev_int ea_nil)) (fun _ zkk => ⟨script, (61 : Int), rfl, rfl, (by walk_at "pre"), zkk⟩) (by exact rfl)) ?_ nd rfl (.inl rfl))
  show Exs _ _ _ ⟨[some (.fr ((eL D.int) script)), some (.fr ((eL D.int) (m_law_numbers script (61 : Int)))), none, none, none, none, none, none, none, none, none, none, none, none], []⟩ _
  generalize zg_numbers : (m_law_numbers script (61 : Int)) = numbers
  show Exs _ _ _ ⟨[some (.fr ((eL D.int) script)), some (.fr ((eL D.int) numbers)), none, none, none, none, none, none, none, none, none, none, none, none], []⟩ _
  have hnf := numbers_facts script (61 : Int) (by decide)
  rw [zg_numbers] at hnf
  have hnum : numbers.length = 61 := hnf.1
  have hb0 := getD_bound hnf.2 ((0 : Int)).toNat
  refine exs_cons (ex_set 2 (ev_lstN 100 (enc := (eT2 D.int D.int)) ([] : List (Int × Int)) ea_nil rfl (by simp only [List.length_cons, List.length_nil]; decide) (by simp [names]) (by decide)) ?_ nd rfl (.inl rfl))
  show Exs _ _ _ ⟨[some (.fr ((eL D.int) script)), some (.fr ((eL D.int) numbers)), some (.ad 100), none, none, none, none, none, none, none, none, none, none, none], [(100, .fl ((([] : List (Int × Int))).map (eT2 D.int D.int)))]⟩ _
  refine exs_cons (ex_set 3 ev_int ?_ nd rfl (.inl rfl))
  show Exs _ _ _ ⟨[some (.fr ((eL D.int) script)), some (.fr ((eL D.int) numbers)), some (.ad 100), some (.fr (D.int (0 : Int))), none, none, none, none, none, none, none, none, none, none], [(100, .fl ((([] : List (Int × Int))).map (eT2 D.int D.int)))]⟩ _
  refine exs_cons (ex_set 4 ev_int ?_ nd rfl (.inl rfl))
  show Exs _ _ _ ⟨[some (.fr ((eL D.int) script)), some (.fr ((eL D.int) numbers)), some (.ad 100), some (.fr (D.int (0 : Int))), some (.fr (D.int (1 : Int))), none, none, none, none, none, none, none, none, none], [(100, .fl ((([] : List (Int × Int))).map (eT2 D.int D.int)))]⟩ _
  refine exs_cons (ex_forF (enc := (fun i : Nat => D.int ((0 : Int) + (i : Int)))) (fun (zs0 : (List (Int × Int)) × Int × Int) => (⟨[some (.fr ((eL D.int) script)), some (.fr ((eL D.int) numbers)), some (.ad 100), some (.fr (D.int zs0.2.1)), some (.fr (D.int zs0.2.2)), none, none, none, none, none, none, none, none, none], [(100, .fl ((zs0.1).map (eT2 D.int D.int)))]⟩ : Nz.S)) (m_law_l0 numbers) (([] : List (Int × Int)), (0 : Int), (1 : Int)) (fun (zi0 : Nat) (zs0 : (List (Int × Int)) × Int × Int) => LawI zs0 zi0) (src_range1 (ea_cons (ev_bin (o_mod (by walk_at "sd")) (ev_ix (ix_L (xs := numbers) (enc := D.int) (by exact rfl) (by walk_at "sd") (by walk_at "sd")) (ev_var 1 rfl (.inl rfl) rfl) ev_int) ev_int) ea_nil) (by exact rfl) T.n_range (by walk_at "sd") (by walk_at "sd")) (by exact ⟨⟨.inr rfl, .inr rfl, .inr rfl, .inr rfl, .inr rfl, .inl rfl, .inl rfl, .inl rfl, .inl rfl, .inl rfl, .inl rfl, .inl rfl, .inl rfl, .inl rfl, trivial⟩, rfl⟩) law0 ?_ ?_ PassesOwn.never rfl)
  · intro zi0 zy0 zs0 zhy0 zq0
    skip
    have hy0 := seq_range zhy0
    have hi := (List.getElem?_eq_some_iff.mp zhy0).1
    simp only [List.length_range] at hi
    have hlw := law_le zq0 (by omega)
    refine ⟨⟨[some (.fr ((eL D.int) script)), some (.fr ((eL D.int) numbers)), some (.ad 100), some (.fr (D.int zs0.2.1)), some (.fr (D.int zs0.2.2)), some (.fr (D.int ((0 : Int) + (zy0 : Int)))), none, none, none, none, none, none, none, none], [(100, .fl ((zs0.1).map (eT2 D.int D.int)))]⟩, (eg_name 5 nd rfl (.inl rfl)), ?_⟩
    refine exs_cons (ex_set 6 (ev_bin o_sub (ev_ix (ix_L (xs := numbers) (enc := D.int) (by exact rfl) (by walk_at "sd") (by walk_at "sd")) (ev_var 1 rfl (.inl rfl) rfl) (ev_bin o_add ev_int (ev_bin (o_mulW (by walk_at "mulw")) ev_int (ev_var 5 rfl (.inl rfl) rfl)))) (ev_bin (o_mulW (by walk_at "mulw")) ev_int (ev_bin (o_mod (by walk_at "sd")) (ev_ix (ix_L (xs := numbers) (enc := D.int) (by exact rfl) (by walk_at "sd") (by walk_at "sd")) (ev_var 1 rfl (.inl rfl) rfl) (ev_bin o_add ev_int (ev_bin (o_mulW (by walk_at "mulw")) ev_int (ev_var 5 rfl (.inl rfl) rfl)))) ev_int))) ?_ nd rfl (.inl rfl))
    show Exs _ _ _ ⟨[some (.fr ((eL D.int) script)), some (.fr ((eL D.int) numbers)), some (.ad 100), some (.fr (D.int zs0.2.1)), some (.fr (D.int zs0.2.2)), some (.fr (D.int ((0 : Int) + (zy0 : Int)))), some (.fr (D.int ((numbers.getD (((1 : Int) + ((3 : Int) * ((0 : Int) + (zy0 : Int))))).toNat default) - ((500 : Int) * ((numbers.getD (((3 : Int) + ((3 : Int) * ((0 : Int) + (zy0 : Int))))).toNat default) % (3 : Int)))))), none, none, none, none, none, none, none], [(100, .fl ((zs0.1).map (eT2 D.int D.int)))]⟩ _
    generalize zg_part : ((numbers.getD (((1 : Int) + ((3 : Int) * ((0 : Int) + (zy0 : Int))))).toNat default) - ((500 : Int) * ((numbers.getD (((3 : Int) + ((3 : Int) * ((0 : Int) + (zy0 : Int))))).toNat default) % (3 : Int)))) = part
    show Exs _ _ _ ⟨[some (.fr ((eL D.int) script)), some (.fr ((eL D.int) numbers)), some (.ad 100), some (.fr (D.int zs0.2.1)), some (.fr (D.int zs0.2.2)), some (.fr (D.int ((0 : Int) + (zy0 : Int)))), some (.fr (D.int part)), none, none, none, none, none, none, none], [(100, .fl ((zs0.1).map (eT2 D.int D.int)))]⟩ _
    have hpk := (part_ok hnf.2 (((1 : Int) + ((3 : Int) * ((0 : Int) + (zy0 : Int))))).toNat (((3 : Int) + ((3 : Int) * ((0 : Int) + (zy0 : Int))))).toNat 0).1
    rw [zg_part] at hpk
    refine exs_cons (ex_set 7 (ev_bin o_add ev_int (ev_ix (ix_L (xs := numbers) (enc := D.int) (by exact rfl) (by walk_at "sd") (by walk_at "sd")) (ev_var 1 rfl (.inl rfl) rfl) (ev_bin o_add ev_int (ev_bin (o_mulW (by walk_at "mulw")) ev_int (ev_var 5 rfl (.inl rfl) rfl))))) ?_ nd rfl (.inl rfl))
    show Exs _ _ _ ⟨[some (.fr ((eL D.int) script)), some (.fr ((eL D.int) numbers)), some (.ad 100), some (.fr (D.int zs0.2.1)), some (.fr (D.int zs0.2.2)), some (.fr (D.int ((0 : Int) + (zy0 : Int)))), some (.fr (D.int part)), some (.fr (D.int ((1 : Int) + (numbers.getD (((2 : Int) + ((3 : Int) * ((0 : Int) + (zy0 : Int))))).toNat default)))), none, none, none, none, none, none], [(100, .fl ((zs0.1).map (eT2 D.int D.int)))]⟩ _
    generalize zg_whole : ((1 : Int) + (numbers.getD (((2 : Int) + ((3 : Int) * ((0 : Int) + (zy0 : Int))))).toNat default)) = whole
    show Exs _ _ _ ⟨[some (.fr ((eL D.int) script)), some (.fr ((eL D.int) numbers)), some (.ad 100), some (.fr (D.int zs0.2.1)), some (.fr (D.int zs0.2.2)), some (.fr (D.int ((0 : Int) + (zy0 : Int)))), some (.fr (D.int part)), some (.fr (D.int whole)), none, none, none, none, none, none], [(100, .fl ((zs0.1).map (eT2 D.int D.int)))]⟩ _
    have hwk := (part_ok hnf.2 0 0 (((2 : Int) + ((3 : Int) * ((0 : Int) + (zy0 : Int))))).toNat).2
    rw [zg_whole] at hwk
    have hdk := divisor_bound part whole (by omega) (by omega)
    refine exs_cons (ex_set 8 (ev_call (ds := [D.int part, D.int whole]) (ds' := []) (dvs := []) (dfs := []) O_law_divisor (zhr.mono (by decide)) T.m_law_divisor T.k_law_divisor T.b_law_divisor .nil (fun _ => .nil) (ea_cons (ev_var 6 rfl (.inl rfl) rfl) (ea_cons (ev_var 7 rfl (.inl rfl) rfl) ea_nil)) (fun _ zkk => ⟨part, whole, rfl, rfl, trivial, zkk⟩) (by exact rfl)) ?_ nd rfl (.inl rfl))
    show Exs _ _ _ ⟨[some (.fr ((eL D.int) script)), some (.fr ((eL D.int) numbers)), some (.ad 100), some (.fr (D.int zs0.2.1)), some (.fr (D.int zs0.2.2)), some (.fr (D.int ((0 : Int) + (zy0 : Int)))), some (.fr (D.int part)), some (.fr (D.int whole)), some (.fr (D.int (m_law_divisor part whole))), none, none, none, none, none], [(100, .fl ((zs0.1).map (eT2 D.int D.int)))]⟩ _
    generalize zg_divisor : (m_law_divisor part whole) = divisor
    show Exs _ _ _ ⟨[some (.fr ((eL D.int) script)), some (.fr ((eL D.int) numbers)), some (.ad 100), some (.fr (D.int zs0.2.1)), some (.fr (D.int zs0.2.2)), some (.fr (D.int ((0 : Int) + (zy0 : Int)))), some (.fr (D.int part)), some (.fr (D.int whole)), some (.fr (D.int divisor)), none, none, none, none, none], [(100, .fl ((zs0.1).map (eT2 D.int D.int)))]⟩ _
    rw [zg_divisor] at hdk
    refine exs_cons (ex_expr (ev_appendT (n := 100) (enc := (eT2 D.int D.int)) (xs := zs0.1) (xs0 := zs0.1) ((part / divisor), (whole / divisor)) rfl rfl rfl (by walk_at "sd") (ev_var 2 rfl (.inl rfl) rfl) (ev_tup (ds := [D.int (part / divisor), D.int (whole / divisor)]) (ea_cons (ev_bin (o_divW (by walk_at "divw")) (ev_var 6 rfl (.inl rfl) rfl) (ev_var 8 rfl (.inl rfl) rfl)) (ea_cons (ev_bin (o_divW (by walk_at "divw")) (ev_var 7 rfl (.inl rfl) rfl) (ev_var 8 rfl (.inl rfl) rfl)) ea_nil)) (by simp only [List.length_cons, List.length_nil]; decide))) ?_)
    show Exs _ _ _ ⟨[some (.fr ((eL D.int) script)), some (.fr ((eL D.int) numbers)), some (.ad 100), some (.fr (D.int zs0.2.1)), some (.fr (D.int zs0.2.2)), some (.fr (D.int ((0 : Int) + (zy0 : Int)))), some (.fr (D.int part)), some (.fr (D.int whole)), some (.fr (D.int divisor)), none, none, none, none, none], [(100, .fl (((zs0.1 ++ [((part / divisor), (whole / divisor))])).map (eT2 D.int D.int)))]⟩ _
    refine exs_cons (ex_set 3 (ev_bin o_add (ev_bin (o_mulW (by walk_at "mulw")) (ev_var 3 rfl (.inl rfl) rfl) (ev_var 7 rfl (.inl rfl) rfl)) (ev_bin (o_mulW (by walk_at "mulw")) (ev_var 6 rfl (.inl rfl) rfl) (ev_var 4 rfl (.inl rfl) rfl))) ?_ nd rfl (.inl rfl))
    show Exs _ _ _ ⟨[some (.fr ((eL D.int) script)), some (.fr ((eL D.int) numbers)), some (.ad 100), some (.fr (D.int ((zs0.2.1 * whole) + (part * zs0.2.2)))), some (.fr (D.int zs0.2.2)), some (.fr (D.int ((0 : Int) + (zy0 : Int)))), some (.fr (D.int part)), some (.fr (D.int whole)), some (.fr (D.int divisor)), none, none, none, none, none], [(100, .fl (((zs0.1 ++ [((part / divisor), (whole / divisor))])).map (eT2 D.int D.int)))]⟩ _
    generalize zg_top : ((zs0.2.1 * whole) + (part * zs0.2.2)) = top
    show Exs _ _ _ ⟨[some (.fr ((eL D.int) script)), some (.fr ((eL D.int) numbers)), some (.ad 100), some (.fr (D.int top)), some (.fr (D.int zs0.2.2)), some (.fr (D.int ((0 : Int) + (zy0 : Int)))), some (.fr (D.int part)), some (.fr (D.int whole)), some (.fr (D.int divisor)), none, none, none, none, none], [(100, .fl (((zs0.1 ++ [((part / divisor), (whole / divisor))])).map (eT2 D.int D.int)))]⟩ _
    refine exs_one (ex_set 4 (ev_bin (o_mulW (by walk_at "mulw")) (ev_var 4 rfl (.inl rfl) rfl) (ev_var 7 rfl (.inl rfl) rfl)) ?_ nd rfl (.inl rfl))
    have est : (m_law_l0 numbers) zs0 zy0 = ((zs0.1 ++ [((part / divisor), (whole / divisor))]), top, (zs0.2.2 * whole)) := by subst zg_top; subst zg_divisor; subst zg_whole; subst zg_part; simp only [m_law_l0, not_true_eq_false, not_false_eq_true, ↓reduceIte]
    show Le _ _ ∧ _
    try rw [est]
    exact ⟨(by exact ⟨⟨.inr rfl, .inr rfl, .inr rfl, .inr rfl, .inr rfl, .inl rfl, .inl rfl, .inl rfl, .inl rfl, .inl rfl, .inl rfl, .inl rfl, .inl rfl, .inl rfl, trivial⟩, rfl⟩), (law_step2 zq0 hpk hwk zg_divisor zg_top)⟩
  · intro zq0
    have hli := zq0
    simp only [List.length_range] at hli
    have hlf := law_le hli (by omega)
    have hdv := law_div hli (by omega)
    have hsm := sum_bnd (by have := hlf.1; omega) hli.2.1
    show Exs _ _ _ ⟨[some (.fr ((eL D.int) script)), some (.fr ((eL D.int) numbers)), some (.ad 100), some (.fr (D.int (((List.range (((numbers.getD ((0 : Int)).toNat default) % (21 : Int))).toNat).foldl (m_law_l0 numbers) (([] : List (Int × Int)), (0 : Int), (1 : Int))).2.1))), some (.fr (D.int (((List.range (((numbers.getD ((0 : Int)).toNat default) % (21 : Int))).toNat).foldl (m_law_l0 numbers) (([] : List (Int × Int)), (0 : Int), (1 : Int))).2.2))), none, none, none, none, none, none, none, none, none], [(100, .fl ((((List.range (((numbers.getD ((0 : Int)).toNat default) % (21 : Int))).toNat).foldl (m_law_l0 numbers) (([] : List (Int × Int)), (0 : Int), (1 : Int))).1).map (eT2 D.int D.int)))]⟩ _
    refine exs_cons (ex_set 9 (ev_listC (xs := ((List.range (((numbers.getD ((0 : Int)).toNat default) % (21 : Int))).toNat).foldl (m_law_l0 numbers) (([] : List (Int × Int)), (0 : Int), (1 : Int))).1) (enc := (eT2 D.int D.int)) (by exact rfl) (ev_var 2 rfl (.inl rfl) rfl) (by exact rfl) T.n_list) ?_ nd rfl (.inl rfl))
    show Exs _ _ _ ⟨[some (.fr ((eL D.int) script)), some (.fr ((eL D.int) numbers)), some (.ad 100), some (.fr (D.int (((List.range (((numbers.getD ((0 : Int)).toNat default) % (21 : Int))).toNat).foldl (m_law_l0 numbers) (([] : List (Int × Int)), (0 : Int), (1 : Int))).2.1))), some (.fr (D.int (((List.range (((numbers.getD ((0 : Int)).toNat default) % (21 : Int))).toNat).foldl (m_law_l0 numbers) (([] : List (Int × Int)), (0 : Int), (1 : Int))).2.2))), none, none, none, none, some (.fr ((eL (eT2 D.int D.int)) (((List.range (((numbers.getD ((0 : Int)).toNat default) % (21 : Int))).toNat).foldl (m_law_l0 numbers) (([] : List (Int × Int)), (0 : Int), (1 : Int))).1))), none, none, none, none], [(100, .fl ((((List.range (((numbers.getD ((0 : Int)).toNat default) % (21 : Int))).toNat).foldl (m_law_l0 numbers) (([] : List (Int × Int)), (0 : Int), (1 : Int))).1).map (eT2 D.int D.int)))]⟩ _
    refine exs_cons (ex_set 10 (ev_call (ds := [(eL (eT2 D.int D.int)) (((List.range (((numbers.getD ((0 : Int)).toNat default) % (21 : Int))).toNat).foldl (m_law_l0 numbers) (([] : List (Int × Int)), (0 : Int), (1 : Int))).1)]) (ds' := []) (dvs := []) (dfs := []) O_sum_ratios (zhr.mono (by decide)) T.m_sum_ratios T.k_sum_ratios T.b_sum_ratios .nil (fun _ => .nil) (ea_cons (ev_var 9 rfl (.inl rfl) rfl) ea_nil) (fun _ zkk => ⟨((List.range (((numbers.getD ((0 : Int)).toNat default) % (21 : Int))).toNat).foldl (m_law_l0 numbers) (([] : List (Int × Int)), (0 : Int), (1 : Int))).1, rfl, rfl, (by walk_at "pre"), zkk⟩) (by exact rfl)) ?_ nd rfl (.inl rfl))
    show Exs _ _ _ ⟨[some (.fr ((eL D.int) script)), some (.fr ((eL D.int) numbers)), some (.ad 100), some (.fr (D.int (((List.range (((numbers.getD ((0 : Int)).toNat default) % (21 : Int))).toNat).foldl (m_law_l0 numbers) (([] : List (Int × Int)), (0 : Int), (1 : Int))).2.1))), some (.fr (D.int (((List.range (((numbers.getD ((0 : Int)).toNat default) % (21 : Int))).toNat).foldl (m_law_l0 numbers) (([] : List (Int × Int)), (0 : Int), (1 : Int))).2.2))), none, none, none, none, some (.fr ((eL (eT2 D.int D.int)) (((List.range (((numbers.getD ((0 : Int)).toNat default) % (21 : Int))).toNat).foldl (m_law_l0 numbers) (([] : List (Int × Int)), (0 : Int), (1 : Int))).1))), some (.fr ((eT2 D.int D.int) (m_sum_ratios (((List.range (((numbers.getD ((0 : Int)).toNat default) % (21 : Int))).toNat).foldl (m_law_l0 numbers) (([] : List (Int × Int)), (0 : Int), (1 : Int))).1)))), none, none, none], [(100, .fl ((((List.range (((numbers.getD ((0 : Int)).toNat default) % (21 : Int))).toNat).foldl (m_law_l0 numbers) (([] : List (Int × Int)), (0 : Int), (1 : Int))).1).map (eT2 D.int D.int)))]⟩ _
    generalize zg_actual : (m_sum_ratios (((List.range (((numbers.getD ((0 : Int)).toNat default) % (21 : Int))).toNat).foldl (m_law_l0 numbers) (([] : List (Int × Int)), (0 : Int), (1 : Int))).1)) = actual
    show Exs _ _ _ ⟨[some (.fr ((eL D.int) script)), some (.fr ((eL D.int) numbers)), some (.ad 100), some (.fr (D.int (((List.range (((numbers.getD ((0 : Int)).toNat default) % (21 : Int))).toNat).foldl (m_law_l0 numbers) (([] : List (Int × Int)), (0 : Int), (1 : Int))).2.1))), some (.fr (D.int (((List.range (((numbers.getD ((0 : Int)).toNat default) % (21 : Int))).toNat).foldl (m_law_l0 numbers) (([] : List (Int × Int)), (0 : Int), (1 : Int))).2.2))), none, none, none, none, some (.fr ((eL (eT2 D.int D.int)) (((List.range (((numbers.getD ((0 : Int)).toNat default) % (21 : Int))).toNat).foldl (m_law_l0 numbers) (([] : List (Int × Int)), (0 : Int), (1 : Int))).1))), some (.fr ((eT2 D.int D.int) actual)), none, none, none], [(100, .fl ((((List.range (((numbers.getD ((0 : Int)).toNat default) % (21 : Int))).toNat).foldl (m_law_l0 numbers) (([] : List (Int × Int)), (0 : Int), (1 : Int))).1).map (eT2 D.int D.int)))]⟩ _
    rw [zg_actual] at hsm
    refine exs_freezeT 100 (xs := ((List.range (((numbers.getD ((0 : Int)).toNat default) % (21 : Int))).toNat).foldl (m_law_l0 numbers) (([] : List (Int × Int)), (0 : Int), (1 : Int))).1) (enc := (eT2 D.int D.int)) (by exact rfl) ?_
    show Exs _ _ _ ⟨[some (.fr ((eL D.int) script)), some (.fr ((eL D.int) numbers)), some (.fr ((eL (eT2 D.int D.int)) (((List.range (((numbers.getD ((0 : Int)).toNat default) % (21 : Int))).toNat).foldl (m_law_l0 numbers) (([] : List (Int × Int)), (0 : Int), (1 : Int))).1))), some (.fr (D.int (((List.range (((numbers.getD ((0 : Int)).toNat default) % (21 : Int))).toNat).foldl (m_law_l0 numbers) (([] : List (Int × Int)), (0 : Int), (1 : Int))).2.1))), some (.fr (D.int (((List.range (((numbers.getD ((0 : Int)).toNat default) % (21 : Int))).toNat).foldl (m_law_l0 numbers) (([] : List (Int × Int)), (0 : Int), (1 : Int))).2.2))), none, none, none, none, some (.fr ((eL (eT2 D.int D.int)) (((List.range (((numbers.getD ((0 : Int)).toNat default) % (21 : Int))).toNat).foldl (m_law_l0 numbers) (([] : List (Int × Int)), (0 : Int), (1 : Int))).1))), some (.fr ((eT2 D.int D.int) actual)), none, none, none], []⟩ _
    refine exs_cons (ex_ifP (bd_or (bd_not Iff.rfl) bd_n) (Ew.et (ew_orP (bd_not Iff.rfl) (et_not (et_val (ev_call (ds := [(eT2 D.int D.int) actual]) (ds' := []) (dvs := []) (dfs := []) O_law_is_ratio (zhr.mono (by decide)) T.m_law_is_ratio T.k_law_is_ratio T.b_law_is_ratio .nil (fun _ => .nil) (ea_cons (ev_var 10 rfl (.inl rfl) rfl) ea_nil) (fun _ zkk => ⟨actual, rfl, rfl, trivial, zkk⟩) (by exact rfl)))) (fun zhp => (ew_or1 (et_cmp (o_neD (e := (eL (eT2 D.int D.int))) (x := ((List.range (((numbers.getD ((0 : Int)).toNat default) % (21 : Int))).toNat).foldl (m_law_l0 numbers) (([] : List (Int × Int)), (0 : Int), (1 : Int))).1) (y := ((List.range (((numbers.getD ((0 : Int)).toNat default) % (21 : Int))).toNat).foldl (m_law_l0 numbers) (([] : List (Int × Int)), (0 : Int), (1 : Int))).1) zhr.units (ee_L (ee_T2 ee_int ee_int))) (ev_var 9 rfl (.inl rfl) rfl) (ev_var 2 rfl (.inl rfl) rfl) (nomark _)))))) (fun (zh1 : ((¬ ((m_law_is_ratio actual) = true)) ∨ (¬ (((List.range (((numbers.getD ((0 : Int)).toNat default) % (21 : Int))).toNat).foldl (m_law_l0 numbers) (([] : List (Int × Int)), (0 : Int), (1 : Int))).1 = ((List.range (((numbers.getD ((0 : Int)).toNat default) % (21 : Int))).toNat).foldl (m_law_l0 numbers) (([] : List (Int × Int)), (0 : Int), (1 : Int))).1)))) => ?_) (fun (zh1 : ¬ ((¬ ((m_law_is_ratio actual) = true)) ∨ (¬ (((List.range (((numbers.getD ((0 : Int)).toNat default) % (21 : Int))).toNat).foldl (m_law_l0 numbers) (([] : List (Int × Int)), (0 : Int), (1 : Int))).1 = ((List.range (((numbers.getD ((0 : Int)).toNat default) % (21 : Int))).toNat).foldl (m_law_l0 numbers) (([] : List (Int × Int)), (0 : Int), (1 : Int))).1)))) => ?_))
    · skip
      refine exs_one (ex_ret ev_bl ?_)
      have efin : m_law script = false := by subst zg_actual; subst zg_numbers; simp only [m_law, not_true_eq_false, not_false_eq_true, ↓reduceIte, ↓if_pos zh1]
      rw [efin] at zk
      exact zk _
    · skip
      refine exs_nil ?_
      show Exs _ _ _ ⟨[some (.fr ((eL D.int) script)), some (.fr ((eL D.int) numbers)), some (.fr ((eL (eT2 D.int D.int)) (((List.range (((numbers.getD ((0 : Int)).toNat default) % (21 : Int))).toNat).foldl (m_law_l0 numbers) (([] : List (Int × Int)), (0 : Int), (1 : Int))).1))), some (.fr (D.int (((List.range (((numbers.getD ((0 : Int)).toNat default) % (21 : Int))).toNat).foldl (m_law_l0 numbers) (([] : List (Int × Int)), (0 : Int), (1 : Int))).2.1))), some (.fr (D.int (((List.range (((numbers.getD ((0 : Int)).toNat default) % (21 : Int))).toNat).foldl (m_law_l0 numbers) (([] : List (Int × Int)), (0 : Int), (1 : Int))).2.2))), none, none, none, none, some (.fr ((eL (eT2 D.int D.int)) (((List.range (((numbers.getD ((0 : Int)).toNat default) % (21 : Int))).toNat).foldl (m_law_l0 numbers) (([] : List (Int × Int)), (0 : Int), (1 : Int))).1))), some (.fr ((eT2 D.int D.int) actual)), none, none, none], []⟩ _
      refine exs_cons (ex_ifP bd_n (et_cmp o_nei (ev_bin (o_mulW (by walk_at "mulw")) (ev_ix (.t (d := D.int actual.1) rfl) (ev_var 10 rfl (.inl rfl) rfl) ev_int) (ev_var 4 rfl (.inl rfl) rfl)) (ev_bin (o_mulW (by walk_at "mulw")) (ev_var 3 rfl (.inl rfl) rfl) (ev_ix (.t (d := D.int actual.2) rfl) (ev_var 10 rfl (.inl rfl) rfl) ev_int)) (nomark _)) (fun (zh2 : (¬ ((actual.1 * ((List.range (((numbers.getD ((0 : Int)).toNat default) % (21 : Int))).toNat).foldl (m_law_l0 numbers) (([] : List (Int × Int)), (0 : Int), (1 : Int))).2.2) = (((List.range (((numbers.getD ((0 : Int)).toNat default) % (21 : Int))).toNat).foldl (m_law_l0 numbers) (([] : List (Int × Int)), (0 : Int), (1 : Int))).2.1 * actual.2)))) => ?_) (fun (zh2 : ¬ (¬ ((actual.1 * ((List.range (((numbers.getD ((0 : Int)).toNat default) % (21 : Int))).toNat).foldl (m_law_l0 numbers) (([] : List (Int × Int)), (0 : Int), (1 : Int))).2.2) = (((List.range (((numbers.getD ((0 : Int)).toNat default) % (21 : Int))).toNat).foldl (m_law_l0 numbers) (([] : List (Int × Int)), (0 : Int), (1 : Int))).2.1 * actual.2)))) => ?_))
      · skip
        refine exs_one (ex_ret ev_bl ?_)
        have efin : m_law script = false := by first | (subst zg_actual; subst zg_numbers; simp only [m_law, not_true_eq_false, not_false_eq_true, ↓reduceIte, ↓if_neg zh1, ↓if_pos zh2]; done) | (subst zg_actual; subst zg_numbers; first | exact absurd rfl zh2)
        rw [efin] at zk
        exact zk _
      · skip
        refine exs_nil ?_
        show Exs _ _ _ ⟨[some (.fr ((eL D.int) script)), some (.fr ((eL D.int) numbers)), some (.fr ((eL (eT2 D.int D.int)) (((List.range (((numbers.getD ((0 : Int)).toNat default) % (21 : Int))).toNat).foldl (m_law_l0 numbers) (([] : List (Int × Int)), (0 : Int), (1 : Int))).1))), some (.fr (D.int (((List.range (((numbers.getD ((0 : Int)).toNat default) % (21 : Int))).toNat).foldl (m_law_l0 numbers) (([] : List (Int × Int)), (0 : Int), (1 : Int))).2.1))), some (.fr (D.int (((List.range (((numbers.getD ((0 : Int)).toNat default) % (21 : Int))).toNat).foldl (m_law_l0 numbers) (([] : List (Int × Int)), (0 : Int), (1 : Int))).2.2))), none, none, none, none, some (.fr ((eL (eT2 D.int D.int)) (((List.range (((numbers.getD ((0 : Int)).toNat default) % (21 : Int))).toNat).foldl (m_law_l0 numbers) (([] : List (Int × Int)), (0 : Int), (1 : Int))).1))), some (.fr ((eT2 D.int D.int) actual)), none, none, none], []⟩ _
        refine exs_cons (ex_forE (enc := (eT2 D.int D.int)) (fun (zs0 : Unit) => (⟨[some (.fr ((eL D.int) script)), some (.fr ((eL D.int) numbers)), some (.fr ((eL (eT2 D.int D.int)) (((List.range (((numbers.getD ((0 : Int)).toNat default) % (21 : Int))).toNat).foldl (m_law_l0 numbers) (([] : List (Int × Int)), (0 : Int), (1 : Int))).1))), some (.fr (D.int (((List.range (((numbers.getD ((0 : Int)).toNat default) % (21 : Int))).toNat).foldl (m_law_l0 numbers) (([] : List (Int × Int)), (0 : Int), (1 : Int))).2.1))), some (.fr (D.int (((List.range (((numbers.getD ((0 : Int)).toNat default) % (21 : Int))).toNat).foldl (m_law_l0 numbers) (([] : List (Int × Int)), (0 : Int), (1 : Int))).2.2))), none, none, none, none, some (.fr ((eL (eT2 D.int D.int)) (((List.range (((numbers.getD ((0 : Int)).toNat default) % (21 : Int))).toNat).foldl (m_law_l0 numbers) (([] : List (Int × Int)), (0 : Int), (1 : Int))).1))), some (.fr ((eT2 D.int D.int) actual)), none, none, none], []⟩ : Nz.S)) (m_law_l1) () (fun (zi0 : Nat) (zs0 : Unit) => True) (fun r c S' => c = .fr (D.bl r) ∧ True) (src_listT (ev_bin (o_catT (enc := (eT2 D.int D.int)) (xs := ((List.range (((numbers.getD ((0 : Int)).toNat default) % (21 : Int))).toNat).foldl (m_law_l0 numbers) (([] : List (Int × Int)), (0 : Int), (1 : Int))).1) (ys := [((0 : Int), (1 : Int)), ((((List.range (((numbers.getD ((0 : Int)).toNat default) % (21 : Int))).toNat).foldl (m_law_l0 numbers) (([] : List (Int × Int)), (0 : Int), (1 : Int))).2.1 / (m_law_divisor (((List.range (((numbers.getD ((0 : Int)).toNat default) % (21 : Int))).toNat).foldl (m_law_l0 numbers) (([] : List (Int × Int)), (0 : Int), (1 : Int))).2.1) (((List.range (((numbers.getD ((0 : Int)).toNat default) % (21 : Int))).toNat).foldl (m_law_l0 numbers) (([] : List (Int × Int)), (0 : Int), (1 : Int))).2.2))), (((List.range (((numbers.getD ((0 : Int)).toNat default) % (21 : Int))).toNat).foldl (m_law_l0 numbers) (([] : List (Int × Int)), (0 : Int), (1 : Int))).2.2 / (m_law_divisor (((List.range (((numbers.getD ((0 : Int)).toNat default) % (21 : Int))).toNat).foldl (m_law_l0 numbers) (([] : List (Int × Int)), (0 : Int), (1 : Int))).2.1) (((List.range (((numbers.getD ((0 : Int)).toNat default) % (21 : Int))).toNat).foldl (m_law_l0 numbers) (([] : List (Int × Int)), (0 : Int), (1 : Int))).2.2))))]) (by walk_at "sd")) (ev_var 2 rfl (.inl rfl) rfl) (ev_lstF (enc := (eT2 D.int D.int)) [((0 : Int), (1 : Int)), ((((List.range (((numbers.getD ((0 : Int)).toNat default) % (21 : Int))).toNat).foldl (m_law_l0 numbers) (([] : List (Int × Int)), (0 : Int), (1 : Int))).2.1 / (m_law_divisor (((List.range (((numbers.getD ((0 : Int)).toNat default) % (21 : Int))).toNat).foldl (m_law_l0 numbers) (([] : List (Int × Int)), (0 : Int), (1 : Int))).2.1) (((List.range (((numbers.getD ((0 : Int)).toNat default) % (21 : Int))).toNat).foldl (m_law_l0 numbers) (([] : List (Int × Int)), (0 : Int), (1 : Int))).2.2))), (((List.range (((numbers.getD ((0 : Int)).toNat default) % (21 : Int))).toNat).foldl (m_law_l0 numbers) (([] : List (Int × Int)), (0 : Int), (1 : Int))).2.2 / (m_law_divisor (((List.range (((numbers.getD ((0 : Int)).toNat default) % (21 : Int))).toNat).foldl (m_law_l0 numbers) (([] : List (Int × Int)), (0 : Int), (1 : Int))).2.1) (((List.range (((numbers.getD ((0 : Int)).toNat default) % (21 : Int))).toNat).foldl (m_law_l0 numbers) (([] : List (Int × Int)), (0 : Int), (1 : Int))).2.2))))] (ea_cons (ev_tup (ds := [D.int (0 : Int), D.int (1 : Int)]) (ea_cons ev_int (ea_cons ev_int ea_nil)) (by simp only [List.length_cons, List.length_nil]; decide)) (ea_cons (ev_tup (ds := [D.int (((List.range (((numbers.getD ((0 : Int)).toNat default) % (21 : Int))).toNat).foldl (m_law_l0 numbers) (([] : List (Int × Int)), (0 : Int), (1 : Int))).2.1 / (m_law_divisor (((List.range (((numbers.getD ((0 : Int)).toNat default) % (21 : Int))).toNat).foldl (m_law_l0 numbers) (([] : List (Int × Int)), (0 : Int), (1 : Int))).2.1) (((List.range (((numbers.getD ((0 : Int)).toNat default) % (21 : Int))).toNat).foldl (m_law_l0 numbers) (([] : List (Int × Int)), (0 : Int), (1 : Int))).2.2))), D.int (((List.range (((numbers.getD ((0 : Int)).toNat default) % (21 : Int))).toNat).foldl (m_law_l0 numbers) (([] : List (Int × Int)), (0 : Int), (1 : Int))).2.2 / (m_law_divisor (((List.range (((numbers.getD ((0 : Int)).toNat default) % (21 : Int))).toNat).foldl (m_law_l0 numbers) (([] : List (Int × Int)), (0 : Int), (1 : Int))).2.1) (((List.range (((numbers.getD ((0 : Int)).toNat default) % (21 : Int))).toNat).foldl (m_law_l0 numbers) (([] : List (Int × Int)), (0 : Int), (1 : Int))).2.2)))]) (ea_cons (ev_bin (o_divW (by walk_at "divw")) (ev_var 3 rfl (.inl rfl) rfl) (ev_call (ds := [D.int (((List.range (((numbers.getD ((0 : Int)).toNat default) % (21 : Int))).toNat).foldl (m_law_l0 numbers) (([] : List (Int × Int)), (0 : Int), (1 : Int))).2.1), D.int (((List.range (((numbers.getD ((0 : Int)).toNat default) % (21 : Int))).toNat).foldl (m_law_l0 numbers) (([] : List (Int × Int)), (0 : Int), (1 : Int))).2.2)]) (ds' := []) (dvs := []) (dfs := []) O_law_divisor (zhr.mono (by decide)) T.m_law_divisor T.k_law_divisor T.b_law_divisor .nil (fun _ => .nil) (ea_cons (ev_var 3 rfl (.inl rfl) rfl) (ea_cons (ev_var 4 rfl (.inl rfl) rfl) ea_nil)) (fun _ zkk => ⟨((List.range (((numbers.getD ((0 : Int)).toNat default) % (21 : Int))).toNat).foldl (m_law_l0 numbers) (([] : List (Int × Int)), (0 : Int), (1 : Int))).2.1, ((List.range (((numbers.getD ((0 : Int)).toNat default) % (21 : Int))).toNat).foldl (m_law_l0 numbers) (([] : List (Int × Int)), (0 : Int), (1 : Int))).2.2, rfl, rfl, trivial, zkk⟩) (by exact rfl))) (ea_cons (ev_bin (o_divW (by walk_at "divw")) (ev_var 4 rfl (.inl rfl) rfl) (ev_call (ds := [D.int (((List.range (((numbers.getD ((0 : Int)).toNat default) % (21 : Int))).toNat).foldl (m_law_l0 numbers) (([] : List (Int × Int)), (0 : Int), (1 : Int))).2.1), D.int (((List.range (((numbers.getD ((0 : Int)).toNat default) % (21 : Int))).toNat).foldl (m_law_l0 numbers) (([] : List (Int × Int)), (0 : Int), (1 : Int))).2.2)]) (ds' := []) (dvs := []) (dfs := []) O_law_divisor (zhr.mono (by decide)) T.m_law_divisor T.k_law_divisor T.b_law_divisor .nil (fun _ => .nil) (ea_cons (ev_var 3 rfl (.inl rfl) rfl) (ea_cons (ev_var 4 rfl (.inl rfl) rfl) ea_nil)) (fun _ zkk => ⟨((List.range (((numbers.getD ((0 : Int)).toNat default) % (21 : Int))).toNat).foldl (m_law_l0 numbers) (([] : List (Int × Int)), (0 : Int), (1 : Int))).2.1, ((List.range (((numbers.getD ((0 : Int)).toNat default) % (21 : Int))).toNat).foldl (m_law_l0 numbers) (([] : List (Int × Int)), (0 : Int), (1 : Int))).2.2, rfl, rfl, trivial, zkk⟩) (by exact rfl))) ea_nil)) (by simp only [List.length_cons, List.length_nil]; decide)) ea_nil)) rfl (by simp only [List.length_cons, List.length_nil]; decide)))) (by exact ⟨⟨.inr rfl, .inr rfl, .inr rfl, .inr rfl, .inr rfl, .inl rfl, .inl rfl, .inl rfl, .inl rfl, .inr rfl, .inr rfl, .inl rfl, .inl rfl, .inl rfl, trivial⟩, rfl⟩) trivial ?_ ?_ ?_ PassesOwn.never rfl)
        · intro zi0 zy0 zs0 zhy0 zrun0 zq0
          skip
          have hr := law_mem hli (by omega) (List.mem_of_getElem? zhy0)
          refine ⟨⟨[some (.fr ((eL D.int) script)), some (.fr ((eL D.int) numbers)), some (.fr ((eL (eT2 D.int D.int)) (((List.range (((numbers.getD ((0 : Int)).toNat default) % (21 : Int))).toNat).foldl (m_law_l0 numbers) (([] : List (Int × Int)), (0 : Int), (1 : Int))).1))), some (.fr (D.int (((List.range (((numbers.getD ((0 : Int)).toNat default) % (21 : Int))).toNat).foldl (m_law_l0 numbers) (([] : List (Int × Int)), (0 : Int), (1 : Int))).2.1))), some (.fr (D.int (((List.range (((numbers.getD ((0 : Int)).toNat default) % (21 : Int))).toNat).foldl (m_law_l0 numbers) (([] : List (Int × Int)), (0 : Int), (1 : Int))).2.2))), none, none, none, none, some (.fr ((eL (eT2 D.int D.int)) (((List.range (((numbers.getD ((0 : Int)).toNat default) % (21 : Int))).toNat).foldl (m_law_l0 numbers) (([] : List (Int × Int)), (0 : Int), (1 : Int))).1))), some (.fr ((eT2 D.int D.int) actual)), some (.fr ((eT2 D.int D.int) zy0)), none, none], []⟩, (eg_name 11 nd rfl (.inl rfl)), ?_⟩
          refine exs_cons (ex_set 12 (ev_call (ds := [(eT2 D.int D.int) zy0]) (ds' := []) (dvs := []) (dfs := []) O_ratio_text (zhr.mono (by decide)) T.m_ratio_text T.k_ratio_text T.b_ratio_text .nil (fun _ => .nil) (ea_cons (ev_var 11 rfl (.inl rfl) rfl) ea_nil) (fun _ zkk => ⟨zy0, rfl, rfl, (by walk_at "pre"), zkk⟩) (by exact rfl)) ?_ nd rfl (.inl rfl))
          show Exs _ _ _ ⟨[some (.fr ((eL D.int) script)), some (.fr ((eL D.int) numbers)), some (.fr ((eL (eT2 D.int D.int)) (((List.range (((numbers.getD ((0 : Int)).toNat default) % (21 : Int))).toNat).foldl (m_law_l0 numbers) (([] : List (Int × Int)), (0 : Int), (1 : Int))).1))), some (.fr (D.int (((List.range (((numbers.getD ((0 : Int)).toNat default) % (21 : Int))).toNat).foldl (m_law_l0 numbers) (([] : List (Int × Int)), (0 : Int), (1 : Int))).2.1))), some (.fr (D.int (((List.range (((numbers.getD ((0 : Int)).toNat default) % (21 : Int))).toNat).foldl (m_law_l0 numbers) (([] : List (Int × Int)), (0 : Int), (1 : Int))).2.2))), none, none, none, none, some (.fr ((eL (eT2 D.int D.int)) (((List.range (((numbers.getD ((0 : Int)).toNat default) % (21 : Int))).toNat).foldl (m_law_l0 numbers) (([] : List (Int × Int)), (0 : Int), (1 : Int))).1))), some (.fr ((eT2 D.int D.int) actual)), some (.fr ((eT2 D.int D.int) zy0)), some (.fr (D.str (m_ratio_text zy0))), none], []⟩ _
          refine exs_cons (ex_set 13 (ev_callTy (ds := [D.int zy0.1]) (c_str (by walk_at "str")) (ea_cons (ev_ix (.t (d := D.int zy0.1) rfl) (ev_var 11 rfl (.inl rfl) rfl) ev_int) ea_nil) (by exact rfl) T.n_str (by decide +kernel)) ?_ nd rfl (.inl rfl))
          show Exs _ _ _ ⟨[some (.fr ((eL D.int) script)), some (.fr ((eL D.int) numbers)), some (.fr ((eL (eT2 D.int D.int)) (((List.range (((numbers.getD ((0 : Int)).toNat default) % (21 : Int))).toNat).foldl (m_law_l0 numbers) (([] : List (Int × Int)), (0 : Int), (1 : Int))).1))), some (.fr (D.int (((List.range (((numbers.getD ((0 : Int)).toNat default) % (21 : Int))).toNat).foldl (m_law_l0 numbers) (([] : List (Int × Int)), (0 : Int), (1 : Int))).2.1))), some (.fr (D.int (((List.range (((numbers.getD ((0 : Int)).toNat default) % (21 : Int))).toNat).foldl (m_law_l0 numbers) (([] : List (Int × Int)), (0 : Int), (1 : Int))).2.2))), none, none, none, none, some (.fr ((eL (eT2 D.int D.int)) (((List.range (((numbers.getD ((0 : Int)).toNat default) % (21 : Int))).toNat).foldl (m_law_l0 numbers) (([] : List (Int × Int)), (0 : Int), (1 : Int))).1))), some (.fr ((eT2 D.int D.int) actual)), some (.fr ((eT2 D.int D.int) zy0)), some (.fr (D.str (m_ratio_text zy0))), some (.fr (D.str (Str.ofString (toString zy0.1))))], []⟩ _
          generalize zg_due : (Str.ofString (toString zy0.1)) = due
          show Exs _ _ _ ⟨[some (.fr ((eL D.int) script)), some (.fr ((eL D.int) numbers)), some (.fr ((eL (eT2 D.int D.int)) (((List.range (((numbers.getD ((0 : Int)).toNat default) % (21 : Int))).toNat).foldl (m_law_l0 numbers) (([] : List (Int × Int)), (0 : Int), (1 : Int))).1))), some (.fr (D.int (((List.range (((numbers.getD ((0 : Int)).toNat default) % (21 : Int))).toNat).foldl (m_law_l0 numbers) (([] : List (Int × Int)), (0 : Int), (1 : Int))).2.1))), some (.fr (D.int (((List.range (((numbers.getD ((0 : Int)).toNat default) % (21 : Int))).toNat).foldl (m_law_l0 numbers) (([] : List (Int × Int)), (0 : Int), (1 : Int))).2.2))), none, none, none, none, some (.fr ((eL (eT2 D.int D.int)) (((List.range (((numbers.getD ((0 : Int)).toNat default) % (21 : Int))).toNat).foldl (m_law_l0 numbers) (([] : List (Int × Int)), (0 : Int), (1 : Int))).1))), some (.fr ((eT2 D.int D.int) actual)), some (.fr ((eT2 D.int D.int) zy0)), some (.fr (D.str (m_ratio_text zy0))), some (.fr (D.str due))], []⟩ _
          have hdl : due.length ≤ 1921 := by rw [← zg_due]; exact tos_le (str_wide ⟨by omega, by omega⟩)
          refine exs_cons (ex_join ⟨[some (.fr ((eL D.int) script)), some (.fr ((eL D.int) numbers)), some (.fr ((eL (eT2 D.int D.int)) (((List.range (((numbers.getD ((0 : Int)).toNat default) % (21 : Int))).toNat).foldl (m_law_l0 numbers) (([] : List (Int × Int)), (0 : Int), (1 : Int))).1))), some (.fr (D.int (((List.range (((numbers.getD ((0 : Int)).toNat default) % (21 : Int))).toNat).foldl (m_law_l0 numbers) (([] : List (Int × Int)), (0 : Int), (1 : Int))).2.1))), some (.fr (D.int (((List.range (((numbers.getD ((0 : Int)).toNat default) % (21 : Int))).toNat).foldl (m_law_l0 numbers) (([] : List (Int × Int)), (0 : Int), (1 : Int))).2.2))), none, none, none, none, some (.fr ((eL (eT2 D.int D.int)) (((List.range (((numbers.getD ((0 : Int)).toNat default) % (21 : Int))).toNat).foldl (m_law_l0 numbers) (([] : List (Int × Int)), (0 : Int), (1 : Int))).1))), some (.fr ((eT2 D.int D.int) actual)), some (.fr ((eT2 D.int D.int) zy0)), some (.fr (D.str (m_ratio_text zy0))), some (.fr (D.str (if (¬ (zy0.2 = (1 : Int))) then ((due ++ (Str.ofString "/")) ++ (Str.ofString (toString zy0.2))) else due)))], []⟩ (ex_ifP bd_n (et_cmp o_nei (ev_ix (.t (d := D.int zy0.2) rfl) (ev_var 11 rfl (.inl rfl) rfl) ev_int) ev_int (nomark _)) (fun (zh3 : (¬ (zy0.2 = (1 : Int)))) => ?_) (fun (zh3 : ¬ (¬ (zy0.2 = (1 : Int)))) => ?_)) ?_)
          · skip
            refine exs_one (ex_set 13 (ev_bin (o_adds (by walk_at "sd")) (ev_bin (o_adds (by walk_at "sd")) (ev_var 13 rfl (.inl rfl) rfl) ev_str) (ev_callTy (ds := [D.int zy0.2]) (c_str (by walk_at "str")) (ea_cons (ev_ix (.t (d := D.int zy0.2) rfl) (ev_var 11 rfl (.inl rfl) rfl) ev_int) ea_nil) (by exact rfl) T.n_str (by decide +kernel))) ?_ nd rfl (.inl rfl))
            exact ⟨_, rfl, by simp only [if_pos zh3]; exact (by exact ⟨⟨.inr rfl, .inr rfl, .inr rfl, .inr rfl, .inr rfl, .inl rfl, .inl rfl, .inl rfl, .inl rfl, .inr rfl, .inr rfl, .inr rfl, .inr rfl, .inr rfl, trivial⟩, rfl⟩)⟩
          · skip
            refine exs_nil ?_
            exact ⟨_, rfl, by simp only [if_neg zh3]; exact (by exact ⟨⟨.inr rfl, .inr rfl, .inr rfl, .inr rfl, .inr rfl, .inl rfl, .inl rfl, .inl rfl, .inl rfl, .inr rfl, .inr rfl, .inr rfl, .inr rfl, .inr rfl, trivial⟩, rfl⟩)⟩
          · skip
            show Exs _ _ _ ⟨[some (.fr ((eL D.int) script)), some (.fr ((eL D.int) numbers)), some (.fr ((eL (eT2 D.int D.int)) (((List.range (((numbers.getD ((0 : Int)).toNat default) % (21 : Int))).toNat).foldl (m_law_l0 numbers) (([] : List (Int × Int)), (0 : Int), (1 : Int))).1))), some (.fr (D.int (((List.range (((numbers.getD ((0 : Int)).toNat default) % (21 : Int))).toNat).foldl (m_law_l0 numbers) (([] : List (Int × Int)), (0 : Int), (1 : Int))).2.1))), some (.fr (D.int (((List.range (((numbers.getD ((0 : Int)).toNat default) % (21 : Int))).toNat).foldl (m_law_l0 numbers) (([] : List (Int × Int)), (0 : Int), (1 : Int))).2.2))), none, none, none, none, some (.fr ((eL (eT2 D.int D.int)) (((List.range (((numbers.getD ((0 : Int)).toNat default) % (21 : Int))).toNat).foldl (m_law_l0 numbers) (([] : List (Int × Int)), (0 : Int), (1 : Int))).1))), some (.fr ((eT2 D.int D.int) actual)), some (.fr ((eT2 D.int D.int) zy0)), some (.fr (D.str (m_ratio_text zy0))), some (.fr (D.str (if (¬ (zy0.2 = (1 : Int))) then ((due ++ (Str.ofString "/")) ++ (Str.ofString (toString zy0.2))) else due)))], []⟩ _
            generalize zg_due1 : (if (¬ (zy0.2 = (1 : Int))) then ((due ++ (Str.ofString "/")) ++ (Str.ofString (toString zy0.2))) else due) = due1
            show Exs _ _ _ ⟨[some (.fr ((eL D.int) script)), some (.fr ((eL D.int) numbers)), some (.fr ((eL (eT2 D.int D.int)) (((List.range (((numbers.getD ((0 : Int)).toNat default) % (21 : Int))).toNat).foldl (m_law_l0 numbers) (([] : List (Int × Int)), (0 : Int), (1 : Int))).1))), some (.fr (D.int (((List.range (((numbers.getD ((0 : Int)).toNat default) % (21 : Int))).toNat).foldl (m_law_l0 numbers) (([] : List (Int × Int)), (0 : Int), (1 : Int))).2.1))), some (.fr (D.int (((List.range (((numbers.getD ((0 : Int)).toNat default) % (21 : Int))).toNat).foldl (m_law_l0 numbers) (([] : List (Int × Int)), (0 : Int), (1 : Int))).2.2))), none, none, none, none, some (.fr ((eL (eT2 D.int D.int)) (((List.range (((numbers.getD ((0 : Int)).toNat default) % (21 : Int))).toNat).foldl (m_law_l0 numbers) (([] : List (Int × Int)), (0 : Int), (1 : Int))).1))), some (.fr ((eT2 D.int D.int) actual)), some (.fr ((eT2 D.int D.int) zy0)), some (.fr (D.str (m_ratio_text zy0))), some (.fr (D.str due1))], []⟩ _
            show Exs _ _ _ ⟨[some (.fr ((eL D.int) script)), some (.fr ((eL D.int) numbers)), some (.fr ((eL (eT2 D.int D.int)) (((List.range (((numbers.getD ((0 : Int)).toNat default) % (21 : Int))).toNat).foldl (m_law_l0 numbers) (([] : List (Int × Int)), (0 : Int), (1 : Int))).1))), some (.fr (D.int (((List.range (((numbers.getD ((0 : Int)).toNat default) % (21 : Int))).toNat).foldl (m_law_l0 numbers) (([] : List (Int × Int)), (0 : Int), (1 : Int))).2.1))), some (.fr (D.int (((List.range (((numbers.getD ((0 : Int)).toNat default) % (21 : Int))).toNat).foldl (m_law_l0 numbers) (([] : List (Int × Int)), (0 : Int), (1 : Int))).2.2))), none, none, none, none, some (.fr ((eL (eT2 D.int D.int)) (((List.range (((numbers.getD ((0 : Int)).toNat default) % (21 : Int))).toNat).foldl (m_law_l0 numbers) (([] : List (Int × Int)), (0 : Int), (1 : Int))).1))), some (.fr ((eT2 D.int D.int) actual)), some (.fr ((eT2 D.int D.int) zy0)), some (.fr (D.str (m_ratio_text zy0))), some (.fr (D.str due1))], []⟩ _
            refine exs_one (ex_ifP (bd_or (bd_not Iff.rfl) bd_n) (Ew.et (ew_orP (bd_not Iff.rfl) (et_not (et_val (ev_isi (T := "str") (b := true) (ev_var 12 rfl (.inl rfl) rfl) rfl (by decide) (by exact rfl) T.n_isinstance (by exact rfl) T.n_str (by decide +kernel)))) (fun zhp => (ew_or1 (et_cmp o_nes (ev_var 12 rfl (.inl rfl) rfl) (ev_var 13 rfl (.inl rfl) rfl) (nomark _)))))) (fun (zh4 : ((¬ (true = true)) ∨ (¬ ((m_ratio_text zy0) = due1)))) => ?_) (fun (zh4 : ¬ ((¬ (true = true)) ∨ (¬ ((m_ratio_text zy0) = due1)))) => ?_))
            · skip
              refine exs_one (ex_ret ev_bl ?_)
              have est : (m_law_l1) zs0 zy0 = .error false := by subst zg_due1; subst zg_due; simp only [m_law_l1, not_true_eq_false, not_false_eq_true, ↓reduceIte, ↓if_pos zh4]
              exact ⟨_, est, rfl, trivial⟩
            · skip
              refine exs_nil ?_
              have est : (m_law_l1) zs0 zy0 = .ok () := by subst zg_due1; subst zg_due; simp only [m_law_l1, not_true_eq_false, not_false_eq_true, ↓reduceIte, ↓if_neg zh4]
              exact ⟨_, est, (by exact ⟨⟨.inr rfl, .inr rfl, .inr rfl, .inr rfl, .inr rfl, .inl rfl, .inl rfl, .inl rfl, .inl rfl, .inr rfl, .inr rfl, .inl rfl, .inl rfl, .inl rfl, trivial⟩, rfl⟩), trivial⟩
        · rintro zr zc zS zrun0 ⟨rfl, zhL⟩
          skip
          have zh5 := zrun0
          have efin : m_law script = zr := by subst zg_actual; subst zg_numbers; simp only [m_law, not_true_eq_false, not_false_eq_true, ↓reduceIte, ↓if_neg zh1, ↓if_neg zh2, ↓zh5]
          rw [efin] at zk
          exact zk _
        · intro zs0 zrun0 zq0
          have zh6 := zrun0
          show Exs _ _ _ ⟨[some (.fr ((eL D.int) script)), some (.fr ((eL D.int) numbers)), some (.fr ((eL (eT2 D.int D.int)) (((List.range (((numbers.getD ((0 : Int)).toNat default) % (21 : Int))).toNat).foldl (m_law_l0 numbers) (([] : List (Int × Int)), (0 : Int), (1 : Int))).1))), some (.fr (D.int (((List.range (((numbers.getD ((0 : Int)).toNat default) % (21 : Int))).toNat).foldl (m_law_l0 numbers) (([] : List (Int × Int)), (0 : Int), (1 : Int))).2.1))), some (.fr (D.int (((List.range (((numbers.getD ((0 : Int)).toNat default) % (21 : Int))).toNat).foldl (m_law_l0 numbers) (([] : List (Int × Int)), (0 : Int), (1 : Int))).2.2))), none, none, none, none, some (.fr ((eL (eT2 D.int D.int)) (((List.range (((numbers.getD ((0 : Int)).toNat default) % (21 : Int))).toNat).foldl (m_law_l0 numbers) (([] : List (Int × Int)), (0 : Int), (1 : Int))).1))), some (.fr ((eT2 D.int D.int) actual)), none, none, none], []⟩ _
          refine exs_one (ex_ret ev_bl ?_)
          have efin : m_law script = true := by subst zg_actual; subst zg_numbers; simp only [m_law, not_true_eq_false, not_false_eq_true, ↓reduceIte, ↓if_neg zh1, ↓if_neg zh2, ↓zh6]
          rw [efin] at zk
          exact zk _
theorem cop_shape (a b : Int) (hb : 0 < b) : ∃ (g : Int) (p q : Int), 0 < g ∧ a = g * p ∧ b = g * q ∧ 0 < q ∧ Nat.gcd p.natAbs q.natAbs = 1 ∧ m_make_ratio a b = (p, q) := by
  have hg := Nat.gcd_pos_of_pos_right a.natAbs (show 0 < b.natAbs by omega)
  obtain ⟨p, hp⟩ := Int.ofNat_dvd_left.mpr (Nat.gcd_dvd_left a.natAbs b.natAbs)
  obtain ⟨q, hq⟩ := Int.ofNat_dvd_left.mpr (Nat.gcd_dvd_right a.natAbs b.natAbs)
  have hs := ratio_shape a b hb
  generalize hG : Nat.gcd a.natAbs b.natAbs = G at hg hp hq hs
  have hG0 : (0 : Int) < (G : Int) := by omega
  have ep : a / (G : Int) = p := by rw [hp, Int.mul_ediv_cancel_left _ (by omega)]
  have eq : b / (G : Int) = q := by rw [hq, Int.mul_ediv_cancel_left _ (by omega)]
  have hc : Nat.gcd p.natAbs q.natAbs = 1 := by
    have np : a.natAbs = G * p.natAbs := by rw [hp, Int.natAbs_mul, Int.natAbs_natCast]
    have nq : b.natAbs = G * q.natAbs := by rw [hq, Int.natAbs_mul, Int.natAbs_natCast]
    rw [np, nq, Nat.gcd_mul_left] at hG
    exact Nat.eq_of_mul_eq_mul_left hg (by rw [hG, Nat.mul_one])
  refine ⟨(G : Int), p, q, hG0, hp, hq, ?_, hc, by rw [hs, ep, eq]⟩
  rcases Int.lt_trichotomy q 0 with h | h | h
  · exfalso
    have := Int.mul_neg_of_pos_of_neg hG0 h
    omega
  · rw [h, Int.mul_zero] at hq; omega
  · exact h
theorem is_ratio_of {p q : Int} (hq : 0 < q) (hb : q < 2 ^ 499) (c : Nat.gcd p.natAbs q.natAbs = 1) : m_law_is_ratio (p, q) = true := by
  unfold m_law_is_ratio
  dsimp only
  rw [if_neg (by rintro (h | h) <;> exact h rfl), if_neg (by rintro (h | h) <;> exact h rfl), divisor_eq p q (by omega) hb, c, Bool.and_eq_true]
  exact ⟨decide_eq_true (by omega), decide_eq_true rfl⟩
/-- the sum so far -/
def SumI (t : Int × Int) (top bottom : Int) : Prop := 0 < t.2 ∧ Nat.gcd t.1.natAbs t.2.natAbs = 1 ∧ t.1 * bottom = top * t.2
theorem sum_alg (t1 t2 r1 r2 g p' q' p w d top bottom : Int) (h1 : t1 * r2 + r1 * t2 = g * p') (h2 : t2 * r2 = g * q') (h3 : p = d * r1) (h4 : w = d * r2) (h5 : t1 * bottom = top * t2) : g * (p' * (bottom * w)) = g * ((top * w + p * bottom) * q') := by grind
theorem sum_step {t : Int × Int} {top bottom p w : Int} (h : SumI t top bottom) (hp : -1000 ≤ p ∧ p ≤ 1008) (hw : 1 ≤ w ∧ w ≤ 1009) : SumI (m_sum_ratios_l0 t (p / m_law_divisor p w, w / m_law_divisor p w)) (top * w + p * bottom) (bottom * w) := by
  obtain ⟨h1, h2, h3⟩ := h
  obtain ⟨d, r1, r2, d0, e1, e2, r0, _, em⟩ := cop_shape p w (by omega)
  have er : (p / m_law_divisor p w, w / m_law_divisor p w) = (r1, r2) := by
    rw [← em, ratio_shape p w (by omega), divisor_eq p w (by omega) (by omega)]
  rw [er]
  show SumI (m_make_ratio (t.1 * r2 + r1 * t.2) (t.2 * r2)) _ _
  obtain ⟨g, p', q', g0, f1, f2, q0, c, eq⟩ := cop_shape (t.1 * r2 + r1 * t.2) (t.2 * r2) (Int.mul_pos h1 r0)
  rw [eq]
  exact ⟨q0, c, Int.eq_of_mul_eq_mul_left (by omega) (sum_alg t.1 t.2 r1 r2 g p' q' p w d top bottom f1 f2 e1 e2 h3)⟩
theorem sum_loop {numbers : List Int} (hn : ∀ x ∈ numbers, 0 ≤ x ∧ x ≤ 1008) : ∀ (ys : List Nat) (s : List (Int × Int) × Int × Int), SumI (m_sum_ratios s.1) s.2.1 s.2.2 → SumI (m_sum_ratios (ys.foldl (m_law_l0 numbers) s).1) (ys.foldl (m_law_l0 numbers) s).2.1 (ys.foldl (m_law_l0 numbers) s).2.2
  | [], _, h => h
  | y :: ys, s, h => by
    rw [List.foldl_cons]
    refine sum_loop hn ys _ ?_
    unfold m_law_l0
    dsimp only
    have hp := part_ok hn (((1 : Int) + ((3 : Int) * ((0 : Int) + (y : Int))))).toNat (((3 : Int) + ((3 : Int) * ((0 : Int) + (y : Int))))).toNat (((2 : Int) + ((3 : Int) * ((0 : Int) + (y : Int))))).toNat
    generalize numbers.getD (((1 : Int) + ((3 : Int) * ((0 : Int) + (y : Int))))).toNat default - (500 : Int) * (numbers.getD (((3 : Int) + ((3 : Int) * ((0 : Int) + (y : Int))))).toNat default % (3 : Int)) = p at hp
    generalize (1 : Int) + numbers.getD (((2 : Int) + ((3 : Int) * ((0 : Int) + (y : Int))))).toNat default = w at hp
    have e : m_sum_ratios (s.1 ++ [(p / m_law_divisor p w, w / m_law_divisor p w)]) = m_sum_ratios_l0 (m_sum_ratios s.1) (p / m_law_divisor p w, w / m_law_divisor p w) := by
      unfold m_sum_ratios
      rw [List.foldl_append]; rfl
    rw [e]
    exact sum_step h hp.1 hp.2
theorem law_all {numbers : List Int} (hn : ∀ x ∈ numbers, 0 ≤ x ∧ x ≤ 1008) : ∀ (ys : List Nat) (s : List (Int × Int) × Int × Int) (i : Nat), LawI s i → LawI (ys.foldl (m_law_l0 numbers) s) (i + ys.length)
  | [], _, _, h => h
  | y :: ys, s, i, h => by
    rw [List.foldl_cons, List.length_cons, show i + (ys.length + 1) = i + 1 + ys.length by omega]
    exact law_all hn ys _ _ (law_step hn h y)
theorem runE_ok {τ ρ : Type} {f : Unit → τ → Except ρ Unit} : ∀ {ys : List τ}, (∀ y ∈ ys, f () y = .ok ()) → runE f ys () = .ok ()
  | [], _ => rfl
  | y :: ys, h => by
    rw [runE_cons, h y List.mem_cons_self]
    exact runE_ok fun z hz => h z (List.mem_cons_of_mem _ hz)
theorem text_eq (r : Int × Int) : m_ratio_text r = (if (¬ (r.2 = (1 : Int))) then (((Str.ofString (toString r.1) ++ (Str.ofString "/")) ++ (Str.ofString (toString r.2)))) else Str.ofString (toString r.1)) := by
  unfold m_ratio_text
  rw [decimal_eq, decimal_eq]
  by_cases q : r.2 = 1
  · rw [if_pos q, if_neg (fun z => z q)]
  · rw [if_neg q, if_pos q]
theorem law_true : ∀ ns : List Int, ns.length ≤ 63 → m_law ns = true := by
  intro ns _
  unfold m_law
  dsimp only
  have hnf := numbers_facts ns (61 : Int) (by decide)
  generalize m_law_numbers ns (61 : Int) = N at hnf
  have hb0 := getD_bound hnf.2 ((0 : Int)).toNat
  have hI := law_all hnf.2 (List.range ((N.getD ((0 : Int)).toNat default) % (21 : Int)).toNat) (([] : List (Int × Int)), (0 : Int), (1 : Int)) 0 law0
  have hS := sum_loop hnf.2 (List.range ((N.getD ((0 : Int)).toNat default) % (21 : Int)).toNat) (([] : List (Int × Int)), (0 : Int), (1 : Int)) ⟨by decide, by decide, by decide⟩
  rw [List.length_range, Nat.zero_add] at hI
  have hi : ((N.getD ((0 : Int)).toNat default) % (21 : Int)).toNat ≤ 20 := by omega
  generalize ((N.getD ((0 : Int)).toNat default) % (21 : Int)).toNat = i at hI hS hi
  generalize (List.range i).foldl (m_law_l0 N) (([] : List (Int × Int)), (0 : Int), (1 : Int)) = s at hI hS
  have hb := sum_bnd (xs := s.1) (by rw [hI.1]; exact hi) hI.2.1
  have hb2 : (m_sum_ratios s.1).2 < 2 ^ 499 := by omega
  have hr : m_law_is_ratio (m_sum_ratios s.1) = true := is_ratio_of (p := (m_sum_ratios s.1).1) (q := (m_sum_ratios s.1).2) hS.1 hb2 hS.2.1
  rw [if_neg (by rintro (q | q); exact q hr; exact q rfl), if_neg (fun q => q hS.2.2), runE_ok (fun r _ => ?_)]
  unfold m_law_l1
  dsimp only
  rw [if_neg (by rintro (q | q); exact q rfl; exact q (text_eq r))]
end
section
theorem all_mk {l : PySem.W.OpenLaw} {w : World} {K : Frag} {h : Heap} {mg : Mg} {fa : Addr} (X : K.In h) (G : h.Ns mainGlobals mg) (hfa : mg "law" = some (.ref fa))
    (z_abs : PySem.W.nsIn K mainGlobals "abs" = some none)
    (z_bool : PySem.W.nsIn K mainGlobals "bool" = some none)
    (z_divmod : PySem.W.nsIn K mainGlobals "divmod" = some none)
    (z_int : PySem.W.nsIn K mainGlobals "int" = some none)
    (z_isinstance : PySem.W.nsIn K mainGlobals "isinstance" = some none)
    (z_len : PySem.W.nsIn K mainGlobals "len" = some none)
    (z_list : PySem.W.nsIn K mainGlobals "list" = some none)
    (z_max : PySem.W.nsIn K mainGlobals "max" = some none)
    (z_range : PySem.W.nsIn K mainGlobals "range" = some none)
    (z_str : PySem.W.nsIn K mainGlobals "str" = some none)
    (z_tuple : PySem.W.nsIn K mainGlobals "tuple" = some none)
    (z_gcd : PySem.W.nsIn K mainGlobals "gcd" = some (some (.builtin "math.gcd")))
    {f_make_ratio : Addr} {od_make_ratio an_make_ratio : Option Addr} {sl_make_ratio : Array (Option Value)} {oc_make_ratio dc_make_ratio pm_make_ratio cd_make_ratio ct_make_ratio : Value} {kV_make_ratio : Value}
    (g_make_ratio : PySem.W.nsIn K mainGlobals "make_ratio" = some (some (.ref f_make_ratio)))
    (l_make_ratio : K.lookup f_make_ratio = some ⟨oc_make_ratio, od_make_ratio, .func (PySem.W.fnOf "make_ratio" "make_ratio" (defArgs s_make_ratio) (defBody s_make_ratio) (defScope s_make_ratio) .none kV_make_ratio dc_make_ratio pm_make_ratio an_make_ratio cd_make_ratio ct_make_ratio), sl_make_ratio⟩)
    (c_make_ratio : PySem.W.codeIn K cd_make_ratio "make_ratio" = true) (k_make_ratio : PySem.W.keepIn K (.ref f_make_ratio) = true)
    {f_add_ratios : Addr} {od_add_ratios an_add_ratios : Option Addr} {sl_add_ratios : Array (Option Value)} {oc_add_ratios dc_add_ratios pm_add_ratios cd_add_ratios ct_add_ratios : Value} {kV_add_ratios : Value}
    (g_add_ratios : PySem.W.nsIn K mainGlobals "add_ratios" = some (some (.ref f_add_ratios)))
    (l_add_ratios : K.lookup f_add_ratios = some ⟨oc_add_ratios, od_add_ratios, .func (PySem.W.fnOf "add_ratios" "add_ratios" (defArgs s_add_ratios) (defBody s_add_ratios) (defScope s_add_ratios) .none kV_add_ratios dc_add_ratios pm_add_ratios an_add_ratios cd_add_ratios ct_add_ratios), sl_add_ratios⟩)
    (c_add_ratios : PySem.W.codeIn K cd_add_ratios "add_ratios" = true) (k_add_ratios : PySem.W.keepIn K (.ref f_add_ratios) = true)
    {f_law_is_integer : Addr} {od_law_is_integer an_law_is_integer : Option Addr} {sl_law_is_integer : Array (Option Value)} {oc_law_is_integer dc_law_is_integer pm_law_is_integer cd_law_is_integer ct_law_is_integer : Value} {kV_law_is_integer : Value}
    (g_law_is_integer : PySem.W.nsIn K mainGlobals "_law_is_integer" = some (some (.ref f_law_is_integer)))
    (l_law_is_integer : K.lookup f_law_is_integer = some ⟨oc_law_is_integer, od_law_is_integer, .func (PySem.W.fnOf "_law_is_integer" "_law_is_integer" (defArgs s_law_is_integer) (defBody s_law_is_integer) (defScope s_law_is_integer) .none kV_law_is_integer dc_law_is_integer pm_law_is_integer an_law_is_integer cd_law_is_integer ct_law_is_integer), sl_law_is_integer⟩)
    (c_law_is_integer : PySem.W.codeIn K cd_law_is_integer "_law_is_integer" = true) (k_law_is_integer : PySem.W.keepIn K (.ref f_law_is_integer) = true)
    {f_law_divisor : Addr} {od_law_divisor an_law_divisor : Option Addr} {sl_law_divisor : Array (Option Value)} {oc_law_divisor dc_law_divisor pm_law_divisor cd_law_divisor ct_law_divisor : Value} {kV_law_divisor : Value}
    (g_law_divisor : PySem.W.nsIn K mainGlobals "_law_divisor" = some (some (.ref f_law_divisor)))
    (l_law_divisor : K.lookup f_law_divisor = some ⟨oc_law_divisor, od_law_divisor, .func (PySem.W.fnOf "_law_divisor" "_law_divisor" (defArgs s_law_divisor) (defBody s_law_divisor) (defScope s_law_divisor) .none kV_law_divisor dc_law_divisor pm_law_divisor an_law_divisor cd_law_divisor ct_law_divisor), sl_law_divisor⟩)
    (c_law_divisor : PySem.W.codeIn K cd_law_divisor "_law_divisor" = true) (k_law_divisor : PySem.W.keepIn K (.ref f_law_divisor) = true)
    {f_law_is_ratio : Addr} {od_law_is_ratio an_law_is_ratio : Option Addr} {sl_law_is_ratio : Array (Option Value)} {oc_law_is_ratio dc_law_is_ratio pm_law_is_ratio cd_law_is_ratio ct_law_is_ratio : Value} {kV_law_is_ratio : Value}
    (g_law_is_ratio : PySem.W.nsIn K mainGlobals "_law_is_ratio" = some (some (.ref f_law_is_ratio)))
    (l_law_is_ratio : K.lookup f_law_is_ratio = some ⟨oc_law_is_ratio, od_law_is_ratio, .func (PySem.W.fnOf "_law_is_ratio" "_law_is_ratio" (defArgs s_law_is_ratio) (defBody s_law_is_ratio) (defScope s_law_is_ratio) .none kV_law_is_ratio dc_law_is_ratio pm_law_is_ratio an_law_is_ratio cd_law_is_ratio ct_law_is_ratio), sl_law_is_ratio⟩)
    (c_law_is_ratio : PySem.W.codeIn K cd_law_is_ratio "_law_is_ratio" = true) (k_law_is_ratio : PySem.W.keepIn K (.ref f_law_is_ratio) = true)
    {f_law_row : Addr} {od_law_row an_law_row : Option Addr} {sl_law_row : Array (Option Value)} {oc_law_row dc_law_row pm_law_row cd_law_row ct_law_row : Value} {kV_law_row : Value}
    (g_law_row : PySem.W.nsIn K mainGlobals "_law_row" = some (some (.ref f_law_row)))
    (l_law_row : K.lookup f_law_row = some ⟨oc_law_row, od_law_row, .func (PySem.W.fnOf "_law_row" "_law_row" (defArgs s_law_row) (defBody s_law_row) (defScope s_law_row) .none kV_law_row dc_law_row pm_law_row an_law_row cd_law_row ct_law_row), sl_law_row⟩)
    (c_law_row : PySem.W.codeIn K cd_law_row "_law_row" = true) (k_law_row : PySem.W.keepIn K (.ref f_law_row) = true)
    {f_law_numbers : Addr} {od_law_numbers an_law_numbers : Option Addr} {sl_law_numbers : Array (Option Value)} {oc_law_numbers dc_law_numbers pm_law_numbers cd_law_numbers ct_law_numbers : Value} {kV_law_numbers : Value}
    (g_law_numbers : PySem.W.nsIn K mainGlobals "_law_numbers" = some (some (.ref f_law_numbers)))
    (l_law_numbers : K.lookup f_law_numbers = some ⟨oc_law_numbers, od_law_numbers, .func (PySem.W.fnOf "_law_numbers" "_law_numbers" (defArgs s_law_numbers) (defBody s_law_numbers) (defScope s_law_numbers) .none kV_law_numbers dc_law_numbers pm_law_numbers an_law_numbers cd_law_numbers ct_law_numbers), sl_law_numbers⟩)
    (c_law_numbers : PySem.W.codeIn K cd_law_numbers "_law_numbers" = true) (k_law_numbers : PySem.W.keepIn K (.ref f_law_numbers) = true)
    {f_sum_ratios : Addr} {od_sum_ratios an_sum_ratios : Option Addr} {sl_sum_ratios : Array (Option Value)} {oc_sum_ratios dc_sum_ratios pm_sum_ratios cd_sum_ratios ct_sum_ratios : Value} {kV_sum_ratios : Value}
    (g_sum_ratios : PySem.W.nsIn K mainGlobals "sum_ratios" = some (some (.ref f_sum_ratios)))
    (l_sum_ratios : K.lookup f_sum_ratios = some ⟨oc_sum_ratios, od_sum_ratios, .func (PySem.W.fnOf "sum_ratios" "sum_ratios" (defArgs s_sum_ratios) (defBody s_sum_ratios) (defScope s_sum_ratios) .none kV_sum_ratios dc_sum_ratios pm_sum_ratios an_sum_ratios cd_sum_ratios ct_sum_ratios), sl_sum_ratios⟩)
    (c_sum_ratios : PySem.W.codeIn K cd_sum_ratios "sum_ratios" = true) (k_sum_ratios : PySem.W.keepIn K (.ref f_sum_ratios) = true)
    {f_decimal : Addr} {od_decimal an_decimal : Option Addr} {sl_decimal : Array (Option Value)} {oc_decimal dc_decimal pm_decimal cd_decimal ct_decimal : Value} {kV_decimal : Value}
    (g_decimal : PySem.W.nsIn K mainGlobals "_decimal" = some (some (.ref f_decimal)))
    (l_decimal : K.lookup f_decimal = some ⟨oc_decimal, od_decimal, .func (PySem.W.fnOf "_decimal" "_decimal" (defArgs s_decimal) (defBody s_decimal) (defScope s_decimal) .none kV_decimal dc_decimal pm_decimal an_decimal cd_decimal ct_decimal), sl_decimal⟩)
    (c_decimal : PySem.W.codeIn K cd_decimal "_decimal" = true) (k_decimal : PySem.W.keepIn K (.ref f_decimal) = true)
    {f_ratio_text : Addr} {od_ratio_text an_ratio_text : Option Addr} {sl_ratio_text : Array (Option Value)} {oc_ratio_text dc_ratio_text pm_ratio_text cd_ratio_text ct_ratio_text : Value} {kV_ratio_text : Value}
    (g_ratio_text : PySem.W.nsIn K mainGlobals "ratio_text" = some (some (.ref f_ratio_text)))
    (l_ratio_text : K.lookup f_ratio_text = some ⟨oc_ratio_text, od_ratio_text, .func (PySem.W.fnOf "ratio_text" "ratio_text" (defArgs s_ratio_text) (defBody s_ratio_text) (defScope s_ratio_text) .none kV_ratio_text dc_ratio_text pm_ratio_text an_ratio_text cd_ratio_text ct_ratio_text), sl_ratio_text⟩)
    (c_ratio_text : PySem.W.codeIn K cd_ratio_text "ratio_text" = true) (k_ratio_text : PySem.W.keepIn K (.ref f_ratio_text) = true)
    {f_law : Addr} {od_law an_law : Option Addr} {sl_law : Array (Option Value)} {oc_law dc_law pm_law cd_law ct_law : Value} {kV_law : Value}
    (g_law : PySem.W.nsIn K mainGlobals "law" = some (some (.ref f_law)))
    (l_law : K.lookup f_law = some ⟨oc_law, od_law, .func (PySem.W.fnOf "law" "law" (defArgs s_law) (defBody s_law) (defScope s_law) .none kV_law dc_law pm_law an_law cd_law ct_law), sl_law⟩)
    (c_law : PySem.W.codeIn K cd_law "law" = true) (k_law : PySem.W.keepIn K (.ref f_law) = true)
    : ∃ fd : FuncData, (∀ (s : Shared) (v : Value), BindsTo s fd ⟨[v], []⟩ [("script", v)]) ∧ ∀ base : Heap, K.In base → base.Ns mainGlobals mg → FnOk l.prog w K mg base CX0 4 fa fd ["script"] (spTrue K) := by
  have T : TX l.prog K mg := {
    n_abs := PySem.W.mg_none_of X G z_abs
    n_bool := PySem.W.mg_none_of X G z_bool
    n_divmod := PySem.W.mg_none_of X G z_divmod
    n_int := PySem.W.mg_none_of X G z_int
    n_isinstance := PySem.W.mg_none_of X G z_isinstance
    n_len := PySem.W.mg_none_of X G z_len
    n_list := PySem.W.mg_none_of X G z_list
    n_max := PySem.W.mg_none_of X G z_max
    n_range := PySem.W.mg_none_of X G z_range
    n_str := PySem.W.mg_none_of X G z_str
    n_tuple := PySem.W.mg_none_of X G z_tuple
    x_gcd := PySem.W.mg_of X G z_gcd
    a_make_ratio := f_make_ratio
    d_make_ratio := _
    F_make_ratio := fun_mk (st := s_make_ratio) l_make_ratio c_make_ratio k_make_ratio
    k_make_ratio := k_make_ratio
    m_make_ratio := PySem.W.mg_of X G g_make_ratio
    b_make_ratio := (fun_mk (st := s_make_ratio) l_make_ratio c_make_ratio k_make_ratio).binds (ps := ["top", "bottom"]) fun _ _ _ _ _ _ us hl => match us, hl with | [_, _], _ => rfl
    a_add_ratios := f_add_ratios
    d_add_ratios := _
    F_add_ratios := fun_mk (st := s_add_ratios) l_add_ratios c_add_ratios k_add_ratios
    k_add_ratios := k_add_ratios
    m_add_ratios := PySem.W.mg_of X G g_add_ratios
    b_add_ratios := (fun_mk (st := s_add_ratios) l_add_ratios c_add_ratios k_add_ratios).binds (ps := ["first", "second"]) fun _ _ _ _ _ _ us hl => match us, hl with | [_, _], _ => rfl
    a_law_is_integer := f_law_is_integer
    d_law_is_integer := _
    F_law_is_integer := fun_mk (st := s_law_is_integer) l_law_is_integer c_law_is_integer k_law_is_integer
    k_law_is_integer := k_law_is_integer
    m_law_is_integer := PySem.W.mg_of X G g_law_is_integer
    b_law_is_integer := (fun_mk (st := s_law_is_integer) l_law_is_integer c_law_is_integer k_law_is_integer).binds (ps := ["actual"]) fun _ _ _ _ _ _ us hl => match us, hl with | [_], _ => rfl
    a_law_divisor := f_law_divisor
    d_law_divisor := _
    F_law_divisor := fun_mk (st := s_law_divisor) l_law_divisor c_law_divisor k_law_divisor
    k_law_divisor := k_law_divisor
    m_law_divisor := PySem.W.mg_of X G g_law_divisor
    b_law_divisor := (fun_mk (st := s_law_divisor) l_law_divisor c_law_divisor k_law_divisor).binds (ps := ["first", "second"]) fun _ _ _ _ _ _ us hl => match us, hl with | [_, _], _ => rfl
    a_law_is_ratio := f_law_is_ratio
    d_law_is_ratio := _
    F_law_is_ratio := fun_mk (st := s_law_is_ratio) l_law_is_ratio c_law_is_ratio k_law_is_ratio
    k_law_is_ratio := k_law_is_ratio
    m_law_is_ratio := PySem.W.mg_of X G g_law_is_ratio
    b_law_is_ratio := (fun_mk (st := s_law_is_ratio) l_law_is_ratio c_law_is_ratio k_law_is_ratio).binds (ps := ["actual"]) fun _ _ _ _ _ _ us hl => match us, hl with | [_], _ => rfl
    a_law_row := f_law_row
    d_law_row := _
    F_law_row := fun_mk (st := s_law_row) l_law_row c_law_row k_law_row
    k_law_row := k_law_row
    m_law_row := PySem.W.mg_of X G g_law_row
    b_law_row := (fun_mk (st := s_law_row) l_law_row c_law_row k_law_row).binds (ps := ["cell", "many"]) fun _ _ _ _ _ _ us hl => match us, hl with | [_, _], _ => rfl
    a_law_numbers := f_law_numbers
    d_law_numbers := _
    F_law_numbers := fun_mk (st := s_law_numbers) l_law_numbers c_law_numbers k_law_numbers
    k_law_numbers := k_law_numbers
    m_law_numbers := PySem.W.mg_of X G g_law_numbers
    b_law_numbers := (fun_mk (st := s_law_numbers) l_law_numbers c_law_numbers k_law_numbers).binds (ps := ["script", "many"]) fun _ _ _ _ _ _ us hl => match us, hl with | [_, _], _ => rfl
    a_sum_ratios := f_sum_ratios
    d_sum_ratios := _
    F_sum_ratios := fun_mk (st := s_sum_ratios) l_sum_ratios c_sum_ratios k_sum_ratios
    k_sum_ratios := k_sum_ratios
    m_sum_ratios := PySem.W.mg_of X G g_sum_ratios
    b_sum_ratios := (fun_mk (st := s_sum_ratios) l_sum_ratios c_sum_ratios k_sum_ratios).binds (ps := ["ratios"]) fun _ _ _ _ _ _ us hl => match us, hl with | [_], _ => rfl
    a_decimal := f_decimal
    d_decimal := _
    F_decimal := fun_mk (st := s_decimal) l_decimal c_decimal k_decimal
    k_decimal := k_decimal
    m_decimal := PySem.W.mg_of X G g_decimal
    b_decimal := (fun_mk (st := s_decimal) l_decimal c_decimal k_decimal).binds (ps := ["number"]) fun _ _ _ _ _ _ us hl => match us, hl with | [_], _ => rfl
    a_ratio_text := f_ratio_text
    d_ratio_text := _
    F_ratio_text := fun_mk (st := s_ratio_text) l_ratio_text c_ratio_text k_ratio_text
    k_ratio_text := k_ratio_text
    m_ratio_text := PySem.W.mg_of X G g_ratio_text
    b_ratio_text := (fun_mk (st := s_ratio_text) l_ratio_text c_ratio_text k_ratio_text).binds (ps := ["ratio"]) fun _ _ _ _ _ _ us hl => match us, hl with | [_], _ => rfl
    a_law := f_law
    d_law := _
    F_law := fun_mk (st := s_law) l_law c_law k_law
    k_law := k_law
    m_law := PySem.W.mg_of X G g_law
    b_law := (fun_mk (st := s_law) l_law c_law k_law).binds (ps := ["script"]) fun _ _ _ _ _ _ us hl => match us, hl with | [_], _ => rfl
    e_law := fun s v => .of_eq rfl }
  have e : fa = T.a_law := Value.ref.inj (Option.some.inj (hfa.symm.trans T.m_law))
  subst e
  exact ⟨T.d_law, T.e_law, fun base _ _ => (ok_law (P := l.prog) (w := w) (base := base) T).imp fun vs H Q E h => spTrue_of law_true h⟩
theorem walk {l : PySem.W.OpenLaw} {q : Program} {loose : List Str} {XP : (Str → Option Value) → Heap → Prop} {YP : World → Heap → Prop} {d : DefRec} {K : Params → Frag} (hn : l.most = some 63) (hdf : d.params.defaults = [])
    (hY : ∀ (w : World) (h : Heap), YP w h → (K w.params).In h)
    (hF : ∀ (w : World) (mg : Mg) (fa : Addr) (h : Heap), (K w.params).In h → h.Ns mainGlobals mg → mg d.name = some (.ref fa) → ∃ fd : FuncData, (∀ (s : Shared) (u : Value), BindsTo s fd ⟨[u], []⟩ [("script", u)]) ∧
      ∀ base : Heap, (K w.params).In base → base.Ns mainGlobals mg → FnOk l.prog w (K w.params) mg base CX0 4 fa fd ["script"] (spTrue (K w.params))) : PySem.W.WalkO q loose XP YP l.row.toRowW d [] (fun f vs => PySem.call f vs) :=
  L2.walk_of (n := 63) (k := 4) (x := "script") (CX := fun _ => CX0) (sp := fun w => spTrue (K w.params)) hn (by decide) hdf ⟨rfl, by decide, by decide⟩ hY hF (fun _ _ a ns hl _ hS => ⟨a, ns, rfl, hS, hl, fun _ => rfl⟩) fun _ _ _ _ _ z => z
end
end My
open PySem PySem.W PyProof.Rows in
set_option maxRecDepth 100000 in
set_option maxHeartbeats 0 in
theorem PySem.Challenge.cw_neverlate_k02_sum_and_text_holds : PySem.Challenge.rw_neverlate_k02_sum_and_text.Holds := by
  w_on; o_law; k_head; (case hw => w_witness2)
  k_fill
  refine My.walk (l := PySem.Challenge.rw_neverlate_k02_sum_and_text) rfl rfl (fun w h Y => PySem.W.kIn_of Y) ?hF
  case hF =>
    intro w mg fa h KX G hmg
    refine' My.all_mk KX G hmg ?z_abs ?z_bool ?z_divmod ?z_int ?z_isinstance ?z_len ?z_list ?z_max ?z_range ?z_str ?z_tuple ?z_gcd ?g_make_ratio ?l_make_ratio ?c_make_ratio ?k_make_ratio ?g_add_ratios ?l_add_ratios ?c_add_ratios ?k_add_ratios ?g_law_is_integer ?l_law_is_integer ?c_law_is_integer ?k_law_is_integer ?g_law_divisor ?l_law_divisor ?c_law_divisor ?k_law_divisor ?g_law_is_ratio ?l_law_is_ratio ?c_law_is_ratio ?k_law_is_ratio ?g_law_row ?l_law_row ?c_law_row ?k_law_row ?g_law_numbers ?l_law_numbers ?c_law_numbers ?k_law_numbers ?g_sum_ratios ?l_sum_ratios ?c_sum_ratios ?k_sum_ratios ?g_decimal ?l_decimal ?c_decimal ?k_decimal ?g_ratio_text ?l_ratio_text ?c_ratio_text ?k_ratio_text ?g_law ?l_law ?c_law ?k_law
    (case z_abs => k_is)
    (case z_bool => k_is)
    (case z_divmod => k_is)
    (case z_int => k_is)
    (case z_isinstance => k_is)
    (case z_len => k_is)
    (case z_list => k_is)
    (case z_max => k_is)
    (case z_range => k_is)
    (case z_str => k_is)
    (case z_tuple => k_is)
    (case z_gcd => k_is)
    (case g_make_ratio => k_is)
    (case l_make_ratio => k_is)
    (case c_make_ratio => k_is)
    (case k_make_ratio => k_is)
    (case g_add_ratios => k_is)
    (case l_add_ratios => k_is)
    (case c_add_ratios => k_is)
    (case k_add_ratios => k_is)
    (case g_law_is_integer => k_is)
    (case l_law_is_integer => k_is)
    (case c_law_is_integer => k_is)
    (case k_law_is_integer => k_is)
    (case g_law_divisor => k_is)
    (case l_law_divisor => k_is)
    (case c_law_divisor => k_is)
    (case k_law_divisor => k_is)
    (case g_law_is_ratio => k_is)
    (case l_law_is_ratio => k_is)
    (case c_law_is_ratio => k_is)
    (case k_law_is_ratio => k_is)
    (case g_law_row => k_is)
    (case l_law_row => k_is)
    (case c_law_row => k_is)
    (case k_law_row => k_is)
    (case g_law_numbers => k_is)
    (case l_law_numbers => k_is)
    (case c_law_numbers => k_is)
    (case k_law_numbers => k_is)
    (case g_sum_ratios => k_is)
    (case l_sum_ratios => k_is)
    (case c_sum_ratios => k_is)
    (case k_sum_ratios => k_is)
    (case g_decimal => k_is)
    (case l_decimal => k_is)
    (case c_decimal => k_is)
    (case k_decimal => k_is)
    (case g_ratio_text => k_is)
    (case l_ratio_text => k_is)
    (case c_ratio_text => k_is)
    (case k_ratio_text => k_is)
    (case g_law => k_is)
    (case l_law => k_is)
    (case c_law => k_is)
    (case k_law => k_is)
