import PyProof.Rows.All
import KE.DataMinMax
import KE.GoesEnumKw
import KE.GoesRev
import HandS.RepeatKit
import Wide.All
import OpenK.AllK
import Wide.FinOn
import HandS.ForMost
import HandS.ForExc
import HandS.IsInst
import HandS.Gcd
import HandS.Wide
import HandS.Property
import HandS.MakeKw
import HandS.MakeKwOnly
import HandS.Iter
import HandS.Strs
import HandS.Text
import KE.GoesMore
import PyProof.EnumMake
import KE.DataEq
import HandS.Style
import KE.KTupSum
import KE.DatumOrd
import HandS.SortKw
import HandS.Defaults
import KE.KMathGC
import KE.GoesZip
import KE.GoesEnum
import KE.SortData
import KE.DataCmp
import HandS.CallSlots
import HandS.ExcIs
import HandS.ExcField
import HandS.ExcInit
import HandS.Nested
import HandS.FStr
import HandS.ExcSuper
import HandS.TryOnly
import KE.KExcSuper
import KE.KExcIs
import PyProof.FitsInt
import PyProof.StrBlock2
import HandS.RaiseMore
import HandS.StrMore
import PyProof.NoPylong
import PyProof.Rows.RuleDivmod
import PyProof.Rows.InDataRows
import PyProof.StrLawsIn
import KE.IntTextLaws
import KE.KDictZip
import PySem.Challenge.RW_neverlate_k81_dominating_tables
set_option Elab.async false
set_option linter.all false
set_option maxRecDepth 100000
set_option maxHeartbeats 0
namespace Nz
open PySem PySem.Spec PyProof.Rows L2
/-- data that never changes any more -/
inductive D where
  | non | bl (b : Bool) | int (i : Int) | str (s : Str)
  | tup (xs : List D) | lst (xs : List D) | obj (c : Str) (fs : List (Str × D))
abbrev Frag := PySem.W.Frag
abbrev Mg := Str → Option Value
mutual
inductive Rep (K : Frag) (mg : Mg) (F : Hp) : D → V → Prop
  | non : Rep K mg F .non .non
  | bl (b : Bool) : Rep K mg F (.bl b) (.bl b)
  | int (i : Int) : Rep K mg F (.int i) (.int i)
  | str (s : Str) : Rep K mg F (.str s) (.str s)
  | tup {a : Addr} {ds : List D} {vs : List V} : SqT K F a vs → Reps K mg F ds vs → Rep K mg F (.tup ds) (.ref a)
  | lst {a : Addr} {ds : List D} {vs : List V} : SqL K F a vs → Reps K mg F ds vs → Rep K mg F (.lst ds) (.ref a)
  | obj {a dx C : Addr} {c : Str} {fs : List (Str × D)} {vs : List (Str × V)} : mg c = some (.ref C) → F a = some (.ins C dx vs) → F dx = some (.own a) →
      RepF K mg F fs vs → Rep K mg F (.obj c fs) (.ref a)
inductive Reps (K : Frag) (mg : Mg) (F : Hp) : List D → List V → Prop
  | nil : Reps K mg F [] []
  | cons {d : D} {v : V} {ds : List D} {vs : List V} : Rep K mg F d v → Reps K mg F ds vs → Reps K mg F (d :: ds) (v :: vs)
inductive RepF (K : Frag) (mg : Mg) (F : Hp) : List (Str × D) → List (Str × V) → Prop
  | nil : RepF K mg F [] []
  | cons {n : Str} {d : D} {v : V} {ds : List (Str × D)} {vs : List (Str × V)} : Rep K mg F d v → RepF K mg F ds vs → RepF K mg F ((n, d) :: ds) ((n, v) :: vs)
end
theorem _root_.L2.Same.seqT {K : Frag} {H H' : Hp} {a : Addr} {xs : List V} (e : Same H H') (h : SqT K H a xs) : SqT K H' a xs := by
  rcases h with (h | ⟨o, h⟩) | h
  · exact .inl (.inl (e _ _ h))
  · exact .inl (.inr ⟨o, e _ _ h⟩)
  · exact .inr h
section
variable {K : Frag} {mg : Mg} {F F' : Hp}
mutual
theorem Rep.mono (s : Same F F') : ∀ {d : D} {v : V}, Rep K mg F d v → Rep K mg F' d v
  | _, _, .non => .non
  | _, _, .bl b => .bl b
  | _, _, .int i => .int i
  | _, _, .str x => .str x
  | _, _, .tup h r => .tup (s.seqT h) (Reps.mono s r)
  | _, _, .lst h r => .lst (s.seq h) (Reps.mono s r)
  | _, _, .obj m h1 h2 r => .obj m (s _ _ h1) (s _ _ h2) (RepF.mono s r)
theorem Reps.mono (s : Same F F') : ∀ {d : List D} {v : List V}, Reps K mg F d v → Reps K mg F' d v
  | _, _, .nil => .nil
  | _, _, .cons h r => .cons (Rep.mono s h) (Reps.mono s r)
theorem RepF.mono (s : Same F F') : ∀ {d : List (Str × D)} {v : List (Str × V)}, RepF K mg F d v → RepF K mg F' d v
  | _, _, .nil => .nil
  | _, _, .cons h r => .cons (Rep.mono s h) (RepF.mono s r)
end
theorem Reps.length : ∀ {ds : List D} {vs : List V}, Reps K mg F ds vs → ds.length = vs.length
  | _, _, .nil => rfl
  | _, _, .cons _ r => congrArg (· + 1) (Reps.length r)
theorem Reps.get : ∀ {ds : List D} {vs : List V} {i : Nat} {d : D}, Reps K mg F ds vs → ds[i]? = some d → ∃ v, vs[i]? = some v ∧ Rep K mg F d v
  | _, _, _, _, .nil, h => by simp at h
  | _, _, 0, _, .cons h r, e => by simp at e; subst e; exact ⟨_, rfl, h⟩
  | _, _, i + 1, _, .cons h r, e => by
    obtain ⟨v, h1, h2⟩ := Reps.get (i := i) r (by simpa using e)
    exact ⟨v, by simpa using h1, h2⟩
theorem Reps.append : ∀ {ds es : List D} {vs us : List V}, Reps K mg F ds vs → Reps K mg F es us → Reps K mg F (ds ++ es) (vs ++ us)
  | _, _, _, _, .nil, s => s
  | _, _, _, _, .cons h r, s => .cons h (r.append s)
theorem Reps.ints : ∀ {ns : List Int}, Reps K mg F (ns.map D.int) (ns.map V.int)
  | [] => .nil
  | _ :: ns => .cons (.int _) (Reps.ints (ns := ns))
theorem Reps.ints_eq : ∀ {ns : List Int} {vs : List V}, Reps K mg F (ns.map D.int) vs → vs = ns.map V.int
  | [], _, .nil => rfl
  | _ :: ns, _, .cons h r => by
    cases h
    rw [Reps.ints_eq (ns := ns) r]; rfl
theorem Reps.set : ∀ {ds : List D} {vs : List V} (i : Nat) {d : D} {v : V}, Reps K mg F ds vs → Rep K mg F d v → Reps K mg F (ds.set i d) (vs.set i v)
  | _, _, _, _, _, .nil, _ => .nil
  | _, _, 0, _, _, .cons _ r, h => .cons h r
  | _, _, i + 1, _, _, .cons q r, h => .cons q (r.set i h)
theorem Reps.take : ∀ {ds : List D} {vs : List V} (i : Nat), Reps K mg F ds vs → Reps K mg F (ds.take i) (vs.take i)
  | _, _, 0, _ => by simpa using Reps.nil
  | _, _, _ + 1, .nil => .nil
  | _, _, i + 1, .cons q r => .cons q (r.take i)
theorem Reps.drop : ∀ {ds : List D} {vs : List V} (i : Nat), Reps K mg F ds vs → Reps K mg F (ds.drop i) (vs.drop i)
  | _, _, 0, r => r
  | _, _, _ + 1, .nil => .nil
  | _, _, i + 1, .cons _ r => r.drop i
end
/-- a cell: frozen data, or the live object of this name -/
inductive Ce where
  | fr (d : D) | ad (n : Nat) | xv (u : V)
/-- a live object -/
inductive LO where
  | fl (ds : List D)                    -- a list of frozen data
  | cl (cs : List Ce)                   -- a list of cells
  | ins (c : Str) (fs : List (Str × Ce)) -- an instance
  | dT (kvs : List (List Key × D))
  | dK (kvs : List (Key × Ce))
/-- a state: the slots, the live objects -/
structure S where
  ρ : List (Option Ce)
  L : List (Nat × LO)
def names (L : List (Nat × LO)) : List Nat := L.map (·.1)
def CRel (K : Frag) (mg : Mg) (F : Hp) (α : Nat → Addr) (L : List (Nat × LO)) (c : Ce) (v : V) : Prop :=
  match c with
  | .fr d => Rep K mg F d v
  | .ad n => n ∈ names L ∧ v = .ref (α n)
  | .xv u => v = u
inductive CRels (K : Frag) (mg : Mg) (F : Hp) (α : Nat → Addr) (L : List (Nat × LO)) : List Ce → List V → Prop
  | nil : CRels K mg F α L [] []
  | cons {c : Ce} {v : V} {cs : List Ce} {vs : List V} : CRel K mg F α L c v → CRels K mg F α L cs vs → CRels K mg F α L (c :: cs) (v :: vs)
inductive CRelF (K : Frag) (mg : Mg) (F : Hp) (α : Nat → Addr) (L : List (Nat × LO)) : List (Str × Ce) → List (Str × V) → Prop
  | nil : CRelF K mg F α L [] []
  | cons {n : Str} {c : Ce} {v : V} {cs : List (Str × Ce)} {vs : List (Str × V)} : CRel K mg F α L c v → CRelF K mg F α L cs vs → CRelF K mg F α L ((n, c) :: cs) ((n, v) :: vs)
inductive CRelK {κ : Type} (K : Frag) (mg : Mg) (F : Hp) (α : Nat → Addr) (L : List (Nat × LO)) : List (κ × Ce) → List (κ × V) → Prop
  | nil : CRelK K mg F α L [] []
  | cons {n : κ} {c : Ce} {v : V} {cs : List (κ × Ce)} {vs : List (κ × V)} : CRel K mg F α L c v → CRelK K mg F α L cs vs → CRelK K mg F α L ((n, c) :: cs) ((n, v) :: vs)
/-- the slots -/
inductive SlR (K : Frag) (mg : Mg) (F : Hp) (α : Nat → Addr) (L : List (Nat × LO)) : List (Option Ce) → L2.St → Prop
  | nil : SlR K mg F α L [] []
  | no {o : Option V} {cs : List (Option Ce)} {vs : L2.St} : SlR K mg F α L cs vs → SlR K mg F α L (none :: cs) (o :: vs)
  | so {c : Ce} {v : V} {cs : List (Option Ce)} {vs : L2.St} : CRel K mg F α L c v → SlR K mg F α L cs vs → SlR K mg F α L (some c :: cs) (some v :: vs)
/-- what a def was entered with: the frozen heap, the heap, what it may change -/
structure Bd where
  F0 : Hp
  H0 : Hp
  fp : Addr → Prop
  pa : Nat → Option Addr
  hpa : ∀ n, 100 ≤ n → pa n = none
/-- the live object o stands at a -/
def LAt (K : Frag) (mg : Mg) (B : Bd) (F : Hp) (α : Nat → Addr) (L : List (Nat × LO)) (H : Hp) (a : Addr) : LO → Prop
  | .fl ds => ∃ vs, H a = some (.lst vs) ∧ Reps K mg F ds vs
  | .cl cs => ∃ vs, H a = some (.lst vs) ∧ CRels K mg F α L cs vs
  | .ins c fs => ∃ C dx vs, mg c = some (.ref C) ∧ H a = some (.ins C dx vs) ∧ H dx = some (.own a) ∧ F dx = none ∧ (B.H0 dx = none ∨ B.fp dx) ∧ CRelF K mg F α L fs vs
  | .dT kvs => ∃ vs, H a = some (.dT vs) ∧ Paired (fun (p : List Key × D) (q : List Key × V) => p.1 = q.1 ∧ Rep K mg F p.2 q.2) kvs vs
  | .dK kvs => ∃ vs, H a = some (.dK vs) ∧ CRelK K mg F α L kvs vs
structure Rel (K : Frag) (mg : Mg) (B : Bd) (F : Hp) (α : Nat → Addr) (H : Hp) (σ : L2.St) (S : S) : Prop where
  sub : Same F H
  bF : Same B.F0 F
  nF : ∀ b o, F b = some o → B.F0 b = some o ∨ B.H0 b = none ∨ B.fp b
  frame : ∀ b o, B.H0 b = some o → ¬ B.fp b → H b = some o
  nd : (names S.L).Nodup
  inj : ∀ n m, n ∈ names S.L → m ∈ names S.L → α n = α m → n = m
  live : ∀ n o, (n, o) ∈ S.L → F (α n) = none ∧ (B.H0 (α n) = none ∨ B.fp (α n)) ∧ LAt K mg B F α S.L H (α n) o
  slots : SlR K mg F α S.L S.ρ σ
  fix : ∀ n a, B.pa n = some a → n ∈ names S.L → α n = a
/-- a step keeps what is frozen, and the names of what lives -/
structure Stp (F : Hp) (α : Nat → Addr) (L : List (Nat × LO)) (F' : Hp) (α' : Nat → Addr) : Prop where
  fro : Same F F'
  nm : ∀ n, n ∈ names L → α' n = α n
def wE (X : Cx) (e : Expr) (σ : L2.St) (H : Hp) (Q : VK) : Prop :=
  ∀ pins s, Inv X pins σ H s → wpAny (model X.prog X.w) X.A (eval e X.env) (EP X pins σ Q) X.xe s
def wT (X : Cx) (e : Expr) (σ : L2.St) (H : Hp) (Q : Bool → Hp → Prop) : Prop :=
  ∀ pins s, Inv X pins σ H s → wpAny (model X.prog X.w) X.A (isTrue e X.env (eval e X.env)) (TP X pins σ Q) X.xe s
def wA (X : Cx) (es : List Expr) (σ : L2.St) (H : Hp) (Q : List V → Hp → Prop) : Prop :=
  ∀ pos pins s, Inv X pins σ H s → wpAny (model X.prog X.w) X.A (spliced (backTo pos (starEach es X.env))) (AP X pins σ Q) X.xe s
def wS (X : Cx) (st : Stmt) (D : Ends) (σ : L2.St) (H : Hp) : Prop :=
  ∀ pins s, Inv X pins σ H s → wpAny (model X.prog X.w) X.A (exec st X.env) (SP X pins D) X.xe s
def wSs (X : Cx) (st : List Stmt) (D : Ends) (σ : L2.St) (H : Hp) : Prop :=
  ∀ pins s, Inv X pins σ H s → wpAny (model X.prog X.w) X.A (execs st X.env) (SP X pins D) X.xe s
theorem pe_w {X : Cx} {e : Expr} : PE X e (wE X e) := ⟨fun pins s σ H Q I h => h pins s I⟩
theorem pt_w {X : Cx} {e : Expr} : PT X e (wT X e) := ⟨fun pins s σ H Q I h => h pins s I⟩
theorem pa_w {X : Cx} {e : List Expr} : PA X e (wA X e) := ⟨fun pos pins s σ H Q I h => h pos pins s I⟩
theorem ps_w {X : Cx} {e : Stmt} : PS X e (wS X e) := ⟨fun pins s σ H Q I h => h pins s I⟩
theorem pss_w {X : Cx} {e : List Stmt} : PSs X e (wSs X e) := ⟨fun pins s σ H Q I h => h pins s I⟩
theorem wE.of {X : Cx} {e : Expr} {t : TE} {σ : L2.St} {H : Hp} {Q : VK} (h : PE X e t) (q : t σ H Q) : wE X e σ H Q := fun pins s I => h.run pins s σ H Q I q
theorem wT.of {X : Cx} {e : Expr} {t : TT} {σ : L2.St} {H : Hp} {Q : Bool → Hp → Prop} (h : PT X e t) (q : t σ H Q) : wT X e σ H Q := fun pins s I => h.run pins s σ H Q I q
theorem wA.of {X : Cx} {e : List Expr} {t : TA} {σ : L2.St} {H : Hp} {Q : List V → Hp → Prop} (h : PA X e t) (q : t σ H Q) : wA X e σ H Q := fun pos pins s I => h.run pos pins s σ H Q I q
theorem wS.of {X : Cx} {e : Stmt} {t : TS} {σ : L2.St} {H : Hp} {D : Ends} (h : PS X e t) (q : t D σ H) : wS X e D σ H := fun pins s I => h.run pins s σ H D I q
theorem wSs.of {X : Cx} {e : List Stmt} {t : TS} {σ : L2.St} {H : Hp} {D : Ends} (h : PSs X e t) (q : t D σ H) : wSs X e D σ H := fun pins s I => h.run pins s σ H D I q
abbrev RelX (X : Cx) := Rel X.K X.mg
abbrev CR (X : Cx) := CRel X.K X.mg
/-- e in the state S gives c and leaves S' -/
def Ev (X : Cx) (B : Bd) (e : Expr) (S : S) (c : Ce) (S' : Nz.S) : Prop :=
  ∀ F α H σ Q, RelX X B F α H σ S → (∀ F' α' v H', RelX X B F' α' H' σ S' → Stp F α S.L F' α' → CR X F' α' S'.L c v → Q v H') → wE X e σ H Q
def Et (X : Cx) (B : Bd) (e : Expr) (S : S) (b : Bool) (S' : Nz.S) : Prop :=
  ∀ F α H σ Q, RelX X B F α H σ S → (∀ F' α' H', RelX X B F' α' H' σ S' → Stp F α S.L F' α' → Q b H') → wT X e σ H Q
def Ea (X : Cx) (B : Bd) (es : List Expr) (S : S) (cs : List Ce) (S' : Nz.S) : Prop :=
  ∀ F α H σ Q, RelX X B F α H σ S → (∀ F' α' vs H', RelX X B F' α' H' σ S' → Stp F α S.L F' α' → CRels X.K X.mg F' α' S'.L cs vs → Q vs H') → wA X es σ H Q
/-- how a statement ends -/
inductive Out where
  | nx (S : S) | ret (c : Ce) (S : S) | bk (S : S) | ct (S : S)
structure OutOk (X : Cx) (B : Bd) (F : Hp) (K : Out → Prop) (D : Ends) : Prop where
  nx : ∀ S' F' α' H' σ', K (.nx S') → RelX X B F' α' H' σ' S' → Same F F' → D.nx σ' H'
  bk : ∀ S' F' α' H' σ', K (.bk S') → RelX X B F' α' H' σ' S' → Same F F' → D.bk σ' H'
  ct : ∀ S' F' α' H' σ', K (.ct S') → RelX X B F' α' H' σ' S' → Same F F' → D.ct σ' H'
  ret : ∀ c S' F' α' H' σ' v, K (.ret c S') → RelX X B F' α' H' σ' S' → Same F F' → CR X F' α' S'.L c v → D.rt v H'
theorem OutOk.mono {X : Cx} {B : Bd} {F F' : Hp} {K : Out → Prop} {D : Ends} (h : OutOk X B F K D) (s : Same F F') : OutOk X B F' K D :=
  ⟨fun S' F1 α' H' σ' k r q => h.nx _ _ _ _ _ k r (s.trans q), fun S' F1 α' H' σ' k r q => h.bk _ _ _ _ _ k r (s.trans q), fun S' F1 α' H' σ' k r q => h.ct _ _ _ _ _ k r (s.trans q),
    fun c S' F1 α' H' σ' v k r q z => h.ret _ _ _ _ _ _ _ k r (s.trans q) z⟩
def Ex (X : Cx) (B : Bd) (st : Stmt) (S : S) (K : Out → Prop) : Prop :=
  ∀ F α H σ D, RelX X B F α H σ S → OutOk X B F K D → wS X st D σ H
def Exs (X : Cx) (B : Bd) (st : List Stmt) (S : S) (K : Out → Prop) : Prop :=
  ∀ F α H σ D, RelX X B F α H σ S → OutOk X B F K D → wSs X st D σ H
end Nz
namespace Nz
open PySem PySem.Spec PyProof.Rows L2
def getL (n : Nat) : List (Nat × LO) → Option LO
  | [] => none
  | (m, o) :: r => if n = m then some o else getL n r
def setL (n : Nat) (o : LO) : List (Nat × LO) → List (Nat × LO)
  | [] => []
  | (m, u) :: r => if n = m then (m, o) :: r else (m, u) :: setL n o r
theorem getL_mem : ∀ {L : List (Nat × LO)} {n : Nat} {o : LO}, getL n L = some o → (n, o) ∈ L
  | (m, u) :: r, n, o, h => by
    unfold getL at h
    split at h
    · rename_i e; cases h; rw [e]; exact List.mem_cons_self
    · exact List.mem_cons_of_mem _ (getL_mem h)
theorem mem_names {L : List (Nat × LO)} {n : Nat} {o : LO} (h : (n, o) ∈ L) : n ∈ names L := List.mem_map.mpr ⟨_, h, rfl⟩
theorem names_setL : ∀ (L : List (Nat × LO)) (n : Nat) (o : LO), names (setL n o L) = names L
  | [], _, _ => rfl
  | (m, u) :: r, n, o => by
    unfold setL
    split
    · rfl
    · show m :: names (setL n o r) = m :: names r
      rw [names_setL r n o]
theorem mem_setL : ∀ {L : List (Nat × LO)} {n m : Nat} {o u : LO}, (names L).Nodup → (m, u) ∈ setL n o L → (m = n ∧ u = o) ∨ (m ≠ n ∧ (m, u) ∈ L)
  | (k, w) :: r, n, m, o, u, nd, h => by
    have nd' : k ∉ names r ∧ (names r).Nodup := List.nodup_cons.mp nd
    unfold setL at h
    split at h
    · rename_i e
      subst e
      rcases List.mem_cons.mp h with h | h
      · cases h; exact .inl ⟨rfl, rfl⟩
      · exact .inr ⟨fun q => nd'.1 (q ▸ mem_names h), List.mem_cons_of_mem _ h⟩
    · rename_i e
      rcases List.mem_cons.mp h with h | h
      · cases h; exact .inr ⟨fun q => e q.symm, List.mem_cons_self⟩
      · rcases mem_setL nd'.2 h with h | ⟨h1, h2⟩
        · exact .inl h
        · exact .inr ⟨h1, List.mem_cons_of_mem _ h2⟩
section
variable {K : Frag} {mg : Mg} {F F' : Hp} {α α' : Nat → Addr} {L L' : List (Nat × LO)}
theorem Stp.refl : Stp F α L F α := ⟨Same.refl _, fun _ _ => rfl⟩
theorem Stp.trans {F2 : Hp} {α2 : Nat → Addr} (a : Stp F α L F' α') (b : Stp F' α' L' F2 α2) (s : ∀ n, n ∈ names L → n ∈ names L') : Stp F α L F2 α2 :=
  ⟨a.fro.trans b.fro, fun n h => (b.nm n (s n h)).trans (a.nm n h)⟩
theorem CRel.step (st : Stp F α L F' α') (hs : ∀ n, n ∈ names L → n ∈ names L') : ∀ {c : Ce} {v : V}, CRel K mg F α L c v → CRel K mg F' α' L' c v
  | .fr _, _, h => Rep.mono st.fro h
  | .ad n, _, ⟨h1, h2⟩ => ⟨hs n h1, by rw [h2, st.nm n h1]⟩
  | .xv _, _, h => h
theorem CRels.step (st : Stp F α L F' α') (hs : ∀ n, n ∈ names L → n ∈ names L') : ∀ {c : List Ce} {v : List V}, CRels K mg F α L c v → CRels K mg F' α' L' c v
  | _, _, .nil => .nil
  | _, _, .cons h r => .cons (h.step st hs) (r.step st hs)
theorem CRelF.step (st : Stp F α L F' α') (hs : ∀ n, n ∈ names L → n ∈ names L') : ∀ {c : List (Str × Ce)} {v : List (Str × V)}, CRelF K mg F α L c v → CRelF K mg F' α' L' c v
  | _, _, .nil => .nil
  | _, _, .cons h r => .cons (h.step st hs) (r.step st hs)
theorem CRelK.step {κ : Type} (st : Stp F α L F' α') (hs : ∀ n, n ∈ names L → n ∈ names L') : ∀ {c : List (κ × Ce)} {v : List (κ × V)}, CRelK K mg F α L c v → CRelK K mg F' α' L' c v
  | _, _, .nil => .nil
  | _, _, .cons h r => .cons (h.step st hs) (r.step st hs)
theorem SlR.step (st : Stp F α L F' α') (hs : ∀ n, n ∈ names L → n ∈ names L') : ∀ {c : List (Option Ce)} {v : L2.St}, SlR K mg F α L c v → SlR K mg F' α' L' c v
  | _, _, .nil => .nil
  | _, _, .no r => .no (r.step st hs)
  | _, _, .so h r => .so (h.step st hs) (r.step st hs)
theorem SlR.get : ∀ {c : List (Option Ce)} {σ : L2.St} {i : Nat} {x : Ce}, SlR K mg F α L c σ → c[i]? = some (some x) → ∃ v, σ[i]? = some (some v) ∧ CRel K mg F α L x v
  | _, _, _, _, .nil, h => by simp at h
  | _, _, 0, _, .no _, h => by simp at h
  | _, _, 0, _, .so h _, e => by simp at e; subst e; exact ⟨_, rfl, h⟩
  | _, _, i + 1, _, .no r, e => by
    obtain ⟨v, h1, h2⟩ := SlR.get (i := i) r (by simpa using e)
    exact ⟨v, by simpa using h1, h2⟩
  | _, _, i + 1, _, .so _ r, e => by
    obtain ⟨v, h1, h2⟩ := SlR.get (i := i) r (by simpa using e)
    exact ⟨v, by simpa using h1, h2⟩
theorem SlR.set : ∀ {c : List (Option Ce)} {σ : L2.St} (i : Nat) {x : Ce} {v : V}, SlR K mg F α L c σ → CRel K mg F α L x v → SlR K mg F α L (c.set i (some x)) (σ.set i (some v))
  | _, _, _, _, _, .nil, _ => .nil
  | _, _, 0, _, _, .no r, h => .so h r
  | _, _, 0, _, _, .so _ r, h => .so h r
  | _, _, i + 1, _, _, .no r, h => .no (r.set i h)
  | _, _, i + 1, _, _, .so q r, h => .so q (r.set i h)
theorem CRels.fr : ∀ {ds : List D} {vs : List V}, CRels K mg F α L (ds.map Ce.fr) vs → Reps K mg F ds vs
  | [], _, .nil => .nil
  | _ :: _, _, .cons h r => .cons h (CRels.fr r)
theorem CRels.length : ∀ {c : List Ce} {v : List V}, CRels K mg F α L c v → c.length = v.length
  | _, _, .nil => rfl
  | _, _, .cons _ r => congrArg (· + 1) r.length
theorem CRels.append : ∀ {c c' : List Ce} {v v' : List V}, CRels K mg F α L c v → CRels K mg F α L c' v' → CRels K mg F α L (c ++ c') (v ++ v')
  | _, _, _, _, .nil, s => s
  | _, _, _, _, .cons h r, s => .cons h (r.append s)
theorem CRels.get : ∀ {ds : List Ce} {vs : List V} {i : Nat} {d : Ce}, CRels K mg F α L ds vs → ds[i]? = some d → ∃ v, vs[i]? = some v ∧ CRel K mg F α L d v
  | _, _, _, _, .nil, h => by simp at h
  | _, _, 0, _, .cons h r, e => by simp at e; subst e; exact ⟨_, rfl, h⟩
  | _, _, i + 1, _, .cons h r, e => by
    obtain ⟨v, h1, h2⟩ := CRels.get (i := i) r (by simpa using e)
    exact ⟨v, by simpa using h1, h2⟩
variable {B : Bd} {H H' : Hp} {a : Addr}
theorem Paired.imp {κ μ : Type} {R R' : κ → μ → Prop} (h : ∀ a b, R a b → R' a b) : ∀ {xs : List κ} {ys : List μ}, Paired R xs ys → Paired R' xs ys
  | _, _, .nil => .nil
  | _, _, .cons r t => .cons (h _ _ r) (Paired.imp h t)
theorem LAt.step {o : LO} (st : Stp F α L F' α') (hs : ∀ n, n ∈ names L → n ∈ names L') (hH : ∀ b u, H b = some u → H' b = some u) (hF : ∀ b u, F' b = some u → F b = some u ∨ H b = none)
    (h : LAt K mg B F α L H a o) : LAt K mg B F' α' L' H' a o := by
  cases o with
  | fl ds => obtain ⟨vs, e, r⟩ := h; exact ⟨vs, hH _ _ e, r.mono st.fro⟩
  | cl cs => obtain ⟨vs, e, r⟩ := h; exact ⟨vs, hH _ _ e, r.step st hs⟩
  | ins c fs =>
    obtain ⟨C, dx, vs, m, e1, e2, e3, e4, r⟩ := h
    refine ⟨C, dx, vs, m, hH _ _ e1, hH _ _ e2, ?_, e4, r.step st hs⟩
    cases q : F' dx with
    | none => rfl
    | some u =>
      rcases hF _ _ q with z | z
      · rw [e3] at z; cases z
      · rw [e2] at z; cases z
  | dT kvs => obtain ⟨vs, e, r⟩ := h; exact ⟨vs, hH _ _ e, Paired.imp (fun _ _ z => ⟨z.1, z.2.mono st.fro⟩) r⟩
  | dK kvs => obtain ⟨vs, e, r⟩ := h; exact ⟨vs, hH _ _ e, r.step st hs⟩
theorem LAt.is {o : LO} (h : LAt K mg B F α L H a o) : ∃ u, H a = some u := by
  cases o with
  | fl ds => obtain ⟨vs, e, r⟩ := h; exact ⟨_, e⟩
  | cl cs => obtain ⟨vs, e, r⟩ := h; exact ⟨_, e⟩
  | ins c fs => obtain ⟨C, dx, vs, m, e1, _⟩ := h; exact ⟨_, e1⟩
  | dT kvs => obtain ⟨vs, e, r⟩ := h; exact ⟨_, e⟩
  | dK kvs => obtain ⟨vs, e, r⟩ := h; exact ⟨_, e⟩
variable {σ : L2.St} {S : Nz.S}
/-- the heap grows, and what is frozen by new things -/
theorem Rel.grow (R : Rel K mg B F α H σ S) (hF : Same F F') (hH : Same H H') (hs : Same F' H') (hn : ∀ b u, F' b = some u → F b = some u ∨ H b = none) : Rel K mg B F' α H' σ S := by
  have st : Stp F α S.L F' α := ⟨hF, fun _ _ => rfl⟩
  refine ⟨hs, R.bF.trans hF, fun b o e => ?_, fun b o e n => hH _ _ (R.frame b o e n), R.nd, R.inj, fun n o h => ?_, R.slots.step st fun _ z => z, R.fix⟩
  · rcases hn b o e with z | z
    · exact R.nF b o z
    · refine .inr ?_
      by_cases f : B.fp b
      · exact .inr f
      · refine .inl ?_
        cases q : B.H0 b with
        | none => rfl
        | some u => rw [R.frame b u q f] at z; cases z
  · obtain ⟨h1, h2, h3⟩ := R.live n o h
    refine ⟨?_, h2, h3.step st (fun _ z => z) hH hn⟩
    cases q : F' (α n) with
    | none => rfl
    | some u =>
      obtain ⟨w', hw⟩ := h3.is
      rcases hn _ _ q with z | z
      · rw [h1] at z; cases z
      · rw [hw] at z; cases z
theorem same_upd {H : Hp} {p : Addr} {o : HO} (h : H p = none) : Same H (upd H p o) := fun b u e => by rw [upd_ne (ne_of_none e h)]; exact e
theorem Rel.fresh (R : Rel K mg B F α H σ S) {p : Addr} (h : H p = none) : F p = none := R.sub.free h
/-- a new frozen thing -/
theorem Rel.allocF (R : Rel K mg B F α H σ S) {p : Addr} {o : HO} (h : H p = none) : Rel K mg B (upd F p o) α (upd H p o) σ S := by
  refine R.grow (same_upd (R.fresh h)) (same_upd h) (fun b u e => ?_) fun b u e => ?_
  · by_cases q : b = p
    · subst q; rw [upd_same] at e ⊢; exact e
    · rw [upd_ne q] at e ⊢; exact R.sub b u e
  · by_cases q : b = p
    · subst q; exact .inr h
    · rw [upd_ne q] at e; exact .inl e
theorem stp_allocF {p : Addr} {o : HO} (h : F p = none) : Stp F α L (upd F p o) α := ⟨same_upd h, fun _ _ => rfl⟩
def setα (α : Nat → Addr) (n : Nat) (p : Addr) : Nat → Addr := fun m => if m = n then p else α m
theorem stp_setα {n : Nat} {p : Addr} (h : n ∉ names L) : Stp F α L F (setα α n p) := ⟨Same.refl _, fun m hm => by show (if m = n then p else α m) = α m; rw [if_neg (show ¬ m = n from fun q => h (by rw [← q]; exact hm))]⟩
theorem names_append (L : List (Nat × LO)) (n : Nat) (o : LO) : names (L ++ [(n, o)]) = names L ++ [n] := by simp [names]
/-- a new live thing -/
theorem Rel.allocL (R : Rel K mg B F α H σ S) {p : Addr} {o : HO} {n : Nat} {u : LO} (h : H p = none) (hn : n ∉ names S.L) (h100 : 100 ≤ n)
    (new : LAt K mg B F (setα α n p) (S.L ++ [(n, u)]) (upd H p o) p u) : Rel K mg B F (setα α n p) (upd H p o) σ ⟨S.ρ, S.L ++ [(n, u)]⟩ := by
  have st : Stp F α S.L F (setα α n p) := stp_setα hn
  have hsub : ∀ m, m ∈ names S.L → m ∈ names (S.L ++ [(n, u)]) := fun m hm => by rw [names_append]; exact List.mem_append_left _ hm
  have hself : setα α n p n = p := by unfold setα; rw [if_pos rfl]
  have hp0 : B.H0 p = none ∨ B.fp p := by
    by_cases f : B.fp p
    · exact .inr f
    · refine .inl ?_
      cases q : B.H0 p with
      | none => rfl
      | some w' => rw [R.frame p w' q f] at h; cases h
  refine ⟨fun b w' e => same_upd h b w' (R.sub b w' e), R.bF, R.nF, fun b w' e f => same_upd h b w' (R.frame b w' e f), ?_, ?_, ?_, R.slots.step st hsub, fun m a e hm => ?_⟩
  · rw [names_append]
    exact List.nodup_append.mpr ⟨R.nd, by simp, fun a ha b hb => by
      have : b = n := by simpa using hb
      subst this
      exact fun q => hn (q ▸ ha)⟩
  · have key : ∀ m, m ∈ names S.L → setα α n p m ≠ p := fun m hm e => by
      rw [st.nm m hm] at e
      obtain ⟨⟨m', o'⟩, h1, h2⟩ := List.mem_map.mp hm
      cases h2
      obtain ⟨w', hw⟩ := (R.live _ _ h1).2.2.is
      rw [e, h] at hw; cases hw
    intro a b ha hb e
    rw [names_append] at ha hb
    rcases List.mem_append.mp ha with ha' | ha' <;> rcases List.mem_append.mp hb with hb' | hb'
    · rw [st.nm a ha', st.nm b hb'] at e; exact R.inj a b ha' hb' e
    · have h2 : b = n := by simpa using hb'
      rw [h2, hself] at e
      exact absurd e (key a ha')
    · have h2 : a = n := by simpa using ha'
      rw [h2, hself] at e
      exact absurd e.symm (key b hb')
    · have h1 : a = n := by simpa using ha'
      have h2 : b = n := by simpa using hb'
      rw [h1, h2]
  · intro m o' hm
    rcases List.mem_append.mp hm with hm | hm
    · obtain ⟨h1, h2, h3⟩ := R.live m o' hm
      have e : setα α n p m = α m := st.nm m (mem_names hm)
      rw [e]
      exact ⟨h1, h2, h3.step st hsub (same_upd h) fun b w' z => .inl z⟩
    · have e : (m, o') = (n, u) := by simpa using hm
      cases e
      rw [hself]
      exact ⟨R.fresh h, hp0, new⟩
  · have hm : m ∈ names (S.L ++ [(n, u)]) := hm
    rw [names_append] at hm
    rcases List.mem_append.mp hm with hm | hm
    · rw [st.nm m hm]; exact R.fix m a e hm
    · have : m = n := by simpa using hm
      rw [this, B.hpa n h100] at e; cases e
/-- a live thing is changed -/
theorem Rel.write (R : Rel K mg B F α H σ S) {n : Nat} {o u : LO} {o' : HO} (hn : (n, o) ∈ S.L)
    (no : ∀ b y, H b = some (.own y) → b ≠ α n) (new : LAt K mg B F α (setL n u S.L) (upd H (α n) o') (α n) u)
    (oth : ∀ m w', (m, w') ∈ S.L → m ≠ n → LAt K mg B F α S.L H (α m) w' → LAt K mg B F α (setL n u S.L) (upd H (α n) o') (α m) w') :
    Rel K mg B F α (upd H (α n) o') σ ⟨S.ρ, setL n u S.L⟩ := by
  obtain ⟨f0, f1, f2⟩ := R.live n o hn
  obtain ⟨w0, hw0⟩ := f2.is
  have st : Stp F α S.L F α := Stp.refl
  have hsub : ∀ m, m ∈ names S.L → m ∈ names (setL n u S.L) := fun m hm => by rw [names_setL]; exact hm
  refine ⟨fun b w' e => ?_, R.bF, R.nF, fun b w' e f => ?_, by rw [names_setL]; exact R.nd, fun a b ha hb e => R.inj a b (by rw [names_setL] at ha; exact ha) (by rw [names_setL] at hb; exact hb) e, fun m w' hm => ?_, R.slots.step st hsub, fun m a e hm => R.fix m a e (by rw [names_setL] at hm; exact hm)⟩
  · rw [upd_ne (fun q => by rw [q, f0] at e; cases e)]; exact R.sub b w' e
  · have hb : b ≠ α n := fun q => by
      subst q
      rcases f1 with z | z
      · rw [z] at e; cases e
      · exact f z
    rw [upd_ne hb]; exact R.frame b w' e f
  · rcases mem_setL R.nd hm with ⟨h1, h2⟩ | ⟨h1, h2⟩
    · subst h1; subst h2
      exact ⟨f0, f1, new⟩
    · obtain ⟨g0, g1, g2⟩ := R.live m w' h2
      exact ⟨g0, g1, oth m w' h2 h1 g2⟩
theorem LAt.other {o : LO} {p : Addr} {w' : HO} (ne : a ≠ p) (no : ∀ b, H b = some (.own a) → b ≠ p) (hs : ∀ n, n ∈ names L → n ∈ names L') (h : LAt K mg B F α L H a o) : LAt K mg B F α L' (upd H p w') a o := by
  have st : Stp F α L F α := Stp.refl
  cases o with
  | fl ds => obtain ⟨vs, e, r⟩ := h; exact ⟨vs, by rw [upd_ne ne]; exact e, r⟩
  | cl cs => obtain ⟨vs, e, r⟩ := h; exact ⟨vs, by rw [upd_ne ne]; exact e, r.step st hs⟩
  | ins c fs => obtain ⟨C, dx, vs, m, e1, e2, e3, e4, r⟩ := h; exact ⟨C, dx, vs, m, by rw [upd_ne ne]; exact e1, by rw [upd_ne (no _ e2)]; exact e2, e3, e4, r.step st hs⟩
  | dT kvs => obtain ⟨vs, e, r⟩ := h; exact ⟨vs, by rw [upd_ne ne]; exact e, r⟩
  | dK kvs => obtain ⟨vs, e, r⟩ := h; exact ⟨vs, by rw [upd_ne ne]; exact e, r.step st hs⟩
theorem LAt.notown {o : LO} (h : LAt K mg B F α L H a o) : ∀ b y, H b = some (.own y) → b ≠ a := fun b y e q => by
  subst q
  cases o with
  | fl ds => obtain ⟨vs, e1, r⟩ := h; rw [e] at e1; cases e1
  | cl cs => obtain ⟨vs, e1, r⟩ := h; rw [e] at e1; cases e1
  | ins c fs => obtain ⟨C, dx, vs, m, e1, _⟩ := h; rw [e] at e1; cases e1
  | dT kvs => obtain ⟨vs, e1, r⟩ := h; rw [e] at e1; cases e1
  | dK kvs => obtain ⟨vs, e1, r⟩ := h; rw [e] at e1; cases e1
/-- .. in short -/
theorem Rel.put (R : Rel K mg B F α H σ S) {n : Nat} {o u : LO} {o' : HO} (hn : (n, o) ∈ S.L) (new : LAt K mg B F α (setL n u S.L) (upd H (α n) o') (α n) u) : Rel K mg B F α (upd H (α n) o') σ ⟨S.ρ, setL n u S.L⟩ := by
  have no := LAt.notown (R.live n o hn).2.2
  refine R.write hn no new fun m w' hm ne h => h.other (fun q => ne (R.inj _ _ (mem_names hm) (mem_names hn) q)) (fun b e => no b _ e) fun k hk => by rw [names_setL]; exact hk
end
end Nz
namespace Nz
open PySem PySem.Spec PyProof.Rows L2
def Sub (L L' : List (Nat × LO)) : Prop := ∀ n, n ∈ names L → n ∈ names L'
theorem Sub.refl {L : List (Nat × LO)} : Sub L L := fun _ h => h
theorem Sub.app {L M : List (Nat × LO)} : Sub L (L ++ M) := fun n h => by rw [names, List.map_append]; exact List.mem_append_left _ h
/-- the cell c looks like the list ds, the tuple ds -/
def AsL (L : List (Nat × LO)) (c : Ce) (ds : List D) : Prop :=
  match c with
  | .fr d => d = .lst ds
  | .ad n => getL n L = some (.fl ds)
  | .xv _ => False
section
variable {X : Cx} {B : Bd} {F : Hp} {α : Nat → Addr} {H : Hp} {σ : L2.St} {S : Nz.S}
theorem Rel.asL (R : RelX X B F α H σ S) {c : Ce} {ds : List D} {v : V} (h : AsL S.L c ds) (r : CR X F α S.L c v) : ∃ a vs, v = .ref a ∧ SqL X.K H a vs ∧ Reps X.K X.mg F ds vs := by
  cases c with
  | fr d =>
    have e : d = .lst ds := h
    subst e
    have r' : Rep X.K X.mg F (.lst ds) v := r
    cases r' with
    | lst h1 h2 => exact ⟨_, _, rfl, R.sub.seq h1, h2⟩
  | ad n =>
    obtain ⟨_, rfl⟩ := r
    obtain ⟨_, _, vs, e, q⟩ := R.live n _ (getL_mem h)
    exact ⟨_, vs, rfl, SqL.of e, q⟩
  | xv u => exact False.elim h
theorem Rel.asT (R : RelX X B F α H σ S) {ds : List D} {v : V} (r : Rep X.K X.mg F (.tup ds) v) : ∃ a vs, v = .ref a ∧ SqT X.K H a vs ∧ Reps X.K X.mg F ds vs := by
  cases r with
  | tup h1 h2 => exact ⟨_, _, rfl, R.sub.seqT h1, h2⟩
end
def Op2 (X : Cx) (f : Value → Value → Sem Value) (d1 d2 d : D) : Prop :=
  ∀ B F α H σ (S : Nz.S) (Q : VK) x y, RelX X B F α H σ S → Rep X.K X.mg F d1 x → Rep X.K X.mg F d2 y → (∀ F' α' v H', RelX X B F' α' H' σ S → Stp F α S.L F' α' → Rep X.K X.mg F' d v → Q v H') →
    ∀ pins s v u, Inv X pins σ H s → RelV x v → RelV y u → wpAny (model X.prog X.w) X.A (f v u) (EP X pins σ Q) X.xe s
theorem Op2.pure {X : Cx} {f : Value → Value → Sem Value} {d1 d2 d : D} {r : R2} {v : V} (h : OpR X f r) (hd : ∀ F, Rep X.K X.mg F d v)
    (hr : ∀ F H (Q : VK) x y, Same F H → Rep X.K X.mg F d1 x → Rep X.K X.mg F d2 y → Q v H → r x y H Q) : Op2 X f d1 d2 d :=
  fun B F α H σ S Q x y R rx ry k pins s v' u I rv ru => h pins s σ H x y v' u Q I rv ru (hr F H Q x y R.sub rx ry (k F α v H R Stp.refl (hd F)))
section
variable {X : Cx}
theorem op2I {f : Value → Value → Sem Value} {C : Int → Int → Prop} {g : Int → Int → V} {i j : Int} {d : D} (h : OpR X f (rI C g)) (hc : C i j) (hd : ∀ F, Rep X.K X.mg F d (g i j)) : Op2 X f (.int i) (.int j) d :=
  .pure h hd fun F H Q x y _ rx ry q => by cases rx; cases ry; exact ⟨_, _, rfl, rfl, hc, q⟩
theorem op2I0 {f : Value → Value → Sem Value} {g : Int → Int → V} {i j : Int} {d : D} (h : OpR X f (rI0 g)) (hd : ∀ F, Rep X.K X.mg F d (g i j)) : Op2 X f (.int i) (.int j) d :=
  .pure h hd fun F H Q x y _ rx ry q => by cases rx; cases ry; exact ⟨_, _, rfl, rfl, q⟩
theorem o_add {i j : Int} : Op2 X (binaryOp .Add) (.int i) (.int j) (.int (i + j)) := op2I0 op_add fun _ => .int _
theorem o_sub {i j : Int} : Op2 X (binaryOp .Sub) (.int i) (.int j) (.int (i - j)) := op2I0 op_sub fun _ => .int _
theorem o_mul {i j : Int} (h : CMul i j) : Op2 X (binaryOp .Mult) (.int i) (.int j) (.int (i * j)) := op2I op_mul h fun _ => .int _
theorem o_div {i j : Int} (h : 0 < j) (h' : j < 1073741824) : Op2 X (binaryOp .FloorDiv) (.int i) (.int j) (.int (i / j)) := op2I op_fdiv ⟨h, h'⟩ fun _ => .int _
theorem o_mod {i j : Int} (h : 0 < j) : Op2 X (binaryOp .Mod) (.int i) (.int j) (.int (i % j)) := op2I op_mod h fun _ => .int _
theorem o_pow {i j : Int} (h : CPow i j) : Op2 X (binaryOp .Pow) (.int i) (.int j) (.int (i ^ j.toNat)) := op2I op_pow h fun _ => .int _
theorem o_lt {i j : Int} : Op2 X (compareOp .Lt) (.int i) (.int j) (.bl (decide (i < j))) := op2I0 op_lt fun _ => .bl _
theorem o_ge {i j : Int} : Op2 X (compareOp .GtE) (.int i) (.int j) (.bl (decide (j ≤ i))) := op2I0 op_ge fun _ => .bl _
theorem o_eqi {i j : Int} : Op2 X (compareOp .Eq) (.int i) (.int j) (.bl (decide (i = j))) :=
  .pure (v := .bl (decide (V.int i = V.int j))) op_eq (fun _ => by rw [show decide (V.int i = V.int j) = decide (i = j) from by simp]; exact .bl _) fun F H Q x y _ rx ry q => by cases rx; cases ry; exact ⟨rfl, q⟩
theorem o_nei {i j : Int} : Op2 X (compareOp .NotEq) (.int i) (.int j) (.bl (!decide (i = j))) :=
  .pure (v := .bl (!decide (V.int i = V.int j))) op_ne (fun _ => by rw [show decide (V.int i = V.int j) = decide (i = j) from by simp]; exact .bl _) fun F H Q x y _ rx ry q => by cases rx; cases ry; exact ⟨rfl, q⟩
theorem o_neb {i j : Bool} : Op2 X (compareOp .NotEq) (.bl i) (.bl j) (.bl (!decide (i = j))) :=
  .pure (v := .bl (!decide (V.bl i = V.bl j))) op_ne (fun _ => by rw [show decide (V.bl i = V.bl j) = decide (i = j) from by simp]; exact .bl _) fun F H Q x y _ rx ry q => by cases rx; cases ry; exact ⟨rfl, q⟩
end
section
variable {X : Cx} {B : Bd} {S S1 S2 S3 : Nz.S} {a b c e : Expr} {es : List Expr} {pos p : Pos} {d d1 d2 d3 : D}
theorem ev_var (i : Nat) {x : Str} {c : Ce} (hN : X.N[i]? = some x) (hv : Vis X.env.scope x) (hρ : S.ρ[i]? = some (some c)) (hd : (x == ("__debug__" : Str)) = false := by decide) (hcd : (x == ("__classdict__" : Str)) = false := by decide) : Ev X B (.Name x pos) S c S :=
  fun F α H σ Q R k => wE.of (pe_var hN hv hd hcd) (by
    obtain ⟨v, e, r⟩ := R.slots.get hρ
    exact ⟨v, e, k F α v H R Stp.refl r⟩)
theorem ev_int {i : Int} {j pos} : Ev X B (.Constant (.int i) j pos) S (.fr (.int i)) S := fun F α H σ Q R k => wE.of pe_int (k F α _ H R Stp.refl (.int i))
theorem ev_bl {i : Bool} {j pos} : Ev X B (.Constant (.bool i) j pos) S (.fr (.bl i)) S := fun F α H σ Q R k => wE.of pe_bl (k F α _ H R Stp.refl (.bl i))
theorem ev_non {j pos} : Ev X B (.Constant .none j pos) S (.fr .non) S := fun F α H σ Q R k => wE.of pe_non (k F α _ H R Stp.refl .non)
theorem ev_bin {op : Operator} (ho : Op2 X (binaryOp op) d1 d2 d) (ha : Ev X B a S (.fr d1) S1) (hb : Ev X B b S1 (.fr d2) S2) (h1 : Sub S.L S1.L := by exact Sub.refl) (h2 : Sub S1.L S2.L := by exact Sub.refl) : Ev X B (.BinOp a op b pos) S (.fr d) S2 :=
  fun F α H σ Q R k pins s I => by
    refine wpAny_BinOp (thn (ha F α H σ _ R (fun F1 α1 v1 H1 R1 st1 r1 => hb F1 α1 H1 σ (fun v2 H2 => ∃ F2 α2, RelX X B F2 α2 H2 σ S2 ∧ Stp F α S.L F2 α2 ∧ Rep X.K X.mg F2 d1 v1 ∧ Rep X.K X.mg F2 d2 v2) R1 fun F2 α2 v2 H2 R2 st2 r2 =>
      ⟨F2, α2, R2, st1.trans st2 h1, Rep.mono st2.fro r1, r2⟩) pins s I) fun v s1 ⟨x, H1, I1, rv, q1⟩ => thn (q1 pins s1 I1) fun u s2 ⟨y, H2, I2, ru, F2, α2, R2, st, r1, r2⟩ => ?_)
    exact ho B F2 α2 H2 σ S2 Q x y R2 r1 r2 (fun F' α' v' H' R' st' r' => k F' α' v' H' R' (st.trans st' fun n h => h2 n (h1 n h)) r') pins s2 v u I2 rv ru
theorem ev_cmp {op : CmpOp} (ho : Op2 X (compareOp op) d1 d2 d) (ha : Ev X B a S (.fr d1) S1) (hb : Ev X B b S1 (.fr d2) S2) (hm : behindInMarks op b = false) (h1 : Sub S.L S1.L := by exact Sub.refl) (h2 : Sub S1.L S2.L := by exact Sub.refl) : Ev X B (.Compare a [op] [b] pos) S (.fr d) S2 :=
  fun F α H σ Q R k pins s I => by
    refine wpAny_Compare1 (thn (ha F α H σ _ R (fun F1 α1 v1 H1 R1 st1 r1 => hb F1 α1 H1 σ (fun v2 H2 => ∃ F2 α2, RelX X B F2 α2 H2 σ S2 ∧ Stp F α S.L F2 α2 ∧ Rep X.K X.mg F2 d1 v1 ∧ Rep X.K X.mg F2 d2 v2) R1 fun F2 α2 v2 H2 R2 st2 r2 =>
      ⟨F2, α2, R2, st1.trans st2 h1, Rep.mono st2.fro r1, r2⟩) pins s I) fun v s1 ⟨x, H1, I1, rv, q1⟩ => thn (q1 pins s1 I1) fun u s2 ⟨y, H2, I2, ru, F2, α2, R2, st, r1, r2⟩ => ?_) hm
    exact ho B F2 α2 H2 σ S2 Q x y R2 r1 r2 (fun F' α' v' H' R' st' r' => k F' α' v' H' R' (st.trans st' fun n h => h2 n (h1 n h)) r') pins s2 v u I2 rv ru
theorem ev_un {op : UnaryOp} {g : Int → V} {i : Int} (ho : UnR X (unaryOp op) (rU g)) (hd : ∀ F, Rep X.K X.mg F d (g i)) (ha : Ev X B a S (.fr (.int i)) S1) : Ev X B (.UnaryOp op a pos) S (.fr d) S1 :=
  fun F α H σ Q R k => wE.of (pe_un ho pe_w) (ha F α H σ _ R fun F1 α1 v1 H1 R1 st1 r1 => by cases r1; exact ⟨_, rfl, k F1 α1 _ H1 R1 st1 (hd F1)⟩)
theorem ev_neg {i : Int} (ha : Ev X B a S (.fr (.int i)) S1) : Ev X B (.UnaryOp .USub a pos) S (.fr (.int (-i))) S1 := ev_un un_neg (fun _ => .int _) ha
theorem ev_not {i : Bool} (ha : Ev X B a S (.fr (.bl i)) S1) : Ev X B (.UnaryOp .Not a pos) S (.fr (.bl (!i))) S1 :=
  fun F α H σ Q R k => wE.of (pe_not pe_w) (ha F α H σ _ R fun F1 α1 v1 H1 R1 st1 r1 => by cases r1; exact ⟨_, rfl, k F1 α1 _ H1 R1 st1 (.bl _)⟩)
theorem ev_one {op : BoolOp} {c : Ce} (ha : Ev X B a S c S1) : Ev X B (.BoolOp op [a] pos) S c S1 :=
  fun F α H σ Q R k => wE.of (pe_one pe_w) (ha F α H σ _ R k)
theorem ev_and {i j : Bool} (ha : Ev X B a S (.fr (.bl i)) S) (hb : i = true → Ev X B (.BoolOp .And (b :: es) pos) S (.fr (.bl j)) S) : Ev X B (.BoolOp .And (a :: b :: es) pos) S (.fr (.bl (i && j))) S :=
  fun F α H σ Q R k => wE.of (pe_and pe_w pe_w) (ha F α H σ _ R fun F1 α1 v1 H1 R1 st1 r1 => by
    cases r1
    refine ⟨i, rfl, ?_⟩
    cases i with
    | true => rw [if_pos rfl]; exact hb rfl F1 α1 H1 σ _ R1 fun F2 α2 v2 H2 R2 st2 r2 => k F2 α2 v2 H2 R2 (st1.trans st2 Sub.refl) (by simpa using r2)
    | false => rw [if_neg Bool.false_ne_true]; exact k F1 α1 _ H1 R1 st1 (.bl _))
theorem ev_or {i j : Bool} (ha : Ev X B a S (.fr (.bl i)) S) (hb : i = false → Ev X B (.BoolOp .Or (b :: es) pos) S (.fr (.bl j)) S) : Ev X B (.BoolOp .Or (a :: b :: es) pos) S (.fr (.bl (i || j))) S :=
  fun F α H σ Q R k => wE.of (pe_or pe_w pe_w) (ha F α H σ _ R fun F1 α1 v1 H1 R1 st1 r1 => by
    cases r1
    refine ⟨i, rfl, ?_⟩
    cases i with
    | false => rw [if_neg Bool.false_ne_true]; exact hb rfl F1 α1 H1 σ _ R1 fun F2 α2 v2 H2 R2 st2 r2 => k F2 α2 v2 H2 R2 (st1.trans st2 Sub.refl) (by simpa using r2)
    | true => rw [if_pos rfl]; exact k F1 α1 _ H1 R1 st1 (.bl _))
/-- tests -/
theorem et_val {i : Bool} (ha : Ev X B a S (.fr (.bl i)) S1) (he : ∀ whole, isTrue a X.env whole = (do let v ← whole; standAt a.pos; holding [v] (truthy v)) := by intro _; rfl) : Et X B a S i S1 :=
  fun F α H σ Q R k => wT.of (pt_val pe_w he) (ha F α H σ _ R fun F1 α1 v1 H1 R1 st1 r1 => by cases r1; exact ⟨i, rfl, k F1 α1 H1 R1 st1⟩)
theorem et_cmp {op : CmpOp} {i : Bool} (ho : Op2 X (compareOp op) d1 d2 (.bl i)) (ha : Ev X B a S (.fr d1) S1) (hb : Ev X B b S1 (.fr d2) S2) (hm : behindInMarks op b = false) (h1 : Sub S.L S1.L := by exact Sub.refl) (h2 : Sub S1.L S2.L := by exact Sub.refl) : Et X B (.Compare a [op] [b] pos) S i S2 :=
  fun F α H σ Q R k pins s I => by
    refine wpAny_isTrue_Compare1 (thn (ha F α H σ _ R (fun F1 α1 v1 H1 R1 st1 r1 => hb F1 α1 H1 σ (fun v2 H2 => ∃ F2 α2, RelX X B F2 α2 H2 σ S2 ∧ Stp F α S.L F2 α2 ∧ Rep X.K X.mg F2 d1 v1 ∧ Rep X.K X.mg F2 d2 v2) R1 fun F2 α2 v2 H2 R2 st2 r2 =>
      ⟨F2, α2, R2, st1.trans st2 h1, Rep.mono st2.fro r1, r2⟩) pins s I) fun v s1 ⟨x, H1, I1, rv, q1⟩ => thn (q1 pins s1 I1) fun u s2 ⟨y, H2, I2, ru, F2, α2, R2, st, r1, r2⟩ => ?_) hm
    refine thn (ho B F2 α2 H2 σ S2 (fun v' H' => ∃ k, v' = .bl k ∧ Q k H') x y R2 r1 r2 (fun F' α' v' H' R' st' r' => by cases r'; exact ⟨i, rfl, k F' α' H' R' (st.trans st' fun n h => h2 n (h1 n h))⟩) pins s2 v u I2 rv ru) fun c s3 ⟨z, H3, I3, r3, k', e, q3⟩ => ?_
    subst e
    cases r3
    exact wpAny_truthy_bool ⟨H3, I3, q3⟩
theorem et_not {i : Bool} (ha : Et X B a S i S1) : Et X B (.UnaryOp .Not a pos) S (!i) S1 := fun F α H σ Q R k => wT.of (pt_not pt_w) (ha F α H σ _ R k)
/-- a chain of tests, whatever its whole -/
def Ew (X : Cx) (B : Bd) (e : Expr) (S : Nz.S) (b : Bool) : Prop :=
  ∀ F α H σ (Q : Bool → Hp → Prop), RelX X B F α H σ S → (∀ F' α' H', RelX X B F' α' H' σ S → Stp F α S.L F' α' → Q b H') → ∀ whole pins s, Inv X pins σ H s → wpAny (model X.prog X.w) X.A (isTrue e X.env whole) (TP X pins σ Q) X.xe s
def tW (X : Cx) (e : Expr) : TT := fun σ H Q => ∀ whole pins s, Inv X pins σ H s → wpAny (model X.prog X.w) X.A (isTrue e X.env whole) (TP X pins σ Q) X.xe s
theorem pw_w {e : Expr} : PW X e (tW X e) := ⟨fun whole pins s σ H Q I h => h whole pins s I⟩
theorem Ew.of {e : Expr} {t : TT} {i : Bool} (h : PW X e t) (q : ∀ F α H σ (Q : Bool → Hp → Prop), RelX X B F α H σ S → (∀ F' α' H', RelX X B F' α' H' σ S → Stp F α S.L F' α' → Q i H') → t σ H Q) : Ew X B e S i :=
  fun F α H σ Q R k whole pins s I => h.run whole pins s σ H Q I (q F α H σ Q R k)
theorem Ew.et {e : Expr} {i : Bool} (h : Ew X B e S i) : Et X B e S i S := fun F α H σ Q R k pins s I => h F α H σ Q R k _ pins s I
theorem ew_and1 {i : Bool} (ha : Et X B a S i S) : Ew X B (.BoolOp .And [a] pos) S i := .of (pw_and1 pt_w) fun F α H σ Q R k => ha F α H σ _ R k
theorem ew_or1 {i : Bool} (ha : Et X B a S i S) : Ew X B (.BoolOp .Or [a] pos) S i := .of (pw_or1 pt_w) fun F α H σ Q R k => ha F α H σ _ R k
theorem ew_and {i j : Bool} (ha : Et X B a S i S) (hb : i = true → Ew X B (.BoolOp .And (b :: es) pos) S j) : Ew X B (.BoolOp .And (a :: b :: es) pos) S (i && j) :=
  .of (pw_and pt_w pw_w) fun F α H σ Q R k => ha F α H σ _ R fun F1 α1 H1 R1 st1 => by
    cases i with
    | true => rw [if_pos rfl]; exact hb rfl F1 α1 H1 σ _ R1 fun F2 α2 H2 R2 st2 => by simpa using k F2 α2 H2 R2 (st1.trans st2 Sub.refl)
    | false => rw [if_neg Bool.false_ne_true]; simpa using k F1 α1 H1 R1 st1
theorem ew_or {i j : Bool} (ha : Et X B a S i S) (hb : i = false → Ew X B (.BoolOp .Or (b :: es) pos) S j) : Ew X B (.BoolOp .Or (a :: b :: es) pos) S (i || j) :=
  .of (pw_or pt_w pw_w) fun F α H σ Q R k => ha F α H σ _ R fun F1 α1 H1 R1 st1 => by
    cases i with
    | false => rw [if_neg Bool.false_ne_true]; exact hb rfl F1 α1 H1 σ _ R1 fun F2 α2 H2 R2 st2 => by simpa using k F2 α2 H2 R2 (st1.trans st2 Sub.refl)
    | true => rw [if_pos rfl]; simpa using k F1 α1 H1 R1 st1
theorem ea_nil : Ea X B [] S [] S := fun F α H σ Q R k => wA.of pa_nil (k F α _ H R Stp.refl .nil)
theorem ea_cons {c : Ce} {cs : List Ce} (ha : Ev X B a S c S1) (hr : Ea X B es S1 cs S2) (h1 : Sub S.L S1.L := by exact Sub.refl) (h2 : Sub S1.L S2.L := by exact Sub.refl) (hs : starEach (a :: es) X.env = (false, eval a X.env) :: starEach es X.env := by rfl) : Ea X B (a :: es) S (c :: cs) S2 :=
  fun F α H σ Q R k => wA.of (pa_cons pe_w pa_w hs) (ha F α H σ _ R fun F1 α1 v1 H1 R1 st1 r1 => hr F1 α1 H1 σ _ R1 fun F2 α2 vs H2 R2 st2 r2 => k F2 α2 _ H2 R2 (st1.trans st2 h1) (.cons (r1.step st2 h2) r2))
theorem ev_lst {ds : List D} (h : Ea X B es S (ds.map Ce.fr) S1) (hz : ds.length ≤ sizeLine) : Ev X B (.List es pos) S (.fr (.lst ds)) S1 :=
  fun F α H σ Q R k => wE.of (pe_lst pa_w) (h F α H σ _ R fun F1 α1 vs H1 R1 st1 r1 => by
    have r := r1.fr
    refine ⟨by rw [← r.length]; exact hz, fun p hp => ?_⟩
    have hf := R1.fresh hp
    exact k _ α1 _ _ (R1.allocF hp) ⟨st1.fro.trans (same_upd hf), st1.nm⟩ (Rep.lst (SqL.of upd_same) (r.mono (same_upd hf))))
theorem ev_tup {ds : List D} {k1} (h : Ea X B es S (ds.map Ce.fr) S1) (hz : ds.length ≤ sizeLine) : Ev X B (.Tuple es k1 pos) S (.fr (.tup ds)) S1 :=
  fun F α H σ Q R k => wE.of (pe_tup pa_w) (h F α H σ _ R fun F1 α1 vs H1 R1 st1 r1 => by
    have r := r1.fr
    refine ⟨by rw [← r.length]; exact hz, fun p hp => ?_⟩
    have hf := R1.fresh hp
    exact k _ α1 _ _ (R1.allocF hp) ⟨st1.fro.trans (same_upd hf), st1.nm⟩ (Rep.tup (SqT.of upd_same) (r.mono (same_upd hf))))
theorem ev_lstL (n : Nat) {ds : List D} (h : Ea X B es S (ds.map Ce.fr) S1) (hz : ds.length ≤ sizeLine) (hn : n ∉ names S1.L) (h100 : 100 ≤ n) (h1 : Sub S.L S1.L := by exact Sub.refl) : Ev X B (.List es pos) S (.ad n) ⟨S1.ρ, S1.L ++ [(n, .fl ds)]⟩ :=
  fun F α H σ Q R k => wE.of (pe_lst pa_w) (h F α H σ _ R fun F1 α1 vs H1 R1 st1 r1 => by
    have r := r1.fr
    refine ⟨by rw [← r.length]; exact hz, fun p hp => ?_⟩
    refine k F1 (setα α1 n p) _ _ (R1.allocL hp hn h100 ⟨vs, upd_same, r⟩) (st1.trans (stp_setα hn) h1) ⟨?_, ?_⟩
    · rw [names_append]; exact List.mem_append_right _ (List.mem_singleton.mpr rfl)
    · show V.ref p = V.ref (if n = n then p else α1 n)
      rw [if_pos rfl])
theorem ev_ixL {ca : Ce} {i : Int} {ds : List D} (ha : Ev X B a S ca S1) (hb : Ev X B b S1 (.fr (.int i)) S2) (hl : AsL S2.L ca ds) (hi : atI ds i = some d) (hs : PlainIx b := by exact fun _ _ => rfl) (h1 : Sub S.L S1.L := by exact Sub.refl) (h2 : Sub S1.L S2.L := by exact Sub.refl) :
    Ev X B (.Subscript a b pos) S (.fr d) S2 :=
  fun F α H σ Q R k => wE.of (pe_ix ix_list pe_w pe_w hs) (ha F α H σ _ R fun F1 α1 v1 H1 R1 st1 r1 => hb F1 α1 H1 σ _ R1 fun F2 α2 v2 H2 R2 st2 r2 => by
    obtain ⟨p, vs, rfl, hq, rs⟩ := R2.asL hl (r1.step st2 h2)
    cases r2
    obtain ⟨v, hv, rv⟩ : ∃ v, atI vs i = some v ∧ Rep X.K X.mg F2 d v := by
      unfold atI at hi ⊢
      rw [← rs.length]
      cases q : ixN ds.length i with
      | none => rw [q] at hi; cases hi
      | some j => rw [q] at hi; exact rs.get hi
    exact ⟨p, vs, i, v, rfl, rfl, hq, hv, k F2 α2 v H2 R2 (st1.trans st2 h1) rv⟩)
theorem ev_ixT {i : Int} {ds : List D} (ha : Ev X B a S (.fr (.tup ds)) S1) (hb : Ev X B b S1 (.fr (.int i)) S2) (hi : atI ds i = some d) (hs : PlainIx b := by exact fun _ _ => rfl) (h1 : Sub S.L S1.L := by exact Sub.refl) (h2 : Sub S1.L S2.L := by exact Sub.refl) :
    Ev X B (.Subscript a b pos) S (.fr d) S2 :=
  fun F α H σ Q R k => wE.of (pe_ix ix_tup pe_w pe_w hs) (ha F α H σ _ R fun F1 α1 v1 H1 R1 st1 r1 => hb F1 α1 H1 σ _ R1 fun F2 α2 v2 H2 R2 st2 r2 => by
    obtain ⟨p, vs, rfl, hq, rs⟩ := R2.asT (Rep.mono st2.fro r1)
    cases r2
    obtain ⟨v, hv, rv⟩ : ∃ v, atI vs i = some v ∧ Rep X.K X.mg F2 d v := by
      unfold atI at hi ⊢
      rw [← rs.length]
      cases q : ixN ds.length i with
      | none => rw [q] at hi; cases hi
      | some j => rw [q] at hi; exact rs.get hi
    exact ⟨p, vs, i, v, rfl, rfl, hq, hv, k F2 α2 v H2 R2 (st1.trans st2 h1) rv⟩)
end
end Nz
namespace Nz
open PySem PySem.Spec PyProof.Rows L2
def wI (X : Cx) (tg iter : Expr) (σ : L2.St) (H : Hp) (R : It → Hp → Prop) : Prop :=
  ∀ pins s, Inv X pins σ H s → wpAny (model X.prog X.w) X.A (eval iter X.env) (fun v s1 => wpAny (model X.prog X.w) X.A (pyIter v) (PIE X pins σ tg R) X.xe s1) X.xe s
theorem pi_w {X : Cx} {tg iter : Expr} : PI X tg iter (wI X tg iter) := ⟨fun pins s σ H R I h => h pins s I⟩
theorem wI.of {X : Cx} {tg iter : Expr} {t : TI} {σ : L2.St} {H : Hp} {R : It → Hp → Prop} (h : PI X tg iter t) (q : t σ H R) : wI X tg iter σ H R := fun pins s I => h.run pins s σ H R I q
structure JOk (K : Frag) (mg : Mg) (F : Hp) (J : It) (xs : List D) : Prop where
  go : ∀ (B : Bd) F' α H σ (S : Nz.S) (i : Nat) (d : D), Rel K mg B F' α H σ S → Same F F' → xs[i]? = some d → J.go i H ∧ ∀ x H', J.yld i H x H' → ∃ F2, Rel K mg B F2 α H' σ S ∧ Same F' F2 ∧ Rep K mg F2 d x
  stop : ∀ (B : Bd) F' α H σ (S : Nz.S) (i : Nat), Rel K mg B F' α H σ S → Same F F' → xs.length ≤ i → J.stop i H
def Src (X : Cx) (B : Bd) (tg iter : Expr) (S : Nz.S) (xs : List D) (S1 : Nz.S) : Prop :=
  ∀ F α H σ R, RelX X B F α H σ S → (∀ F' α' H' J, RelX X B F' α' H' σ S1 → Stp F α S.L F' α' → JOk X.K X.mg F' J xs → R J H') → wI X tg iter σ H R
section
variable {X : Cx} {B : Bd} {S S1 S2 S3 : Nz.S} {tg a b c e : Expr} {es : List Expr} {pos p : Pos} {d d1 d2 d3 : D} {xs : List D}
theorem src_list (h : Ev X B e S (.fr (.lst xs)) S1) : Src X B tg e S xs S1 := fun F α H σ R RR k => wI.of (pi_list pe_w) (h F α H σ _ RR fun F1 α1 v1 H1 R1 st1 r1 => by
  cases r1 with
  | lst h1 h2 =>
    rename_i a vs
    refine ⟨a, rfl, ⟨vs, R1.sub.seq h1⟩, k F1 α1 H1 _ R1 st1 ⟨fun B F' α H σ S i d R' hs hi => ?_, fun B F' α H σ S i R' hs hi => ⟨vs, R'.sub.seq (hs.seq h1), by rw [← h2.length]; exact hi⟩⟩⟩
    obtain ⟨v, hv, rv⟩ := h2.get hi
    refine ⟨⟨vs, v, R'.sub.seq (hs.seq h1), hv⟩, fun x H' y => ?_⟩
    obtain ⟨rfl, y⟩ := y
    have := y vs (R'.sub.seq (hs.seq h1))
    rw [hv] at this; cases this
    exact ⟨F', R', Same.refl _, rv.mono hs⟩)
/-- lo, lo + 1, .. -/
def rngD (lo : Int) (n : Nat) : List D := (List.range n).map fun (i : Nat) => D.int (lo + (i : Int))
theorem rngD_get {lo : Int} {n i : Nat} {d : D} (h : (rngD lo n)[i]? = some d) : i < n ∧ d = .int (lo + i) := by
  unfold rngD at h
  rw [List.getElem?_map] at h
  by_cases hi : i < n
  · rw [List.getElem?_range hi] at h
    exact ⟨hi, (Option.some.inj h).symm⟩
  · rw [List.getElem?_eq_none (by simpa using hi)] at h
    cases h
theorem rngD_len {lo : Int} {n : Nat} : (rngD lo n).length = n := by simp [rngD]
theorem jok_range {K : Frag} {mg : Mg} {F : Hp} {lo : Int} {n : Nat} : JOk K mg F (Itr lo n) (rngD lo n) :=
  ⟨fun B F' α H σ S i d R' hs hi => by
    obtain ⟨h1, rfl⟩ := rngD_get hi
    refine ⟨h1, fun x H' y => ?_⟩
    obtain ⟨rfl, rfl⟩ := y
    exact ⟨F', R', Same.refl _, .int _⟩, fun B F' α H σ S i R' hs hi => by rw [rngD_len] at hi; exact hi⟩
theorem src_range1 {j : Int} (h : Ea X B [a] S [.fr (.int j)] S1) (hg : Gl X "range") (hm : X.mg "range" = none) (h1 : -(2 ^ 62) ≤ j) (h2 : j < 2 ^ 62) (hs : starEach [a] X.env = [(false, eval a X.env)] := by rfl) : Src X B tg (.Call (.Name "range" p) [a] [] pos) S (rngD 0 j.toNat) S1 :=
  fun F α H σ R RR k => wI.of (pi_range1 hg hm pa_w hs) (h F α H σ _ RR fun F1 α1 vs H1 R1 st1 r1 => by
    cases r1 with
    | cons r1 r2 =>
      cases r2
      cases r1
      exact ⟨j, rfl, h1, h2, k F1 α1 H1 _ R1 st1 jok_range⟩)
theorem src_range2 {i j : Int} (h : Ea X B [a, b] S [.fr (.int i), .fr (.int j)] S1) (hg : Gl X "range") (hm : X.mg "range" = none) (h1 : -(2 ^ 62) ≤ i) (h2 : i < 2 ^ 62) (h3 : -(2 ^ 62) ≤ j) (h4 : j < 2 ^ 62) (hs : starEach [a, b] X.env = [(false, eval a X.env), (false, eval b X.env)] := by rfl) (hs2 : starEach [b] X.env = [(false, eval b X.env)] := by rfl) :
    Src X B tg (.Call (.Name "range" p) [a, b] [] pos) S (rngD i (j - i).toNat) S1 :=
  fun F α H σ R RR k => wI.of (pi_range2 hg hm pa_w hs hs2) (h F α H σ _ RR fun F1 α1 vs H1 R1 st1 r1 => by
    cases r1 with
    | cons r1 r2 =>
      cases r2 with
      | cons r2 r3 =>
        cases r3
        cases r1
        cases r2
        exact ⟨i, j, rfl, ⟨h1, h2, h3, h4⟩, k F1 α1 H1 _ R1 st1 jok_range⟩)
def wG (X : Cx) (tg : Expr) (v : V) (σ : L2.St) (H : Hp) (Q : L2.St → Hp → Prop) : Prop :=
  ∀ pins s u, Inv X pins σ H s → RelV v u → wpAny (model X.prog X.w) X.A (assign tg X.env u) (fun _ s' => ∃ σ' H', Inv X pins σ' H' s' ∧ Q σ' H') X.xe s
theorem pg_w {tg : Expr} : PG X tg (fun v σ H Q => wG X tg v σ H Q) := ⟨fun pins s σ H v u Q I r h => h pins s u I r⟩
def Eg (X : Cx) (B : Bd) (tg : Expr) (c : Ce) (S S2 : Nz.S) : Prop :=
  ∀ F α H σ v Q, RelX X B F α H σ S → CR X F α S.L c v → (∀ σ' F' H', RelX X B F' α H' σ' S2 → Same F F' → Q σ' H') → wG X tg v σ H Q
def setS (S : Nz.S) (i : Nat) (c : Ce) : Nz.S := ⟨S.ρ.set i (some c), S.L⟩
theorem Rel.setS {K : Frag} {mg : Mg} {F : Hp} {α : Nat → Addr} {H : Hp} {σ : L2.St} (R : Rel K mg B F α H σ S) {i : Nat} {c : Ce} {v : V} (r : CRel K mg F α S.L c v) : Rel K mg B F α H (σ.set i (some v)) (setS S i c) :=
  ⟨R.sub, R.bF, R.nF, R.frame, R.nd, R.inj, R.live, R.slots.set i r, R.fix⟩
theorem eg_name (i : Nat) {x : Str} {c : Ce} (hN : X.N.Nodup) (hi : X.N[i]? = some x) (hx : Loc X.env.scope x) (hf : X.fn x = true ∨ X.env.scope.names.lookup x = some .local := by first | exact .inl rfl | exact .inr rfl | assumption) : Eg X B (.Name x pos) c S (setS S i c) :=
  fun F α H σ v Q R r k pins s u I ru => (pg_name hN hi hx hf).run pins s σ H v u Q I ru (k _ F H (R.setS r) (Same.refl _))
/-- several -/
def Egs (X : Cx) (B : Bd) (ts : List Expr) (cs : List D) (S S2 : Nz.S) : Prop :=
  ∀ F α H σ vs (Q : L2.St → Hp → Prop), RelX X B F α H σ S → Reps X.K X.mg F cs vs → (∀ σ' F' H', RelX X B F' α H' σ' S2 → Same F F' → Q σ' H') →
    ∀ pins s us, Inv X pins σ H s → Vals vs us → wpAny (model X.prog X.w) X.A (assignInOrder ((assignEach ts X.env).map (·.2)) us) (fun _ s' => ∃ σ' H', Inv X pins σ' H' s' ∧ Q σ' H') X.xe s
theorem egs_nil : Egs X B [] [] S S := fun F α H σ vs Q R r k pins s us I ru => by
  cases r
  cases ru
  exact assignInOrder_nil ⟨σ, H, I, k σ F H R (Same.refl _)⟩
theorem egs_cons {ds : List D} (h1 : Eg X B e (.fr d) S S1) (h2 : Egs X B es ds S1 S2) (hL : S1.L = S.L := by rfl) (hs : (assignEach (e :: es) X.env).map (·.2) = assign e X.env :: (assignEach es X.env).map (·.2) := by rfl) : Egs X B (e :: es) (d :: ds) S S2 :=
  fun F α H σ vs Q R r k pins s us I ru => by
    cases r with
    | cons r rr =>
      cases ru with
      | cons u uu =>
        rw [hs]
        refine assignInOrder_cons (thn (h1 F α H σ _ (fun σ1 H1 => ∃ F1, RelX X B F1 α H1 σ1 S1 ∧ Same F F1) R r (fun σ' F' H' R' s' => ⟨F', R', s'⟩) pins s _ I u) fun _ s1 ⟨σ1, H1, I1, F1, R1, sm⟩ => ?_)
        exact h2 F1 α H1 σ1 _ Q R1 (rr.mono sm) (fun σ' F' H' R' s' => k σ' F' H' R' (sm.trans s')) pins s1 _ I1 uu
theorem eg_tup {ds : List D} {k1} (hc : X.calm = true) (h : Egs X B es ds S S2) (hn : (assignEach es X.env).length = ds.length := by rfl) (hst : (assignEach es X.env).findIdx? (·.1) = none := by rfl) : Eg X B (.Tuple es k1 pos) (.fr (.tup ds)) S S2 :=
  fun F α H σ v Q R r k pins s u I ru => by
    cases (show Rep X.K X.mg F (.tup ds) v from r) with
    | tup hq hr =>
      have hq' := R.sub.seqT hq
      cases ru
      obtain ⟨its, rv, ht, hz⟩ := I.tuple hq'
      refine assign_Tuple_tuple (I.ok.hd hc) ht (by simp [hn, hr.length, rv.length]) hst fun h' hx => ?_
      have I1 : Inv X pins σ H { s with heap := h' } := I.kept (t' := s.toks) fun b o e => hx b o (Nat.ne_of_lt (Heap.lt_size e)) e
      exact h F α H σ _ Q R hr k pins _ _ I1 (by simpa using rv)
variable {K : Out → Prop} {st : Stmt} {sts body els : List Stmt}
def seqK (X : Cx) (B : Bd) (rest : List Stmt) (K : Out → Prop) : Out → Prop
  | .nx S => Exs X B rest S K
  | .ret c S => K (.ret c S)
  | .bk S => K (.bk S)
  | .ct S => K (.ct S)
theorem exs_nil (h : K (.nx S)) : Exs X B [] S K := fun F α H σ D R o => wSs.of pss_nil (o.nx S F α H σ h R (Same.refl _))
theorem exs_cons (h : Ex X B st S (seqK X B sts K)) : Exs X B (st :: sts) S K := fun F α H σ D R o => wSs.of (pss_cons ps_w pss_w) (h F α H σ _ R
  ⟨fun S' F' α' H' σ' k R' s' => k F' α' H' σ' D R' (o.mono s'), fun S' F' α' H' σ' k R' s' => o.bk S' F' α' H' σ' k R' s', fun S' F' α' H' σ' k R' s' => o.ct S' F' α' H' σ' k R' s',
    fun c S' F' α' H' σ' v k R' s' r => o.ret c S' F' α' H' σ' v k R' s' r⟩)
theorem exs_one (h : Ex X B st S K) : Exs X B [st] S K := fun F α H σ D R o => wSs.of (pss_one ps_w) (h F α H σ _ R o)
theorem ex_asg {cv : Ce} (he : Ev X B e S cv S1) (hg : Eg X B tg cv S1 S2) (k : K (.nx S2)) (hs : swapsWithSole [tg] e pos.line X.env = pure false := by rfl) (hw : swappedStores [tg] e X.env = pure none := by rfl)
    (h1 : (assignEach [tg] X.env).map (·.2) = [assign tg X.env] := by rfl) : Ex X B (.Assign [tg] e pos) S K := fun F α H σ D R o => wS.of (ps_asg pe_w pg_w hs hw h1) (he F α H σ _ R fun F1 α1 v1 H1 R1 st1 r1 =>
      hg F1 α1 H1 σ v1 _ R1 r1 fun σ' F' H' R' s' => o.nx S2 F' α1 H' σ' k R' (st1.fro.trans s'))
theorem ex_set (i : Nat) {x : Str} {c : Ce} {pos' : Pos} (he : Ev X B e S c S1) (k : K (.nx (setS S1 i c))) (hN : X.N.Nodup) (hi : X.N[i]? = some x) (hx : Loc X.env.scope x) (hs : swapsWith e (some (.Name x pos')) pos.line X.env = pure false := by rfl)
    (hf : X.fn x = true ∨ X.env.scope.names.lookup x = some .local := by first | exact .inl rfl | exact .inr rfl | assumption) : Ex X B (.Assign [.Name x pos'] e pos) S K :=
  fun F α H σ D R o => wS.of (ps_set hN hi hx pe_w hs hf) (he F α H σ _ R fun F1 α1 v1 H1 R1 st1 r1 => o.nx _ F1 α1 H1 _ k (R1.setS r1) st1.fro)
theorem ex_ret {c : Ce} (he : Ev X B e S c S1) (k : K (.ret c S1)) : Ex X B (.Return (some e) pos) S K := fun F α H σ D R o => wS.of (ps_ret pe_w) (he F α H σ _ R fun F1 α1 v1 H1 R1 st1 r1 => o.ret c S1 F1 α1 H1 σ v1 k R1 st1.fro r1)
theorem ex_expr {c : Ce} (he : Ev X B e S c S1) (k : K (.nx S1)) (hs : swapsWith e none pos.line X.env = pure false := by rfl) : Ex X B (.Expr e pos) S K := fun F α H σ D R o => wS.of (ps_expr pe_w hs) (he F α H σ _ R fun F1 α1 v1 H1 R1 st1 r1 => o.nx S1 F1 α1 H1 σ k R1 st1.fro)
theorem ex_if {i : Bool} (ht : Et X B e S i S1) (ha : i = true → Exs X B body S1 K) (hb : i = false → Exs X B els S1 K) : Ex X B (.If e body els pos) S K := fun F α H σ D R o => wS.of (ps_if pt_w pss_w pss_w) (ht F α H σ _ R fun F1 α1 H1 R1 st1 => by
  cases i with
  | true => rw [if_pos rfl]; exact ha rfl F1 α1 H1 σ D R1 (o.mono st1.fro)
  | false => rw [if_neg Bool.false_ne_true]; exact hb rfl F1 α1 H1 σ D R1 (o.mono st1.fro))
theorem Exs.mono {K' : Out → Prop} (h : Exs X B sts S K) (hk : ∀ o, K o → K' o) : Exs X B sts S K' := fun F α H σ D R o => h F α H σ D R
  ⟨fun S' F' α' H' σ' k => o.nx S' F' α' H' σ' (hk _ k), fun S' F' α' H' σ' k => o.bk S' F' α' H' σ' (hk _ k), fun S' F' α' H' σ' k => o.ct S' F' α' H' σ' (hk _ k), fun c S' F' α' H' σ' v k => o.ret c S' F' α' H' σ' v (hk _ k)⟩
theorem Ex.mono {K' : Out → Prop} (h : Ex X B st S K) (hk : ∀ o, K o → K' o) : Ex X B st S K' := fun F α H σ D R o => h F α H σ D R
  ⟨fun S' F' α' H' σ' k => o.nx S' F' α' H' σ' (hk _ k), fun S' F' α' H' σ' k => o.bk S' F' α' H' σ' (hk _ k), fun S' F' α' H' σ' k => o.ct S' F' α' H' σ' (hk _ k), fun c S' F' α' H' σ' v k => o.ret c S' F' α' H' σ' v (hk _ k)⟩
end
end Nz
namespace Nz
open PySem PySem.Spec PyProof.Rows L2
def delL (n : Nat) : List (Nat × LO) → List (Nat × LO)
  | [] => []
  | (m, o) :: r => if n = m then delL n r else (m, o) :: delL n r
def frC (n : Nat) (d : D) : Ce → Ce
  | .fr e => .fr e
  | .ad m => if n = m then .fr d else .ad m
  | .xv u => .xv u
def frO (n : Nat) (d : D) : LO → LO
  | .fl ds => .fl ds
  | .cl cs => .cl (cs.map (frC n d))
  | .ins c fs => .ins c (fs.map fun p => (p.1, frC n d p.2))
  | .dT kvs => .dT kvs
  | .dK kvs => .dK (kvs.map fun p => (p.1, frC n d p.2))
def frS (n : Nat) (d : D) (S : Nz.S) : Nz.S := ⟨S.ρ.map (Option.map (frC n d)), (delL n S.L).map fun p => (p.1, frO n d p.2)⟩
section
variable {K : Frag} {mg : Mg} {B : Bd} {F F' : Hp} {α α' : Nat → Addr} {L L' : List (Nat × LO)} {H H' : Hp} {σ : L2.St} {S : Nz.S}
theorem mem_delL : ∀ {L : List (Nat × LO)} {n m : Nat} {o : LO}, (m, o) ∈ delL n L ↔ m ≠ n ∧ (m, o) ∈ L
  | [], n, m, o => by simp [delL]
  | (k, u) :: r, n, m, o => by
    unfold delL
    by_cases q : n = k
    · subst q
      rw [if_pos rfl, mem_delL, List.mem_cons]
      constructor
      · rintro ⟨h1, h2⟩; exact ⟨h1, .inr h2⟩
      · rintro ⟨h1, h2 | h2⟩
        · cases h2; exact absurd rfl h1
        · exact ⟨h1, h2⟩
    · rw [if_neg q, List.mem_cons, mem_delL, List.mem_cons]
      constructor
      · rintro (h | ⟨h1, h2⟩)
        · cases h; exact ⟨fun z => q z.symm, .inl rfl⟩
        · exact ⟨h1, .inr h2⟩
      · rintro ⟨h1, h2 | h2⟩
        · exact .inl h2
        · exact .inr ⟨h1, h2⟩
theorem names_delL {n m : Nat} : m ∈ names (delL n L) ↔ m ≠ n ∧ m ∈ names L := by
  constructor
  · intro h
    obtain ⟨⟨a, o⟩, h1, h2⟩ := List.mem_map.mp h
    have h2 : a = m := h2
    subst h2
    obtain ⟨h3, h4⟩ := mem_delL.mp h1
    exact ⟨h3, mem_names h4⟩
  · rintro ⟨h1, h2⟩
    obtain ⟨⟨a, o⟩, h3, h4⟩ := List.mem_map.mp h2
    have h4 : a = m := h4
    subst h4
    exact mem_names (mem_delL.mpr ⟨h1, h3⟩)
theorem names_frS {n : Nat} {d : D} : names ((delL n L).map fun p => (p.1, frO n d p.2)) = names (delL n L) := by simp [names]
theorem nodup_delL {n : Nat} (h : (names L).Nodup) : (names (delL n L)).Nodup := by
  refine h.sublist (List.Sublist.map _ ?_)
  induction L with
  | nil => exact .slnil
  | cons p r ih =>
    obtain ⟨m, o⟩ := p
    have ih' := ih (List.nodup_cons.mp h).2
    unfold delL
    split
    · exact .cons _ ih'
    · exact .cons₂ _ ih'
theorem CRel.freeze {n : Nat} {d : D} (hF : Same F F') (hd : Rep K mg F' d (.ref (α n))) : ∀ {c : Ce} {v : V}, CRel K mg F α L c v → CRel K mg F' α ((delL n L).map fun p => (p.1, frO n d p.2)) (frC n d c) v
  | .fr e, v, h => Rep.mono hF h
  | .ad m, v, ⟨h1, h2⟩ => by
    subst h2
    show CRel K mg F' α _ (if n = m then .fr d else .ad m) _
    by_cases q : n = m
    · subst q; rw [if_pos rfl]; exact hd
    · rw [if_neg q]
      exact ⟨by rw [names_frS]; exact names_delL.mpr ⟨fun z => q z.symm, h1⟩, rfl⟩
  | .xv _, _, h => h
theorem CRels.freeze {n : Nat} {d : D} (hF : Same F F') (hd : Rep K mg F' d (.ref (α n))) : ∀ {c : List Ce} {v : List V}, CRels K mg F α L c v → CRels K mg F' α ((delL n L).map fun p => (p.1, frO n d p.2)) (c.map (frC n d)) v
  | _, _, .nil => .nil
  | _, _, .cons h r => .cons (h.freeze hF hd) (r.freeze hF hd)
theorem CRelF.freeze {n : Nat} {d : D} (hF : Same F F') (hd : Rep K mg F' d (.ref (α n))) : ∀ {c : List (Str × Ce)} {v : List (Str × V)}, CRelF K mg F α L c v → CRelF K mg F' α ((delL n L).map fun p => (p.1, frO n d p.2)) (c.map fun p => (p.1, frC n d p.2)) v
  | _, _, .nil => .nil
  | _, _, .cons h r => .cons (h.freeze hF hd) (r.freeze hF hd)
theorem CRelK.freeze {κ : Type} {n : Nat} {d : D} (hF : Same F F') (hd : Rep K mg F' d (.ref (α n))) : ∀ {c : List (κ × Ce)} {v : List (κ × V)}, CRelK K mg F α L c v → CRelK K mg F' α ((delL n L).map fun p => (p.1, frO n d p.2)) (c.map fun p => (p.1, frC n d p.2)) v
  | _, _, .nil => .nil
  | _, _, .cons h r => .cons (h.freeze hF hd) (r.freeze hF hd)
theorem SlR.freeze {n : Nat} {d : D} (hF : Same F F') (hd : Rep K mg F' d (.ref (α n))) : ∀ {c : List (Option Ce)} {v : L2.St}, SlR K mg F α L c v → SlR K mg F' α ((delL n L).map fun p => (p.1, frO n d p.2)) (c.map (Option.map (frC n d))) v
  | _, _, .nil => .nil
  | _, _, .no r => .no (r.freeze hF hd)
  | _, _, .so h r => .so (h.freeze hF hd) (r.freeze hF hd)
/-- a live list whose items are frozen is frozen -/
theorem Rel.freeze (R : Rel K mg B F α H σ S) {n : Nat} {ds : List D} (hn : getL n S.L = some (.fl ds)) :
    ∃ F', Rel K mg B F' α H σ (frS n (.lst ds) S) ∧ Stp F α S.L F' α ∧ Rep K mg F' (.lst ds) (.ref (α n)) ∧ ∀ c v, CRel K mg F α S.L c v → CRel K mg F' α (frS n (.lst ds) S).L (frC n (.lst ds) c) v := by
  obtain ⟨f0, f1, vs, e, r⟩ := R.live n _ (getL_mem hn)
  have hF : Same F (upd F (α n) (.lst vs)) := same_upd f0
  have hd : Rep K mg (upd F (α n) (.lst vs)) (.lst ds) (.ref (α n)) := .lst (SqL.of upd_same) (r.mono hF)
  refine ⟨upd F (α n) (.lst vs), ⟨fun b u q => ?_, R.bF.trans hF, fun b u q => ?_, R.frame, ?_, fun a b ha hb => ?_, fun m o hm => ?_, R.slots.freeze hF hd, fun m a e hm => R.fix m a e (names_delL.mp (by rw [← names_frS]; exact hm)).2⟩, ⟨hF, fun _ _ => rfl⟩, hd, fun c v h => h.freeze hF hd⟩
  · by_cases z : b = α n
    · subst z; rw [upd_same] at q; rw [e]; exact q
    · rw [upd_ne z] at q; exact R.sub b u q
  · by_cases z : b = α n
    · subst z; exact .inr f1
    · rw [upd_ne z] at q; exact R.nF b u q
  · show (names ((delL n S.L).map fun p => (p.1, frO n (.lst ds) p.2))).Nodup
    rw [names_frS]; exact nodup_delL R.nd
  · have ha : a ∈ names ((delL n S.L).map fun p => (p.1, frO n (.lst ds) p.2)) := ha
    have hb : b ∈ names ((delL n S.L).map fun p => (p.1, frO n (.lst ds) p.2)) := hb
    rw [names_frS] at ha hb
    exact R.inj a b (names_delL.mp ha).2 (names_delL.mp hb).2
  · obtain ⟨⟨m', o'⟩, h1, h2⟩ := List.mem_map.mp hm
    cases h2
    obtain ⟨h3, h4⟩ := mem_delL.mp h1
    obtain ⟨g0, g1, g2⟩ := R.live m' o' h4
    have ne : α m' ≠ α n := fun q => h3 (R.inj _ _ (mem_names h4) (mem_names (getL_mem hn)) q)
    refine ⟨(upd_ne ne).trans g0, g1, ?_⟩
    cases o' with
    | fl ds' => obtain ⟨us, e1, r1⟩ := g2; exact ⟨us, e1, r1.mono hF⟩
    | cl cs => obtain ⟨us, e1, r1⟩ := g2; exact ⟨us, e1, r1.freeze hF hd⟩
    | ins c fs =>
      obtain ⟨C, dx, us, m1, e1, e2, e3, e4, r1⟩ := g2
      exact ⟨C, dx, us, m1, e1, e2, by rw [upd_ne (fun q => by rw [q, e] at e2; cases e2)]; exact e3, e4, r1.freeze hF hd⟩
    | dT kvs => obtain ⟨us, e1, r1⟩ := g2; exact ⟨us, e1, Paired.imp (fun _ _ z => ⟨z.1, z.2.mono hF⟩) r1⟩
    | dK kvs => obtain ⟨us, e1, r1⟩ := g2; exact ⟨us, e1, r1.freeze hF hd⟩
/-- an object's cells speak of L alone -/
theorem CRel.res : ∀ {c : Ce} {v v1 : V} {F1 : Hp} {α1 : Nat → Addr} {mg1 : Mg}, CRel K mg F α L' c v → CRel K mg1 F1 α1 L c v1 → CRel K mg F α L c v
  | .fr _, _, _, _, _, _, h, _ => h
  | .ad n, _, _, _, _, _, ⟨_, h2⟩, ⟨h3, _⟩ => ⟨h3, h2⟩
  | .xv _, _, _, _, _, _, h, _ => h
theorem CRels.res : ∀ {c : List Ce} {v v1 : List V} {F1 : Hp} {α1 : Nat → Addr}, CRels K mg F α L' c v → CRels K mg F1 α1 L c v1 → CRels K mg F α L c v
  | _, _, _, _, _, .nil, .nil => .nil
  | _, _, _, _, _, .cons h r, .cons h' r' => .cons (h.res h') (r.res r')
theorem CRelF.res : ∀ {c : List (Str × Ce)} {v v1 : List (Str × V)} {F1 : Hp} {α1 : Nat → Addr}, CRelF K mg F α L' c v → CRelF K mg F1 α1 L c v1 → CRelF K mg F α L c v
  | _, _, _, _, _, .nil, .nil => .nil
  | _, _, _, _, _, .cons h r, .cons h' r' => .cons (h.res h') (r.res r')
theorem CRelK.res {κ : Type} : ∀ {c : List (κ × Ce)} {v v1 : List (κ × V)} {F1 : Hp} {α1 : Nat → Addr}, CRelK K mg F α L' c v → CRelK K mg F1 α1 L c v1 → CRelK K mg F α L c v
  | _, _, _, _, _, .nil, .nil => .nil
  | _, _, _, _, _, .cons h r, .cons h' r' => .cons (h.res h') (r.res r')
theorem LAt.res {a a1 : Addr} {o : LO} {F1 H1 : Hp} {α1 : Nat → Addr} (h : LAt K mg B F α L' H a o) (h1 : LAt K mg B F1 α1 L H1 a1 o) : LAt K mg B F α L H a o := by
  cases o with
  | fl ds => exact h
  | cl cs => obtain ⟨us, e1, r1⟩ := h; obtain ⟨_, _, q⟩ := h1; exact ⟨us, e1, r1.res q⟩
  | ins c fs => obtain ⟨C, dx, us, m1, e1, e2, e3, e4, r1⟩ := h; obtain ⟨_, _, _, _, _, _, _, _, q⟩ := h1; exact ⟨C, dx, us, m1, e1, e2, e3, e4, r1.res q⟩
  | dT kvs => exact h
  | dK kvs => obtain ⟨us, e1, r1⟩ := h; obtain ⟨_, _, q⟩ := h1; exact ⟨us, e1, r1.res q⟩
theorem LAt.frz {a p : Addr} {o : LO} {vs : List V} (f0 : F p = none) (e : H p = some (.lst vs)) (h : LAt K mg B F α L H a o) : LAt K mg B (upd F p (.lst vs)) α L H a o := by
  have hF : Same F (upd F p (.lst vs)) := same_upd f0
  have st : Stp F α L (upd F p (.lst vs)) α := ⟨hF, fun _ _ => rfl⟩
  cases o with
  | fl ds => obtain ⟨us, e1, r1⟩ := h; exact ⟨us, e1, r1.mono hF⟩
  | cl cs => obtain ⟨us, e1, r1⟩ := h; exact ⟨us, e1, r1.step st fun _ z => z⟩
  | ins c fs =>
    obtain ⟨C, dx, us, m1, e1, e2, e3, e4, r1⟩ := h
    exact ⟨C, dx, us, m1, e1, e2, by rw [upd_ne (fun q => by rw [q, e] at e2; cases e2)]; exact e3, e4, r1.step st fun _ z => z⟩
  | dT kvs => obtain ⟨us, e1, r1⟩ := h; exact ⟨us, e1, Paired.imp (fun _ _ z => ⟨z.1, z.2.mono hF⟩) r1⟩
  | dK kvs => obtain ⟨us, e1, r1⟩ := h; exact ⟨us, e1, r1.step st fun _ z => z⟩
/-- the last live list is frozen, the rest is as it was -/
theorem Rel.close {F1 H1 : Hp} {α1 : Nat → Addr} {σ1 : L2.St} {ρ ρ1 : List (Option Ce)} {n : Nat} {ds : List D} (R1 : Rel K mg B F1 α1 H1 σ1 ⟨ρ1, L⟩) (R : Rel K mg B F α H σ ⟨ρ, L ++ [(n, .fl ds)]⟩) (st : Stp F1 α1 L F α) (hn : n ∉ names L) :
    ∃ F', Rel K mg B F' α H σ1 ⟨ρ1, L⟩ ∧ Stp F1 α1 L F' α ∧ Rep K mg F' (.lst ds) (.ref (α n)) := by
  obtain ⟨f0, f1, vs, e, r⟩ := R.live n (.fl ds) (List.mem_append_right _ (List.mem_singleton.mpr rfl))
  have hF : Same F (upd F (α n) (.lst vs)) := same_upd f0
  have hd : Rep K mg (upd F (α n) (.lst vs)) (.lst ds) (.ref (α n)) := .lst (SqL.of upd_same) (r.mono hF)
  have st2 : Stp F1 α1 L (upd F (α n) (.lst vs)) α := ⟨st.fro.trans hF, st.nm⟩
  have nn : ∀ m, m ∈ names L → m ∈ names (L ++ [(n, LO.fl ds)]) := fun m h => Sub.app m h
  refine ⟨upd F (α n) (.lst vs), ⟨fun b u q => ?_, R.bF.trans hF, fun b u q => ?_, R.frame, R1.nd, fun a b ha hb => R.inj a b (nn a ha) (nn b hb), fun m o hm => ?_, R1.slots.step st2 fun _ z => z, fun m a e hm => R.fix m a e (nn m hm)⟩, st2, hd⟩
  · by_cases z : b = α n
    · subst z; rw [upd_same] at q; rw [e]; exact q
    · rw [upd_ne z] at q; exact R.sub b u q
  · by_cases z : b = α n
    · subst z; exact .inr f1
    · rw [upd_ne z] at q; exact R.nF b u q
  · have hm' : (m, o) ∈ L := hm
    obtain ⟨g0, g1, g2⟩ := R.live m o (List.mem_append_left _ hm')
    have ne : α m ≠ α n := fun q => hn (by rw [← R.inj _ _ (nn m (mem_names hm')) (by rw [names_append]; exact List.mem_append_right _ (List.mem_singleton.mpr rfl)) q]; exact mem_names hm')
    refine ⟨by rw [upd_ne ne]; exact g0, g1, ?_⟩
    have g3 : LAt K mg B (upd F (α n) (.lst vs)) α (L ++ [(n, .fl ds)]) H (α m) o := g2.frz f0 e
    exact g3.res (R1.live m o hm').2.2
end
end Nz
namespace Nz
open PySem PySem.Spec PyProof.Rows L2
def EgC (X : Cx) (B : Bd) (tg : Expr) (c : Ce) (S S2 : Nz.S) (vs : List Nat) : Prop :=
  ∀ F α H σ v Q, RelX X B F α H σ S → CR X F α S.L c v → (∀ σ' F' H', RelX X B F' α H' σ' S2 → Same F F' → wipe σ' vs = wipe σ vs → Q σ' H') → wG X tg v σ H Q
theorem wipe_set : ∀ {vs : List Nat} {σ : L2.St} {i : Nat} {x : Option V}, i ∈ vs → wipe (σ.set i x) vs = wipe σ vs
  | v :: vs, σ, i, x, h => by
    show (wipe (σ.set i x) vs).set v none = (wipe σ vs).set v none
    by_cases hi : i ∈ vs
    · rw [wipe_set hi]
    · have e : v = i := by
        rcases List.mem_cons.mp h with h | h
        · exact h.symm
        · exact absurd h hi
      subst e
      clear h
      have key : ∀ (vs : List Nat) (σ : L2.St), v ∉ vs → wipe (σ.set v x) vs = (wipe σ vs).set v x := by
        intro vs
        induction vs with
        | nil => intro σ _; rfl
        | cons u us ih =>
          intro σ hn
          show (wipe (σ.set v x) us).set u none = ((wipe σ us).set u none).set v x
          rw [ih σ (fun z => hn (List.mem_cons_of_mem _ z)), List.set_comm _ _ (fun z => hn (by rw [z]; exact List.mem_cons_self))]
      rw [key vs σ hi, List.set_set]
theorem wipe_idem {σ : L2.St} : ∀ {vs : List Nat}, wipe (wipe σ vs) vs = wipe σ vs
  | [] => rfl
  | v :: vs => by
    show (wipe ((wipe σ vs).set v none) vs).set v none = (wipe σ vs).set v none
    by_cases h : v ∈ vs
    · rw [wipe_set h, wipe_idem]
    · have key : ∀ (ws : List Nat) (τ : L2.St), v ∉ ws → wipe (τ.set v none) ws = (wipe τ ws).set v none := by
        intro ws
        induction ws with
        | nil => intro τ _; rfl
        | cons u us ih =>
          intro τ hn
          show (wipe (τ.set v none) us).set u none = ((wipe τ us).set u none).set v none
          rw [ih τ (fun z => hn (List.mem_cons_of_mem _ z)), List.set_comm _ _ (fun z => hn (by rw [z]; exact List.mem_cons_self))]
      rw [key vs _ h, wipe_idem, List.set_set]
theorem getL_app : ∀ {L : List (Nat × LO)} {n : Nat} {o : LO}, n ∉ names L → getL n (L ++ [(n, o)]) = some o
  | [], n, o, _ => by simp [getL]
  | (m, u) :: r, n, o, h => by
    show (if n = m then some u else getL n (r ++ [(n, o)])) = _
    rw [if_neg (fun z => h (by rw [z]; exact List.mem_cons_self)), getL_app (fun z => h (List.mem_cons_of_mem _ z))]
theorem setL_app : ∀ {L : List (Nat × LO)} {n : Nat} {o u : LO}, n ∉ names L → setL n u (L ++ [(n, o)]) = L ++ [(n, u)]
  | [], n, o, u, _ => by simp [setL]
  | (m, w) :: r, n, o, u, h => by
    show (if n = m then (m, u) :: (r ++ [(n, o)]) else (m, w) :: setL n u (r ++ [(n, o)])) = _
    rw [if_neg (fun z => h (by rw [z]; exact List.mem_cons_self)), setL_app (fun z => h (List.mem_cons_of_mem _ z))]
    rfl
theorem eg_nameC {X : Cx} {B : Bd} {S : Nz.S} {vs : List Nat} (i : Nat) {x : Str} {c : Ce} {pos : Pos} (hN : X.N.Nodup) (hi : X.N[i]? = some x) (hx : Loc X.env.scope x) (hv : i ∈ vs) (hf : X.fn x = true ∨ X.env.scope.names.lookup x = some .local) : EgC X B (.Name x pos) c S (setS S i c) vs :=
  fun F α H σ v Q R r k pins s u I ru => (pg_name hN hi hx hf).run pins s σ H v u Q I ru (k _ F H (R.setS r) (Same.refl _) (wipe_set hv))
def EgsC (X : Cx) (B : Bd) (ts : List Expr) (cs : List D) (S S2 : Nz.S) (ws : List Nat) : Prop :=
  ∀ F α H σ vs (Q : L2.St → Hp → Prop), RelX X B F α H σ S → Reps X.K X.mg F cs vs → (∀ σ' F' H', RelX X B F' α H' σ' S2 → Same F F' → wipe σ' ws = wipe σ ws → Q σ' H') →
    ∀ pins s us, Inv X pins σ H s → Vals vs us → wpAny (model X.prog X.w) X.A (assignInOrder ((assignEach ts X.env).map (·.2)) us) (fun _ s' => ∃ σ' H', Inv X pins σ' H' s' ∧ Q σ' H') X.xe s
section
variable {X : Cx} {B : Bd} {S S1 S2 : Nz.S} {ws : List Nat} {e : Expr} {es : List Expr} {d : D} {pos : Pos}
theorem egs_nilC : EgsC X B [] [] S S ws := fun F α H σ vs Q R r k pins s us I ru => by
  cases r
  cases ru
  exact assignInOrder_nil ⟨σ, H, I, k σ F H R (Same.refl _) rfl⟩
theorem egs_consC {ds : List D} (h1 : EgC X B e (.fr d) S S1 ws) (h2 : EgsC X B es ds S1 S2 ws) (hL : S1.L = S.L := by rfl) (hs : (assignEach (e :: es) X.env).map (·.2) = assign e X.env :: (assignEach es X.env).map (·.2) := by rfl) : EgsC X B (e :: es) (d :: ds) S S2 ws :=
  fun F α H σ vs Q R r k pins s us I ru => by
    cases r with
    | cons r rr =>
      cases ru with
      | cons u uu =>
        rw [hs]
        refine assignInOrder_cons (thn (h1 F α H σ _ (fun σ1 H1 => ∃ F1, RelX X B F1 α H1 σ1 S1 ∧ Same F F1 ∧ wipe σ1 ws = wipe σ ws) R r (fun σ' F' H' R' s' w' => ⟨F', R', s', w'⟩) pins s _ I u) fun _ s1 ⟨σ1, H1, I1, F1, R1, sm, w1⟩ => ?_)
        exact h2 F1 α H1 σ1 _ Q R1 (rr.mono sm) (fun σ' F' H' R' s' w' => k σ' F' H' R' (sm.trans s') (w'.trans w1)) pins s1 _ I1 uu
theorem eg_tupC {ds : List D} {k1} (hc : X.calm = true) (h : EgsC X B es ds S S2 ws) (hn : (assignEach es X.env).length = ds.length := by rfl) (hst : (assignEach es X.env).findIdx? (·.1) = none := by rfl) : EgC X B (.Tuple es k1 pos) (.fr (.tup ds)) S S2 ws :=
  fun F α H σ v Q R r k pins s u I ru => by
    cases (show Rep X.K X.mg F (.tup ds) v from r) with
    | tup hq hr =>
      have hq' := R.sub.seqT hq
      cases ru
      obtain ⟨its, rv, ht, hz⟩ := I.tuple hq'
      refine assign_Tuple_tuple (I.ok.hd hc) ht (by simp [hn, hr.length, rv.length]) hst fun h' hx => ?_
      have I1 : Inv X pins σ H { s with heap := h' } := I.kept (t' := s.toks) fun b o e => hx b o (Nat.ne_of_lt (Heap.lt_size e)) e
      exact h F α H σ _ Q R hr k pins _ _ I1 (by simpa using rv)
end
def wTs (X : Cx) (ifs : List Expr) (σ : L2.St) (H : Hp) (Q : Bool → Hp → Prop) : Prop :=
  ∀ pins s, Inv X pins σ H s → wpAny (model X.prog X.w) X.A (forIn ifs true fun c r => if r = true then do let ok ← isTrue c X.env (eval c X.env); pure (ForInStep.yield ok) else pure (ForInStep.yield r)) (TP X pins σ Q) X.xe s
def Ets (X : Cx) (B : Bd) (ifs : List Expr) (S : Nz.S) (b : Bool) : Prop :=
  ∀ F α H σ Q, RelX X B F α H σ S → (∀ F' α' H', RelX X B F' α' H' σ S → Stp F α S.L F' α' → Q b H') → wTs X ifs σ H Q
theorem ets_nil {X : Cx} {B : Bd} {S : Nz.S} : Ets X B [] S true := fun F α H σ Q R k pins s I => pts_nil.run pins s σ H Q I (k F α H R Stp.refl)
def wipeC (ρ : List (Option Ce)) : List Nat → List (Option Ce)
  | [] => ρ
  | v :: vs => (wipeC ρ vs).set v none
theorem SlR.setN {K : Frag} {mg : Mg} {F : Hp} {α : Nat → Addr} {L : List (Nat × LO)} : ∀ {c : List (Option Ce)} {σ : L2.St} (i : Nat) {o : Option V}, SlR K mg F α L c σ → SlR K mg F α L (c.set i none) (σ.set i o)
  | _, _, _, _, .nil => .nil
  | _, _, 0, _, .no r => .no r
  | _, _, 0, _, .so _ r => .no r
  | _, _, i + 1, _, .no r => .no (r.setN i)
  | _, _, i + 1, _, .so q r => .so q (r.setN i)
theorem SlR.wipe {K : Frag} {mg : Mg} {F : Hp} {α : Nat → Addr} {L : List (Nat × LO)} {c : List (Option Ce)} {σ : L2.St} (h : SlR K mg F α L c σ) : ∀ vs : List Nat, SlR K mg F α L (wipeC c vs) (L2.wipe σ vs)
  | [] => h
  | v :: vs => (h.wipe vs).setN v
/-- the context of a comprehension's block -/
abbrev Blk (X : Cx) (scope : Scope) (s : Shared) (H : Hp) (C : Addr) (cl : List (Str × Addr)) (fp : List Addr) : Cx := X.blk s H scope (compEnvC scope cl C X.env) fp
section
variable {X : Cx} {B : Bd} {S S1 : Nz.S} {elt tg iter : Expr} {ifs : List Expr} {scope : Scope} {own : List (Str × Nat)} {pos : Pos}
/-- [elt for tg in iter if ..] of data -/
theorem lc_reading {τ : Type} (nD : Nat) {ys : List τ} {enc : τ → D} (f : τ → D) (p : τ → Bool) (Sx : Nat → τ → List D → Nz.S)
    (hsrc : Src X B tg iter S (ys.map enc) S1) (hn : nD ∉ names S1.L) (h100 : 100 ≤ nD) (hz : ys.length ≤ sizeLine) (hL : ∀ i y acc, (Sx i y acc).L = S1.L ++ [(nD, .fl acc)])
    (hg : ∀ i y acc, ys[i]? = some y → ∀ s H0 C cl fp, EgC (Blk X scope s H0 C cl fp) B tg (.fr (enc y)) ⟨wipeC S1.ρ (own.map (·.2)), S1.L ++ [(nD, .fl acc)]⟩ (Sx i y acc) (own.map (·.2)))
    (ht : ∀ i y acc, ys[i]? = some y → ∀ s H0 C cl fp, Ets (Blk X scope s H0 C cl fp) B ifs (Sx i y acc) (p y))
    (he : ∀ i y acc, ys[i]? = some y → p y = true → ∀ s H0 C cl fp, Ev (Blk X scope s H0 C cl fp) B elt (Sx i y acc) (.fr (f y)) (Sx i y acc))
    (F : Hp) (α : Nat → Addr) (H : Hp) (σ : L2.St) (Q : VK) (R : RelX X B F α H σ S) (hS : Sub S.L S1.L)
    (k : ∀ F' α' v H', RelX X B F' α' H' σ S1 → Stp F α S.L F' α' → Rep X.K X.mg F' (.lst ((ys.filter p).map f)) v → Q v H') :
    tLc (wI X tg iter) (fun v σ H Q => ∀ s H0 C cl fp, wG (Blk X scope s H0 C cl fp) tg v σ H Q) (fun σ H Q => ∀ s H0 C cl fp, wTs (Blk X scope s H0 C cl fp) ifs σ H Q) (fun σ H Q => ∀ s H0 C cl fp, wE (Blk X scope s H0 C cl fp) elt σ H Q) (own.map (·.2)) σ H Q := by
  refine hsrc F α H σ _ R fun F1 α1 H1 J R1 st1 j => ?_
  intro D hD
  have Rn := R1.allocL (n := nD) (u := .fl []) (o := .lst []) hD hn h100 ⟨[], upd_same, .nil⟩
  have stn : Stp F1 α1 S1.L F1 (setα α1 nD D) := stp_setα hn
  have eD : setα α1 nD D nD = D := by unfold setα; rw [if_pos rfl]
  -- the state at turn i
  let W : Nat → Hp → Prop := fun i H => ∃ F' α', RelX X B F' α' H (L2.wipe σ (own.map (·.2))) ⟨wipeC S1.ρ (own.map (·.2)), S1.L ++ [(nD, .fl (((ys.take i).filter p).map f))]⟩ ∧ Stp F1 (setα α1 nD D) (S1.L ++ [(nD, .fl [])]) F' α'
  have w0 : W 0 (upd H1 D (.lst [])) := ⟨F1, setα α1 nD D, ⟨Rn.sub, Rn.bF, Rn.nF, Rn.frame, Rn.nd, Rn.inj, Rn.live, Rn.slots.wipe _, Rn.fix⟩, Stp.refl⟩
  refine ⟨fun i m H => m = ys.length - i ∧ i ≤ ys.length ∧ W i H, ⟨ys.length, by simp, Nat.zero_le _, w0⟩, ?_⟩
  rintro i m H' ⟨rfl, hi, F', α', R', st'⟩
  have sm : Same F1 F' := st'.fro
  have nmD : α' nD = D := by rw [st'.nm nD (by rw [names_append]; exact List.mem_append_right _ (List.mem_singleton.mpr rfl)), eD]
  by_cases hlt : i < ys.length
  · obtain ⟨y, hy⟩ : ∃ y, ys[i]? = some y := ⟨ys[i], by simp [hlt]⟩
    obtain ⟨g, yl⟩ := j.go B F' α' H' _ _ i (enc y) R' sm (by rw [List.getElem?_map, hy]; rfl)
    have tk : (ys.take (i + 1)) = ys.take i ++ [y] := by rw [List.take_succ, hy]; rfl
    refine .inr ⟨g, W (i + 1), fun H2 w2 => ⟨ys.length - (i + 1), by omega, rfl, hlt, w2⟩, fun x H2 yy => ?_⟩
    obtain ⟨F2, R2, s2, r2⟩ := yl x H2 yy
    intro sA HA CA clA fpA
    refine hg i y (((ys.take i).filter p).map f) hy sA HA CA clA fpA F2 α' H2 _ x _ R2 r2 fun σ3 F3 H3 R3 s3 w3 => ⟨w3.trans wipe_idem, ?_⟩
    intro sB HB CB clB fpB
    refine ht i y (((ys.take i).filter p).map f) hy sB HB CB clB fpB F3 α' H3 σ3 _ R3 fun F4 α4 H4 R4 st4 => ?_
    have hLL := hL i y (((ys.take i).filter p).map f)
    have full : ∀ {F5 : Hp} {α5 : Nat → Addr} {acc : List Nz.D}, Same F' F5 → (∀ n, n ∈ names (S1.L ++ [(nD, LO.fl (((ys.take i).filter p).map f))]) → α5 n = α' n) → Stp F1 (setα α1 nD D) (S1.L ++ [(nD, .fl [])]) F5 α5 := fun {F5 α5 acc} h1 h2 =>
      ⟨sm.trans h1, fun n hn' => by
        rw [h2 n (by rw [names_append] at hn' ⊢; exact hn'), st'.nm n hn']⟩
    have back : ∀ {F5 : Hp} {α5 : Nat → Addr} {H5 : Hp} {acc : List Nz.D}, RelX X B F5 α5 H5 σ3 ⟨(Sx i y (((ys.take i).filter p).map f)).ρ, S1.L ++ [(nD, .fl acc)]⟩ → SlR X.K X.mg F5 α5 (S1.L ++ [(nD, .fl acc)]) (wipeC S1.ρ (own.map (·.2))) (L2.wipe σ (own.map (·.2))) →
        RelX X B F5 α5 H5 (L2.wipe σ (own.map (·.2))) ⟨wipeC S1.ρ (own.map (·.2)), S1.L ++ [(nD, .fl acc)]⟩ := fun {F5 α5 H5 acc} Rr sl => ⟨Rr.sub, Rr.bF, Rr.nF, Rr.frame, Rr.nd, Rr.inj, Rr.live, sl, Rr.fix⟩
    have sl0 : SlR X.K X.mg F' α' (S1.L ++ [(nD, .fl (((ys.take i).filter p).map f))]) (wipeC S1.ρ (own.map (·.2))) (L2.wipe σ (own.map (·.2))) := R'.slots
    have st4' : Stp F' α' (S1.L ++ [(nD, .fl (((ys.take i).filter p).map f))]) F4 α4 := ⟨s2.trans (s3.trans st4.fro), fun n hn' => st4.nm n (by rw [hLL]; exact hn')⟩
    cases hp : p y with
    | false =>
      rw [if_neg Bool.false_ne_true]
      have e2 : ((ys.take (i + 1)).filter p).map f = ((ys.take i).filter p).map f := by rw [tk, List.filter_append]; simp [hp]
      refine ⟨F4, α4, ?_, full (acc := []) st4'.fro st4'.nm⟩
      rw [e2]
      have R4' : RelX X B F4 α4 H4 σ3 ⟨(Sx i y (((ys.take i).filter p).map f)).ρ, S1.L ++ [(nD, .fl (((ys.take i).filter p).map f))]⟩ := by rw [← hLL]; exact R4
      exact back R4' (sl0.step st4' fun _ z => z)
    | true =>
      rw [if_pos rfl]
      intro sC HC CC clC fpC
      refine he i y (((ys.take i).filter p).map f) hy hp sC HC CC clC fpC F4 α4 H4 σ3 _ R4 fun F5 α5 v5 H5 R5 st5 r5 => ?_
      have st5' : Stp F' α' (S1.L ++ [(nD, .fl (((ys.take i).filter p).map f))]) F5 α5 := st4'.trans ⟨st5.fro, fun n hn' => st5.nm n (by rw [hLL]; exact hn')⟩ fun _ z => z
      have R5' : RelX X B F5 α5 H5 σ3 ⟨(Sx i y (((ys.take i).filter p).map f)).ρ, S1.L ++ [(nD, .fl (((ys.take i).filter p).map f))]⟩ := by rw [← hLL]; exact R5
      obtain ⟨q0, q1, vs5, e5, rs5⟩ := R5'.live nD _ (List.mem_append_right _ (List.mem_singleton.mpr rfl))
      have nm5 : α5 nD = D := by rw [st5'.nm nD (by rw [names_append]; exact List.mem_append_right _ (List.mem_singleton.mpr rfl)), nmD]
      have gl := getL_app (o := .fl (((ys.take i).filter p).map f)) hn
      have sl : ∀ (acc : List Nz.D), setL nD (.fl acc) (S1.L ++ [(nD, LO.fl (((ys.take i).filter p).map f))]) = S1.L ++ [(nD, .fl acc)] := fun acc => setL_app hn
      rw [nm5] at e5
      have e2 : ((ys.take (i + 1)).filter p).map f = ((ys.take i).filter p).map f ++ [f y] := by rw [tk, List.filter_append, List.map_append]; simp [hp]
      have lenv : vs5.length < sizeLine := by
        rw [← rs5.length, List.length_map]
        have := List.length_filter_le p (ys.take i)
        rw [List.length_take] at this
        omega
      refine ⟨vs5, e5, lenv, F5, α5, ?_, full (acc := []) st5'.fro st5'.nm⟩
      have Rp := R5'.put (n := nD) (u := .fl (((ys.take i).filter p).map f ++ [f y])) (o' := .lst (vs5 ++ [v5])) (getL_mem gl) ⟨vs5 ++ [v5], upd_same, rs5.append (.cons r5 .nil)⟩
      rw [nm5] at Rp
      rw [e2]
      have Rp' : RelX X B F5 α5 (upd H5 D (.lst (vs5 ++ [v5]))) σ3 ⟨(Sx i y (((ys.take i).filter p).map f)).ρ, S1.L ++ [(nD, .fl (((ys.take i).filter p).map f ++ [f y]))]⟩ := by rw [← sl]; exact Rp
      refine back Rp' (sl0.step (L' := S1.L ++ [(nD, .fl (((ys.take i).filter p).map f ++ [f y]))]) st5' fun n hn' => by rw [names_append] at hn' ⊢; exact hn')
  · have e1 : i = ys.length := by omega
    subst e1
    refine .inl ⟨j.stop B F' α' H' _ _ _ R' sm (by rw [List.length_map]; exact Nat.le_refl _), ?_⟩
    rw [List.take_length] at R'
    have stA : Stp F1 α1 S1.L F' α' := stn.trans ⟨st'.fro, fun n hn' => st'.nm n (Sub.app n hn')⟩ fun _ z => z
    obtain ⟨F6, R6, st6, r6⟩ := Rel.close (L := S1.L) R1 R' stA hn
    rw [nmD] at r6
    exact k F6 α' (.ref D) H' R6 (st1.trans st6 hS) r6
section
variable {τ : Type} {ys : List τ} {enc : τ → D}
theorem ev_lc (nD : Nat) (ys : List τ) (enc : τ → D) (f : τ → D) (p : τ → Bool) (Sx : Nat → τ → List D → Nz.S) (hc : X.calm = true) (hN : X.N.Nodup) (ok : BlkOk X.N X.env.scope scope own)
    (hsrc : Src X B tg iter S (ys.map enc) S1) (hn : nD ∉ names S1.L) (h100 : 100 ≤ nD) (hz : ys.length ≤ sizeLine) (hL : ∀ i y acc, (Sx i y acc).L = S1.L ++ [(nD, .fl acc)])
    (hg : ∀ i y acc, ys[i]? = some y → ∀ s H0 C cl fp, EgC (Blk X scope s H0 C cl fp) B tg (.fr (enc y)) ⟨wipeC S1.ρ (own.map (·.2)), S1.L ++ [(nD, .fl acc)]⟩ (Sx i y acc) (own.map (·.2)))
    (ht : ∀ i y acc, ys[i]? = some y → ∀ s H0 C cl fp, Ets (Blk X scope s H0 C cl fp) B ifs (Sx i y acc) (p y))
    (he : ∀ i y acc, ys[i]? = some y → p y = true → ∀ s H0 C cl fp, Ev (Blk X scope s H0 C cl fp) B elt (Sx i y acc) (.fr (f y)) (Sx i y acc)) (hS : Sub S.L S1.L := by exact Sub.refl) (hs : ∀ x, foldedSetIterable iter X.env x = pure x := by intro _; rfl) :
    Ev X B (.ListComp elt [⟨tg, iter, ifs, 0⟩] scope pos) S (.fr (.lst ((ys.filter p).map f))) S1 :=
  fun F α H σ Q R k => wE.of (pe_lc hc hN pi_w ok (fun s H0 C cl fp => ⟨fun pins s1 σ1 H1 v u Q1 I r h => h s H0 C cl fp pins s1 u I r⟩) (fun s H0 C cl fp => ⟨fun pins s1 σ1 H1 Q1 I h => h s H0 C cl fp pins s1 I⟩) (fun s H0 C cl fp => ⟨fun pins s1 σ1 H1 Q1 I h => h s H0 C cl fp pins s1 I⟩) hs)
    (lc_reading nD f p Sx hsrc hn h100 hz hL hg ht he F α H σ Q R hS k)
theorem ex_setLc (i : Nat) {y : Str} {py spos : Pos} {K : Out → Prop} (nD : Nat) (ys : List τ) (enc : τ → D) (f : τ → D) (p : τ → Bool) (Sx : Nat → τ → List D → Nz.S) (hc : X.calm = true) (hN : X.N.Nodup) (hy : X.N[i]? = some y) (hyl : X.env.scope.names.lookup y = some .local)
    (hsw : swapsWith (.ListComp elt [⟨tg, iter, ifs, 0⟩] scope pos) (some (.Name y py)) spos.line X.env = pure true) (ok : BlkOk X.N X.env.scope scope own)
    (hsrc : Src X B tg iter S (ys.map enc) S1) (hn : nD ∉ names S1.L) (h100 : 100 ≤ nD) (hz : ys.length ≤ sizeLine) (hL : ∀ i y acc, (Sx i y acc).L = S1.L ++ [(nD, .fl acc)])
    (hg : ∀ i y acc, ys[i]? = some y → ∀ s H0 C cl fp, EgC (Blk X scope s H0 C cl fp) B tg (.fr (enc y)) ⟨wipeC S1.ρ (own.map (·.2)), S1.L ++ [(nD, .fl acc)]⟩ (Sx i y acc) (own.map (·.2)))
    (ht : ∀ i y acc, ys[i]? = some y → ∀ s H0 C cl fp, Ets (Blk X scope s H0 C cl fp) B ifs (Sx i y acc) (p y))
    (he : ∀ i y acc, ys[i]? = some y → p y = true → ∀ s H0 C cl fp, Ev (Blk X scope s H0 C cl fp) B elt (Sx i y acc) (.fr (f y)) (Sx i y acc))
    (k : K (.nx (setS S1 i (.fr (.lst ((ys.filter p).map f)))))) (hS : Sub S.L S1.L := by exact Sub.refl) (hs : ∀ x, foldedSetIterable iter X.env x = pure x := by intro _; rfl) :
    Ex X B (.Assign [.Name y py] (.ListComp elt [⟨tg, iter, ifs, 0⟩] scope pos) spos) S K :=
  fun F α H σ D R o => wS.of (ps_setLc hc hN hy hyl hsw pi_w ok (fun s H0 C cl fp => ⟨fun pins s1 σ1 H1 v u Q1 I r h => h s H0 C cl fp pins s1 u I r⟩) (fun s H0 C cl fp => ⟨fun pins s1 σ1 H1 Q1 I h => h s H0 C cl fp pins s1 I⟩) (fun s H0 C cl fp => ⟨fun pins s1 σ1 H1 Q1 I h => h s H0 C cl fp pins s1 I⟩) hs)
    (lc_reading nD f p Sx hsrc hn h100 hz hL hg ht he F α H σ _ R hS fun F' α' v H' R' st r => o.nx _ F' α' H' _ k (R'.setS r) st.fro)
end
end
def Cb (X : Cx) (f : Value) (ds : List D) (d : D) : Prop :=
  ∀ B F α H σ (S : Nz.S) (Q : VK) xs, RelX X B F α H σ S → Reps X.K X.mg F ds xs → (∀ F' α' v H', RelX X B F' α' H' σ S → Stp F α S.L F' α' → Rep X.K X.mg F' d v → Q v H') →
    ∀ pins s us, Inv X pins σ H s → Vals xs us → wpAny (model X.prog X.w) X.A (call f us) (EP X pins σ Q) X.xe s
theorem Cb.of {X : Cx} {f : Value} {ds : List D} {d : D} {r : List V → Hp → VK → Prop} (h : CallR X f r)
    (hr : ∀ B F α H σ (S : Nz.S) (Q : VK) xs, RelX X B F α H σ S → Reps X.K X.mg F ds xs → (∀ F' α' v H', RelX X B F' α' H' σ S → Stp F α S.L F' α' → Rep X.K X.mg F' d v → Q v H') → r xs H Q) : Cb X f ds d :=
  fun B F α H σ S Q xs R rx k pins s us I rv => h pins s σ H xs us Q I rv (hr B F α H σ S Q xs R rx k)
section
variable {X : Cx} {B : Bd} {S S1 : Nz.S} {a e : Expr} {es : List Expr} {pos p : Pos} {x : Str} {ds : List D} {d : D} {id T : String}
theorem ev_callB (hc : Cb X (.builtin id) ds d) (ha : Ea X B (e :: es) S (ds.map Ce.fr) S1) (hg : Gl X x) (hm : X.mg x = none) (hv : bootBuiltins x = some (.builtin id)) (h1 : Sub S.L S1.L := by exact Sub.refl) (hn : x ≠ "__name__" := by decide) (hdb : (x == ("__debug__" : Str)) = false := by decide)
    (he : starEach (e :: es) X.env = (false, eval e X.env) :: starEach es X.env := by rfl) (hpl : (backTo pos (starEach es X.env)).any (·.1) = false := by rfl) : Ev X B (.Call (.Name x p) (e :: es) [] pos) S (.fr d) S1 :=
  fun F α H σ Q R k pins s I => wpAny_Call_Name_kw (ld_blt I hg hm hv (PyProof.Rows.callWith_builtin1 (thn (ha F α H σ (fun vs H1 => ∃ F1 α1, RelX X B F1 α1 H1 σ S1 ∧ Stp F α S.L F1 α1 ∧ Reps X.K X.mg F1 ds vs) R
    (fun F1 α1 vs H1 R1 st1 r1 => ⟨F1, α1, R1, st1, r1.fr⟩) pos pins s I) fun us s1 ⟨vs, H1, I1, rv, F1, α1, R1, st1, r1⟩ =>
      hc B F1 α1 H1 σ S1 Q vs R1 r1 (fun F' α' v H' R' st' r' => k F' α' v H' R' (st1.trans st' h1) r') pins s1 us I1 rv) he hpl) hn hdb)
theorem ev_callTy (hc : Cb X (.type T) ds d) (ha : Ea X B (e :: es) S (ds.map Ce.fr) S1) (hg : Gl X x) (hm : X.mg x = none) (hv : bootBuiltins x = some (.type T)) (h1 : Sub S.L S1.L := by exact Sub.refl) (hn : x ≠ "__name__" := by decide) (hdb : (x == ("__debug__" : Str)) = false := by decide)
    (he : starEach (e :: es) X.env = (false, eval e X.env) :: starEach es X.env := by rfl) (hpl : (backTo pos (starEach es X.env)).any (·.1) = false := by rfl) : Ev X B (.Call (.Name x p) (e :: es) [] pos) S (.fr d) S1 :=
  fun F α H σ Q R k pins s I => wpAny_Call_Name_kw (ld_blt I hg hm hv (PyProof.Rows.callWith_type1 (thn (ha F α H σ (fun vs H1 => ∃ F1 α1, RelX X B F1 α1 H1 σ S1 ∧ Stp F α S.L F1 α1 ∧ Reps X.K X.mg F1 ds vs) R
    (fun F1 α1 vs H1 R1 st1 r1 => ⟨F1, α1, R1, st1, r1.fr⟩) pos pins s I) fun us s1 ⟨vs, H1, I1, rv, F1, α1, R1, st1, r1⟩ =>
      hc B F1 α1 H1 σ S1 Q vs R1 r1 (fun F' α' v H' R' st' r' => k F' α' v H' R' (st1.trans st' h1) r') pins s1 us I1 rv) he hpl) hn hdb)
theorem c_abs {i : Int} : Cb X (.builtin "abs") [.int i] (.int (if i < 0 then -i else i)) := .of call_abs fun B F α H σ S Q xs R rx k => by
  cases rx with | cons r rr => cases rr; cases r; exact ⟨i, rfl, k F α _ H R Stp.refl (.int _)⟩
theorem c_max2 {i j : Int} (hc : X.calm = true) : Cb X (.builtin "max") [.int i, .int j] (.int (if j > i then j else i)) := .of (call_max2 hc) fun B F α H σ S Q xs R rx k => by
  cases rx with | cons r rr => cases rr with | cons r2 rr => cases rr; cases r; cases r2; exact ⟨i, j, rfl, k F α _ H R Stp.refl (.int _)⟩
theorem c_min2 {i j : Int} (hc : X.calm = true) : Cb X (.builtin "min") [.int i, .int j] (.int (if j < i then j else i)) := .of (call_min2 hc) fun B F α H σ S Q xs R rx k => by
  cases rx with | cons r rr => cases rr with | cons r2 rr => cases rr; cases r; cases r2; exact ⟨i, j, rfl, k F α _ H R Stp.refl (.int _)⟩
theorem c_lenT {xs : List D} : Cb X (.builtin "len") [.tup xs] (.int xs.length) := .of call_len_seq fun B F α H σ S Q vs R rx k => by
  cases rx with
  | cons r rr =>
    cases rr
    obtain ⟨a, us, rfl, hq, rs⟩ := R.asT r
    exact ⟨a, us, rfl, .inr hq, by rw [← rs.length]; exact k F α _ H R Stp.refl (.int _)⟩
theorem c_lenS {z : Str} (h : z.length ≤ sizeLine) : Cb X (.builtin "len") [.str z] (.int z.length) := .of call_len_str fun B F α H σ S Q vs R rx k => by
  cases rx with | cons r rr => cases rr; cases r; exact ⟨z, rfl, h, k F α _ H R Stp.refl (.int _)⟩
theorem c_sum {ns : List Int} (hc : X.calm = true) : Cb X (.builtin "sum") [.lst (ns.map D.int)] (.int ns.sum) := .of (cr_sum hc) fun B F α H σ S Q vs R rx k => by
  cases rx with
  | cons r rr =>
    cases rr
    obtain ⟨a, us, rfl, hq, rs⟩ := R.asL (c := .fr (.lst (ns.map D.int))) rfl r
    exact ⟨a, ns, rfl, by rw [← Reps.ints_eq rs]; exact hq, k F α _ H R Stp.refl (.int _)⟩
theorem c_list {xs : List D} : Cb X (.type "list") [.lst xs] (.lst xs) := .of call_list_of fun B F α H σ S Q vs R rx k => by
  cases rx with
  | cons r rr =>
    cases rr
    obtain ⟨a, us, rfl, hq, rs⟩ := R.asL (c := .fr (.lst xs)) rfl r
    exact ⟨a, us, rfl, .inl hq, fun l hl => k _ α _ _ (R.allocF hl) (stp_allocF (R.fresh hl)) (.lst (SqL.of upd_same) (rs.mono (same_upd (R.fresh hl))))⟩
/-- len of what lives -/
theorem ev_lenL {ca : Ce} (ha : Ev X B e S ca S1) (hl : AsL S1.L ca ds) (hg : Gl X "len") (hm : X.mg "len" = none) (hs : starEach [e] X.env = (false, eval e X.env) :: starEach [] X.env := by rfl) (hpl : (backTo pos (starEach [] X.env)).any (·.1) = false := by rfl) : Ev X B (.Call (.Name "len" p) [e] [] pos) S (.fr (.int ds.length)) S1 :=
  fun F α H σ Q R k => wE.of (pe_callB call_len_seq hg hm PySem.boot_len (pa_cons pe_w pa_nil hs) (by decide) (by decide) hs hpl) (ha F α H σ _ R fun F1 α1 v1 H1 R1 st1 r1 => by
    obtain ⟨a, us, rfl, hq, rs⟩ := R1.asL hl r1
    exact ⟨a, us, rfl, .inl hq, by rw [← rs.length]; exact k F1 α1 _ H1 R1 st1 (.int _)⟩)
def tyOf : D → Option String
  | .non => some "NoneType" | .bl _ => some "bool" | .int _ => some "int" | .str _ => some "str" | .tup _ => some "tuple" | .lst _ => some "list" | .obj _ _ => none
end
end Nz
namespace Nz
open PySem PySem.Spec PyProof.Rows L2
section
variable {X : Cx} {B : Bd} {S S1 : Nz.S} {a e : Expr} {es : List Expr} {pos p q : Pos} {x : Str} {ds : List D} {d : D}
theorem tyX_lst {K : Frag} {H : Hp} {a : Addr} {vs : List V} (h : SqL K H a vs) : TyX K H (.ref a) (.type "list") := by
  rcases h with (h | ⟨o, h⟩) | ⟨o, its, n, h1, h2, _⟩
  · exact .base (.lst h)
  · exact .base (.frz h)
  · exact .kList h1 h2
theorem tyX_tup {K : Frag} {H : Hp} {a : Addr} {vs : List V} (h : SqT K H a vs) : TyX K H (.ref a) (.type "tuple") := by
  rcases h with (h | ⟨o, h⟩) | ⟨o, its, n, h1, h2, _⟩
  · exact .base (.tup h)
  · exact .fTuple h
  · exact .kTuple h1 h2
theorem Rel.tyX {F : Hp} {α : Nat → Addr} {H : Hp} {σ : L2.St} (R : RelX X B F α H σ S) {v : V} {t : String} (r : Rep X.K X.mg F d v) (h : tyOf d = some t) : TyX X.K H v (.type t) := by
  cases r with
  | non => cases h; exact .base .non
  | bl b => cases h; exact .base (.bl b)
  | int i => cases h; exact .base (.int i)
  | str z => cases h; exact .base (.str z)
  | tup h1 h2 => cases h; exact tyX_tup (R.sub.seqT h1)
  | lst h1 h2 => cases h; exact tyX_lst (R.sub.seq h1)
  | obj m h1 h2 h3 => cases h
/-- isinstance(a, T), T a built-in class -/
theorem ev_isi {T t : String} {b : Bool} {xT : Str} {p2 : Pos} (ha : Ev X B a S (.fr d) S1) (ht : tyOf d = some t) (hk : kitB t T = some b) (hg : Gl X "isinstance") (hm : X.mg "isinstance" = none) (hgT : Gl X xT) (hmT : X.mg xT = none) (hv : bootBuiltins xT = some (.type T))
    (hv2 : bootBuiltins "isinstance" = some (.builtin "isinstance") := by decide +kernel)
    (hn : xT ≠ "__name__" := by decide) (hd : (xT == ("__debug__" : Str)) = false := by decide)
    (he : starEach (a :: [.Name xT p2]) X.env = (false, eval a X.env) :: starEach [.Name xT p2] X.env := by rfl) (he2 : starEach (.Name xT p2 :: []) X.env = (false, eval (.Name xT p2) X.env) :: starEach [] X.env := by rfl) (hpl : (backTo pos (starEach [.Name xT p2] X.env)).any (·.1) = false := by rfl) :
    Ev X B (.Call (.Name "isinstance" p) [a, .Name xT p2] [] pos) S (.fr (.bl b)) S1 :=
  fun F α H σ Q R k => wE.of (pe_callB call_isi hg hm hv2 (pa_cons pe_w (pa_cons (pe_bltn (v := .ty T) hgT hmT hv rfl hn hd) pa_nil he2) he) (by decide) (by decide) he hpl) (ha F α H σ _ R fun F1 α1 v1 H1 R1 st1 r1 => by
    exact ⟨v1, .ty T, .type t, .type T, b, rfl, .ty T, R1.tyX r1 ht, kit_ty hk, k F1 α1 _ H1 R1 st1 (.bl _)⟩)
theorem ev_append {n : Nat} {o : Expr} {apos : Pos} (ho : Ev X B o S (.ad n) S) {ds0 : List D} (ha : Ev X B e S (.fr d) S1) (hn : getL n S1.L = some (.fl ds)) (hn0 : getL n S.L = some (.fl ds0)) (hz : ds.length < sizeLine) (h1 : Sub S.L S1.L := by exact Sub.refl)
    (hbase : attributeBase o "append" X.env (eval o X.env) = eval o X.env := by rfl)
    (hfew : ((backTo pos (starEach (e :: []) X.env)).all (fun x => !x.1) && (backToKw pos (keywordEach [] X.env)).all (fun x => x.1.isSome)
      && decide ((e :: ([] : List Expr)).length + ([] : List Keyword).length + (if ([] : List Keyword).isEmpty then 0 else 1) < 30)) = true := by rfl)
    (hline : (apos.endLine == pos.line) = true := by rfl) (hs : starEach (e :: []) X.env = (false, eval e X.env) :: starEach [] X.env := by rfl) (hplain : (backTo pos (starEach [] X.env)).any (·.1) = false := by rfl) :
    Ev X B (.Call (.Attribute o "append" apos) [e] [] pos) S (.fr .non) ⟨S1.ρ, setL n (.fl (ds ++ [d])) S1.L⟩ :=
  fun F α H σ Q R k => wE.of (pe_bm PySem.F.plainAttrs_list PySem.F.slot_list_append PySem.F.type_list_append mt_append pe_w (pa_cons pe_w pa_nil hs) hbase hfew hline hs hplain) (ho F α H σ _ R fun F1 α1 v1 H1 R1 st1 r1 => by
    obtain ⟨hm, rfl⟩ := r1
    refine ⟨?_, ha F1 α1 H1 σ _ R1 fun F2 α2 v2 H2 R2 st2 r2 => ?_⟩
    · -- it is a list already
      obtain ⟨_, _, vs, e1, rs⟩ := R1.live n _ (getL_mem hn0)
      exact .inl ⟨rfl, _, SqL.of e1⟩
    · have hmm := getL_mem hn
      obtain ⟨f0, f1, vs, e1, rs⟩ := R2.live n _ hmm
      have en : α2 n = α1 n := st2.nm n hm
      refine ⟨α1 n, vs, v2, rfl, rfl, by rw [← en]; exact e1, by rw [← rs.length]; exact hz, ?_⟩
      have Rp := R2.put (n := n) (u := .fl (ds ++ [d])) (o' := .lst (vs ++ [v2])) hmm ⟨vs ++ [v2], upd_same, rs.append (.cons r2 .nil)⟩
      rw [en] at Rp
      exact k F2 α2 .non _ Rp ((st1.trans st2 Sub.refl).trans Stp.refl h1) .non)
/-- what a def promises: of the arguments' cells, the live objects handed in, and what is wanted of the value and of what lives behind -/
abbrev SpN := List Ce → List (Nat × LO) → (Ce → List (Nat × LO) → Prop) → Prop
def bdOf (F H : Hp) (fp : Addr → Prop) (α : Nat → Addr) (L : List (Nat × LO)) : Bd := ⟨F, H, fp, fun n => if n < 100 then some (α n) else none, fun n h => by rw [if_neg (by omega)]⟩
def SpOf (K : Frag) (mg : Mg) (sp : SpN) : Sp := fun vs H Q _ => ∃ F α L cs fp, Rel K mg (bdOf F H fp α L) F α H (vs.map some) ⟨cs.map some, L⟩ ∧
  sp cs L fun c L' => ∀ F' α' v H' ρ' σ', Rel K mg (bdOf F H fp α L) F' α' H' σ' ⟨ρ', L'⟩ → CRel K mg F' α' L' c v → Q v H'
def retK (Kc : Ce → List (Nat × LO) → Prop) : Out → Prop
  | .ret c S => Kc c S.L
  | .nx S => Kc (.fr .non) S.L
  | _ => False
def startC (N : List Str) (cs : List Ce) : List (Option Ce) := cs.map some ++ List.replicate (N.length - cs.length) none
theorem slr_rep {K : Frag} {mg : Mg} {F : Hp} {α : Nat → Addr} {L : List (Nat × LO)} : ∀ n, SlR K mg F α L (List.replicate n none) (List.replicate n none)
  | 0 => .nil
  | n + 1 => .no (slr_rep n)
theorem SlR.append {K : Frag} {mg : Mg} {F : Hp} {α : Nat → Addr} {L : List (Nat × LO)} : ∀ {c c' : List (Option Ce)} {σ σ' : L2.St}, SlR K mg F α L c σ → SlR K mg F α L c' σ' → SlR K mg F α L (c ++ c') (σ ++ σ')
  | _, _, _, _, .nil, h => h
  | _, _, _, _, .no r, h => .no (r.append h)
  | _, _, _, _, .so q r, h => .so q (r.append h)
theorem SlR.length {K : Frag} {mg : Mg} {F : Hp} {α : Nat → Addr} {L : List (Nat × LO)} : ∀ {c : List (Option Ce)} {σ : L2.St}, SlR K mg F α L c σ → c.length = σ.length
  | _, _, .nil => rfl
  | _, _, .no r => congrArg (· + 1) r.length
  | _, _, .so _ r => congrArg (· + 1) r.length
theorem _root_.L2.Fun.okN {P : Program} {w : World} {K : Frag} {mg : Mg} {base : Heap} {x qual : Str} {st : Stmt} {f : Addr} {fd : FuncData} {N ps : List Str} {k : Nat} {sp : SpN} (F : Fun K x qual st f fd) (S : FnScope N ps (defScope st)) (len : ∀ cs L Kc, sp cs L Kc → cs.length = ps.length)
    (hbody : ∀ (cdv : Value) (A : Around) (outer : List Env) (s : Shared) (H : Hp) (E : XK) (B : Bd) (cs : List Ce) (L : List (Nat × LO)) (Kc : Ce → List (Nat × LO) → Prop), Room k (A.deeper (envOfC qual (defScope st) s.heap.objs.size f cdv)) → sp cs L Kc →
      Exs (cxOf CX0 P w K mg base N qual (defScope st) f cdv A outer s H E).nox B (defBody st) ⟨startC N cs, L⟩ (retK Kc)) : FnOk P w K mg base CX0 (k + 1) f fd ps (SpOf K mg sp) := by
  refine F.ok S (fun vs H Q E h => ?_) (fun cdv A outer s H vs Q E hr h => ?_)
  · obtain ⟨F', α, L, cs, fp, R, h⟩ := h
    have e1 := R.slots.length
    have e2 := len _ _ _ h
    simp only [List.length_map] at e1
    omega
  · obtain ⟨F', α, L, cs, fp, R, h⟩ := h
    have e1 : cs.length = vs.length := by have := R.slots.length; simpa using this
    refine ⟨_, pss_w, hbody cdv A outer s H E (bdOf F' H fp α L) cs L _ hr h F' α H _ _ (?_ : Rel _ _ _ _ _ _ _ _) ?_⟩
    · refine ⟨R.sub, R.bF, R.nF, R.frame, R.nd, R.inj, R.live, ?_, R.fix⟩
      show SlR _ _ _ _ _ (cs.map some ++ List.replicate (N.length - cs.length) none) (vs.map some ++ List.replicate (N.length - vs.length) none)
      rw [e1]
      exact R.slots.append (slr_rep _)
    · refine ⟨fun S' F1 α1 H1 σ1 k1 R1 s1 => k1 F1 α1 .non H1 S'.ρ σ1 R1 .non, fun S' F1 α1 H1 σ1 k1 R1 s1 => k1.elim, fun S' F1 α1 H1 σ1 k1 R1 s1 => k1.elim, fun c S' F1 α1 H1 σ1 v k1 R1 s1 r1 => k1 F1 α1 v H1 S'.ρ σ1 R1 r1⟩
theorem paired_slots {K : Frag} {mg : Mg} {F : Hp} {α : Nat → Addr} : ∀ {ds : List D} {vs : List V}, Reps K mg F ds vs → SlR K mg F α [] ((ds.map Ce.fr).map some) (vs.map some)
  | _, _, .nil => .nil
  | _, _, .cons h r => .so h (paired_slots r)
theorem Rel.call0 {K : Frag} {mg : Mg} {B : Bd} {F : Hp} {α : Nat → Addr} {H : Hp} {σ : L2.St} {S : Nz.S} {vs : List V} (R : Rel K mg B F α H σ S) (r : Reps K mg F ds vs) : Rel K mg (bdOf F H (fun _ => False) α []) F α H (vs.map some) ⟨(ds.map Ce.fr).map some, []⟩ :=
  ⟨R.sub, Same.refl _, fun b o e => .inl e, fun b o e _ => e, List.nodup_nil, fun n m h => absurd h (by simp [names]), fun n o h => absurd h (by simp), paired_slots r, fun n a h hn => absurd hn (by simp [names])⟩
/-- behind a call that was handed nothing that lives -/
theorem Rel.back0 {K : Frag} {mg : Mg} {B : Bd} {F F' : Hp} {α α' : Nat → Addr} {H H' : Hp} {σ σ' : L2.St} {S S' : Nz.S} (R : Rel K mg B F α H σ S) (R' : Rel K mg (bdOf F H (fun _ => False) α []) F' α' H' σ' S') : Rel K mg B F' α H' σ S :=
  R.grow R'.bF (fun b o e => R'.frame b o e fun z => z) R'.sub fun b u e => by
    rcases R'.nF b u e with z | z | z
    · exact .inl z
    · exact .inr z
    · exact z.elim
variable {CX : CXT} {f C : Addr} {fd : FuncData} {ps : List Str} {k : Nat} {sp : SpN} {dvs : List D}
/-- a value as the text has it, for a default -/
theorem ev_call {ds' : List D} {dvs : List V} {dfs : List Value} (F : FnOk X.prog X.w X.K X.mg X.base CX0 k f fd ps (SpOf X.K X.mg sp)) (hr : Room k X.A) (hm : X.mg x = some (.ref f)) (hk : PySem.W.keepIn X.K (.ref f) = true) (hb : Binds X.K fd ps dfs) (hd : Vals dvs dfs)
    (hdv : ∀ F', Reps X.K X.mg F' ds' dvs) (ha : Ea X B (e :: es) S (ds.map Ce.fr) S1) (hs : ∀ Kc : Ce → List (Nat × LO) → Prop, (∀ L', Kc (.fr d) L') → sp ((ds ++ ds').map Ce.fr) [] Kc) (hg : Gl X x) (h1 : Sub S.L S1.L := by exact Sub.refl) (hdb : (x == ("__debug__" : Str)) = false := by decide)
    (he : starEach (e :: es) X.env = (false, eval e X.env) :: starEach es X.env := by rfl) (hpl : (backTo pos (starEach es X.env)).any (·.1) = false := by rfl) : Ev X B (.Call (.Name x p) (e :: es) [] pos) S (.fr d) S1 :=
  fun F0 α H σ Q R k => wE.of (pe_call F hr hg hm hk hb hd pass0 pa_w hdb he hpl) (ha F0 α H σ _ R fun F1 α1 vs H1 R1 st1 r1 => by
    have r := Reps.append r1.fr (hdv F1)
    exact ⟨F1, α1, [], _, fun _ => False, R1.call0 r, hs _ fun L' F' α' v H' ρ' σ' R' r' => k F' α1 v H' (R1.back0 R') (st1.trans ⟨R'.bF, fun _ _ => rfl⟩ h1) r'⟩)
/-- c' forgets some of c -/
def Fg : List (Option Ce) → List (Option Ce) → Prop
  | [], [] => True
  | a :: as, b :: bs => (b = none ∨ b = a) ∧ Fg as bs
  | _, _ => False
theorem SlR.fg {K : Frag} {mg : Mg} {F : Hp} {α : Nat → Addr} {L : List (Nat × LO)} : ∀ {c c' : List (Option Ce)} {σ : L2.St}, Fg c c' → SlR K mg F α L c σ → SlR K mg F α L c' σ
  | _, [], _, h, .nil => .nil
  | _, b :: bs, _, h, .no r => by
    obtain ⟨h1 | h1, h2⟩ := h
    · subst h1; exact .no (SlR.fg h2 r)
    · subst h1; exact .no (SlR.fg h2 r)
  | _, b :: bs, _, h, .so q r => by
    obtain ⟨h1 | h1, h2⟩ := h
    · subst h1; exact .no (SlR.fg h2 r)
    · subst h1; exact .so q (SlR.fg h2 r)
  | _, [], _, h, .no r => False.elim h
  | _, [], _, h, .so q r => False.elim h
  | _, _ :: _, _, h, .nil => False.elim h
theorem exs_freeze {sts : List Stmt} {K : Out → Prop} (n : Nat) (hn : getL n S.L = some (.fl ds)) (h : Exs X B sts (frS n (.lst ds) S) K) : Exs X B sts S K := fun F α H σ D R o => by
  obtain ⟨F', R', st, _⟩ := R.freeze hn
  exact h F' α H σ D R' (o.mono st.fro)
end
end Nz
namespace Nz
open PySem PySem.Spec PyProof.Rows L2
section
variable {X : Cx} {B : Bd} {S S1 S2 S3 : Nz.S} {a b c e : Expr} {es : List Expr} {pos p q p2 : Pos} {x : Str} {ds : List D} {d d1 d2 : D}
theorem o_cat {xs ys : List D} (hz : xs.length + ys.length ≤ sizeLine) : Op2 X (binaryOp .Add) (.lst xs) (.lst ys) (.lst (xs ++ ys)) :=
  fun B F α H σ S Q x y R rx ry k pins s v u I rv ru => by
    obtain ⟨l1, vs, rfl, hq, rs⟩ := R.asL (c := .fr (.lst xs)) rfl rx
    obtain ⟨l2, us, rfl, hq2, rs2⟩ := R.asL (c := .fr (.lst ys)) rfl ry
    cases rv
    cases ru
    obtain ⟨its, r, ⟨⟨cl, od, dt, sl⟩, n, e1, c1, o1, t1⟩, z1⟩ := I.list hq
    obtain ⟨its2, r2, ⟨⟨cl2, od2, dt2, sl2⟩, n2, e2, c2, o2, t2⟩, z2⟩ := I.list hq2
    simp only at c1 o1 t1 c2 o2 t2
    subst c1 o1 t1 c2 o2 t2
    have hlen := r.length
    have hlen2 := r2.length
    have h1 := rs.length
    have h2 := rs2.length
    have ee : its.toArray ++ its2.toArray = (its ++ its2).toArray := by simp
    refine concat_meets ⟨_, e1, rfl⟩ ⟨_, e2, rfl⟩ noFill_list_add seq_list_add PySem.F.slot_list_add PySem.F.entry_list_add (PySem.F.args_list_add_2 _ _) (list_addW l1 l2 its.toArray its2.toArray n n2 none none sl sl2 (by simp only [List.size_toArray]; omega)) ⟨e1, e2, ?_⟩
    rw [ee]
    have hf := R.fresh I.fresh
    refine ⟨.ref _, _, I.lnew (t' := s.toks) (r.append r2) (by rw [List.length_append]; omega), rfl, k _ α _ _ (R.allocF I.fresh) (stp_allocF hf) (.lst (SqL.of upd_same) ((rs.append rs2).mono (same_upd hf)))⟩
def Eo (X : Cx) (B : Bd) (e : Option Expr) (S : Nz.S) (o : Option Int) : Prop :=
  ∀ F α H σ (Q : Option Int → Hp → Prop), RelX X B F α H σ S → (∀ F' α' H', RelX X B F' α' H' σ S → Stp F α S.L F' α' → Q o H') →
    ∀ pins s, Inv X pins σ H s → wpAny (model X.prog X.w) X.A (evalPart e X.env) (fun u s' => ∃ o H', Inv X pins σ H' s' ∧ IsPart u o ∧ Q o H') X.xe s
theorem eo_none : Eo X B none S none := fun F α H σ Q R k pins s I => po_none.run pins s σ H Q I (k F α H R Stp.refl)
theorem eo_some {i : Int} (h : Ev X B e S (.fr (.int i)) S) : Eo X B (some e) S (some i) := fun F α H σ Q R k pins s I => (po_some pe_w).run pins s σ H Q I (h F α H σ _ R fun F' α' v H' R' st r => by cases r; exact ⟨i, rfl, k F' α' H' R' st⟩)
def tO (X : Cx) (e : Option Expr) : TO := fun σ H Q => ∀ pins s, Inv X pins σ H s → wpAny (model X.prog X.w) X.A (evalPart e X.env) (fun u s' => ∃ o H', Inv X pins σ H' s' ∧ IsPart u o ∧ Q o H') X.xe s
theorem po_w {e : Option Expr} : PO X e (tO X e) := ⟨fun pins s σ H Q I h => h pins s I⟩
def slcD {τ : Type} (xs : List τ) (lo hi : Option Int) : List τ := (xs.drop (HT.sIx xs.length 0 lo)).take (HT.sIx xs.length xs.length hi - HT.sIx xs.length 0 lo)
theorem slcD_map {τ μ : Type} (f : τ → μ) (xs : List τ) (lo hi : Option Int) : slcD (xs.map f) lo hi = (slcD xs lo hi).map f := by
  unfold slcD
  rw [List.length_map, List.map_take, List.map_drop]
theorem ev_sliceL {ca : Ce} {lo hi : Option Expr} {ol oh : Option Int} (ha : Ev X B a S ca S1) (h1 : Eo X B lo S1 ol) (h2 : Eo X B hi S1 oh) (hl : AsL S1.L ca ds) (hS : Sub S.L S1.L := by exact Sub.refl) : Ev X B (.Subscript a (.Slice lo hi none p2) pos) S (.fr (.lst (slcD ds ol oh))) S1 :=
  fun F α H σ Q R k => wE.of (pe_slice sl_list pe_w po_w po_w) (ha F α H σ _ R fun F1 α1 v1 H1 R1 st1 r1 => h1 F1 α1 H1 σ _ R1 fun F2 α2 H2 R2 st2 => h2 F2 α2 H2 σ _ R2 fun F3 α3 H3 R3 st3 => by
    obtain ⟨pa, vs, rfl, hq, rs⟩ := R3.asL hl (r1.step (st2.trans st3 Sub.refl) Sub.refl)
    refine ⟨pa, vs, rfl, hq, fun l hl' => k _ α3 _ _ (R3.allocF hl') ⟨((st1.trans st2 hS).trans st3 hS).fro.trans (same_upd (R3.fresh hl')), ((st1.trans st2 hS).trans st3 hS).nm⟩ (.lst (SqL.of upd_same) (Reps.mono (same_upd (R3.fresh hl')) ?_))⟩
    unfold slcD cutV
    rw [rs.length]
    exact (rs.drop _).take _)
end
theorem at_map {τ : Type} [Inhabited τ] {enc : τ → D} {xs : List τ} {i : Int} (h0 : 0 ≤ i) (h1 : i < xs.length) : atI (xs.map enc) i = some (enc (xs.getD i.toNat default)) := by
  unfold atI ixN
  rw [if_pos h0, if_pos (by rw [List.length_map]; exact h1)]
  show (xs.map enc)[i.toNat]? = _
  rw [List.getElem?_map]
  have h2 : i.toNat < xs.length := by omega
  rw [List.getElem?_eq_getElem h2, List.getD_eq_getElem?_getD, List.getElem?_eq_getElem h2]
  rfl
theorem at_last {τ : Type} [Inhabited τ] {enc : τ → D} {xs : List τ} (h1 : xs ≠ []) : atI (xs.map enc) (-1) = some (enc (xs.getLastD default)) := by
  unfold atI ixN
  have hp : 0 < xs.length := List.length_pos_iff.mpr h1
  rw [if_neg (by decide), if_pos (by rw [List.length_map]; omega)]
  show (xs.map enc)[((-1 : Int) + ((xs.map enc).length : Int)).toNat]? = _
  rw [List.length_map, show ((-1 : Int) + (xs.length : Int)).toNat = xs.length - 1 by omega, List.getElem?_map, ← List.getLast?_eq_getElem?, List.getLast?_eq_some_getLast h1, List.getLastD_eq_getLast?, List.getLast?_eq_some_getLast h1]
  rfl
end Nz
namespace Nz
open PySem PySem.Spec PyProof.Rows L2
end Nz
namespace Nz
open PySem PySem.Spec PyProof.Rows L2
def Le (S S' : Nz.S) : Prop := Fg S.ρ S'.ρ ∧ S'.L = S.L
theorem fg_refl : ∀ ρ : List (Option Ce), Fg ρ ρ
  | [] => trivial
  | _ :: r => ⟨.inr rfl, fg_refl r⟩
theorem Le.refl {S : Nz.S} : Le S S := ⟨fg_refl _, rfl⟩
theorem Le.of {S S' : Nz.S} (h : S = S') : Le S S' := h ▸ Le.refl
theorem Rel.le {K : Frag} {mg : Mg} {B : Bd} {F : Hp} {α : Nat → Addr} {H : Hp} {σ : L2.St} {S S' : Nz.S} (R : Rel K mg B F α H σ S) (h : Le S S') : Rel K mg B F α H σ S' := by
  obtain ⟨ρ', L'⟩ := S'
  obtain ⟨h1, h2⟩ := h
  have h2 : L' = S.L := h2
  subst h2
  exact ⟨R.sub, R.bF, R.nF, R.frame, R.nd, R.inj, R.live, R.slots.fg h1, R.fix⟩
def loopS (st : Nat → Nz.S) (P : Nat → Prop) (K : Out → Prop) (i : Nat) : Out → Prop
  | .nx S => Le S (st (i + 1)) ∧ P (i + 1)
  | .ct S => Le S (st (i + 1)) ∧ P (i + 1)
  | .bk S => K (.nx S)
  | .ret c S => K (.ret c S)
section
variable {X : Cx} {B : Bd} {S S1 S2 S3 : Nz.S} {tg a b c e : Expr} {es : List Expr} {pos p q p2 : Pos} {K : Out → Prop} {body : List Stmt}
theorem ex_forT {τ : Type} {ys : List τ} {enc : τ → D} (hp : PassesOwn (model X.prog X.w) X.A X.env X.xe) (hc : X.calm = true) (st : Nat → Nz.S) (P : Nat → Prop) (hsrc : Src X B tg e S (ys.map enc) S1) (h0 : Le S1 (st 0)) (p0 : P 0)
    (hs : ∀ i y, ys[i]? = some y → P i → ∃ S2, Eg X B tg (.fr (enc y)) (st i) S2 ∧ Exs X B body S2 (loopS st P K i)) (hd : P ys.length → K (.nx (st ys.length))) (hf : ∀ x, foldedSetIterable e X.env x = pure x := by intro _; rfl) : Ex X B (.For tg e body [] pos) S K :=
  fun F α H σ D R o => wS.of (ps_for hp hc pi_w pg_w pss_w hf) (hsrc F α H σ _ R fun F1 α1 H1 J R1 st1 j => by
    have o1 := o.mono st1.fro
    refine ⟨fun i m σ' H' => m = ys.length - i ∧ i ≤ ys.length ∧ ∃ F' α', RelX X B F' α' H' σ' (st i) ∧ Same F1 F' ∧ P i, ⟨ys.length, by simp, Nat.zero_le _, F1, α1, R1.le h0, Same.refl _, p0⟩, ?_⟩
    rintro i m σ' H' ⟨rfl, hi, F', α', R', sm, q⟩
    by_cases hlt : i < ys.length
    · have e1 : ys[i]? = some ys[i] := by simp [hlt]
      obtain ⟨g, y⟩ := j.go B F' α' H' σ' (st i) i (enc ys[i]) R' sm (by rw [List.getElem?_map, e1]; rfl)
      obtain ⟨S2, hg, hb⟩ := hs i _ e1 q
      refine .inr ⟨g, fun σ2 H2 => ∃ F2 α2, RelX X B F2 α2 H2 σ2 (st (i + 1)) ∧ Same F1 F2 ∧ P (i + 1), fun σ2 H2 ⟨F2, α2, R2, s2, q2⟩ => ⟨ys.length - (i + 1), by omega, rfl, hlt, F2, α2, R2, s2, q2⟩, fun x H2 yy => ?_⟩
      obtain ⟨F2, R2, s2, r2⟩ := y x H2 yy
      refine hg F2 α' H2 σ' x _ R2 r2 fun σ3 F3 H3 R3 s3 => hb F3 α' H3 σ3 _ R3 ?_
      have sall : Same F1 F3 := sm.trans (s2.trans s3)
      refine ⟨fun S4 F4 α4 H4 σ4 k4 R4 s4 => ⟨F4, α4, R4.le k4.1, sall.trans s4, k4.2⟩, fun S4 F4 α4 H4 σ4 k4 R4 s4 => o1.nx S4 F4 α4 H4 σ4 k4 R4 (sall.trans s4), fun S4 F4 α4 H4 σ4 k4 R4 s4 => ⟨F4, α4, R4.le k4.1, sall.trans s4, k4.2⟩,
        fun c S4 F4 α4 H4 σ4 v k4 R4 s4 r4 => o1.ret c S4 F4 α4 H4 σ4 v k4 R4 (sall.trans s4) r4⟩
    · have e1 : i = ys.length := by omega
      subst e1
      exact .inl ⟨j.stop B F' α' H' σ' _ _ R' sm (by rw [List.length_map]; exact Nat.le_refl _), o1.nx _ F' α' H' σ' (hd q) R' sm⟩)
inductive Ix (L : List (Nat × LO)) : Ce → Int → D → Prop
  | l {c : Ce} {ds : List D} {i : Int} {d : D} (h : AsL L c ds) (h2 : atI ds i = some d) : Ix L c i d
  | t {ds : List D} {i : Int} {d : D} (h2 : atI ds i = some d) : Ix L (.fr (.tup ds)) i d
theorem ev_ix {ca : Ce} {i : Int} {d : D} (hx : Ix S2.L ca i d) (ha : Ev X B a S ca S1) (hb : Ev X B b S1 (.fr (.int i)) S2) (hs : PlainIx b := by exact fun _ _ => rfl) (h1 : Sub S.L S1.L := by exact Sub.refl) (h2 : Sub S1.L S2.L := by exact Sub.refl) :
    Ev X B (.Subscript a b pos) S (.fr d) S2 := by
  cases hx with
  | l h h2' => exact ev_ixL ha hb h h2' hs h1 h2
  | t h2' => exact ev_ixT ha hb h2' hs h1 h2
inductive Ln (L : List (Nat × LO)) : Ce → Nat → Prop
  | l {c : Ce} {ds : List D} (h : AsL L c ds) : Ln L c ds.length
  | t {ds : List D} : Ln L (.fr (.tup ds)) ds.length
  | s {z : Str} (h : z.length ≤ sizeLine) : Ln L (.fr (.str z)) z.length
theorem ev_len {ca : Ce} {n : Nat} (hx : Ln S1.L ca n) (ha : Ev X B e S ca S1) (hg : Gl X "len") (hm : X.mg "len" = none) (h1 : Sub S.L S1.L := by exact Sub.refl) (hs : starEach [e] X.env = (false, eval e X.env) :: starEach [] X.env := by rfl) (hpl : (backTo pos (starEach [] X.env)).any (·.1) = false := by rfl) :
    Ev X B (.Call (.Name "len" p) [e] [] pos) S (.fr (.int n)) S1 := by
  cases hx with
  | l h => exact ev_lenL ha h hg hm hs hpl
  | t => exact ev_callB c_lenT (ea_cons ha ea_nil h1 Sub.refl hs) hg hm PySem.boot_len h1 (by decide) (by decide) hs hpl
  | s h => exact ev_callB (c_lenS h) (ea_cons ha ea_nil h1 Sub.refl hs) hg hm PySem.boot_len h1 (by decide) (by decide) hs hpl
end
theorem seq_range {n i y : Nat} (h : (List.range n)[i]? = some y) : i < n ∧ y = i := by
  by_cases hi : i < n
  · rw [List.getElem?_range hi] at h; exact ⟨hi, (Option.some.inj h).symm⟩
  · rw [List.getElem?_eq_none (by simpa using hi)] at h; cases h
theorem take_snoc {τ : Type} {ys : List τ} {i : Nat} {y : τ} (h : ys[i]? = some y) : ys.take (i + 1) = ys.take i ++ [y] := by rw [List.take_succ, h]; rfl
theorem foldl_snoc {τ β : Type} {ys : List τ} {i : Nat} {y : τ} (f : β → τ → β) (b : β) (h : ys[i]? = some y) : (ys.take (i + 1)).foldl f b = f ((ys.take i).foldl f b) y := by rw [take_snoc h, List.foldl_append]; rfl
end Nz
namespace Nz
open PySem PySem.Spec PyProof.Rows L2
abbrev eL {τ : Type} (e : τ → D) (xs : List τ) : D := .lst (xs.map e)
abbrev eT2 {τ μ : Type} (e : τ → D) (f : μ → D) (p : τ × μ) : D := .tup [e p.1, f p.2]
abbrev eT3 {τ μ ν : Type} (e : τ → D) (f : μ → D) (g : ν → D) (p : τ × μ × ν) : D := .tup [e p.1, f p.2.1, g p.2.2]
abbrev eO {τ : Type} (e : τ → D) : Option τ → D
  | none => .non
  | some x => e x
section
variable {X : Cx} {B : Bd} {S S1 S2 S3 : Nz.S} {tg a b c e : Expr} {es : List Expr} {pos p q p2 : Pos} {K : Out → Prop} {τ : Type} {enc : τ → D}
theorem o_catT {xs ys : List τ} (hz : xs.length + ys.length ≤ sizeLine) : Op2 X (binaryOp .Add) (eL enc xs) (eL enc ys) (eL enc (xs ++ ys)) := by
  have h := o_cat (X := X) (xs := xs.map enc) (ys := ys.map enc) (by simpa using hz)
  rwa [← List.map_append] at h
theorem ix_L [Inhabited τ] {L : List (Nat × LO)} {xs : List τ} {c : Ce} {i : Int} (h : AsL L c (xs.map enc)) (h0 : 0 ≤ i) (h1 : i < xs.length) : Ix L c i (enc (xs.getD i.toNat default)) := .l h (at_map h0 h1)
theorem ix_last [Inhabited τ] {L : List (Nat × LO)} {xs : List τ} {c : Ce} (h : AsL L c (xs.map enc)) (h1 : xs ≠ []) : Ix L c (-1) (enc (xs.getLastD default)) := .l h (at_last h1)
theorem ln_L {L : List (Nat × LO)} {xs : List τ} {c : Ce} (h : AsL L c (xs.map enc)) : Ln L c xs.length := by
  have := Ln.l h
  rwa [List.length_map] at this
theorem ev_sliceT {ca : Ce} {xs : List τ} {lo hi : Option Expr} {ol oh : Option Int} (hl : AsL S1.L ca (xs.map enc)) (ha : Ev X B a S ca S1) (h1 : Eo X B lo S1 ol) (h2 : Eo X B hi S1 oh) (hS : Sub S.L S1.L := by exact Sub.refl) : Ev X B (.Subscript a (.Slice lo hi none p2) pos) S (.fr (eL enc (slcD xs ol oh))) S1 := by
  have := ev_sliceL (pos := pos) (p2 := p2) ha h1 h2 hl hS
  rwa [slcD_map] at this
/-- [..] that lives, by its data -/
theorem ev_lstN (n : Nat) (xs : List τ) {ds : List D} (h : Ea X B es S (ds.map Ce.fr) S1) (hd : ds = xs.map enc) (hz : xs.length ≤ sizeLine) (hn : n ∉ names S1.L) (h100 : 100 ≤ n) (h1 : Sub S.L S1.L := by exact Sub.refl) : Ev X B (.List es pos) S (.ad n) ⟨S1.ρ, S1.L ++ [(n, .fl (xs.map enc))]⟩ := by
  subst hd
  exact ev_lstL n h (by rw [List.length_map]; exact hz) hn h100 h1
theorem ev_appendT {n : Nat} {o : Expr} {apos : Pos} {xs xs0 : List τ} (x : τ) {d : D} (hd : d = enc x) (hn : getL n S1.L = some (.fl (xs.map enc))) (hn0 : getL n S.L = some (.fl (xs0.map enc))) (hz : xs.length < sizeLine) (ho : Ev X B o S (.ad n) S) (ha : Ev X B e S (.fr d) S1) (h1 : Sub S.L S1.L := by exact Sub.refl)
    (hbase : attributeBase o "append" X.env (eval o X.env) = eval o X.env := by rfl)
    (hfew : ((backTo pos (starEach (e :: []) X.env)).all (fun x => !x.1) && (backToKw pos (keywordEach [] X.env)).all (fun x => x.1.isSome)
      && decide ((e :: ([] : List Expr)).length + ([] : List Keyword).length + (if ([] : List Keyword).isEmpty then 0 else 1) < 30)) = true := by rfl)
    (hline : (apos.endLine == pos.line) = true := by rfl) (hs : starEach (e :: []) X.env = (false, eval e X.env) :: starEach [] X.env := by rfl) (hplain : (backTo pos (starEach [] X.env)).any (·.1) = false := by rfl) :
    Ev X B (.Call (.Attribute o "append" apos) [e] [] pos) S (.fr .non) ⟨S1.ρ, setL n (.fl ((xs ++ [x]).map enc)) S1.L⟩ := by
  subst hd
  have := ev_append (pos := pos) (apos := apos) ho ha hn hn0 (by rw [List.length_map]; exact hz) h1 hbase hfew hline hs hplain
  rwa [show xs.map enc ++ [enc x] = (xs ++ [x]).map enc by simp] at this
theorem c_listL {xs : List τ} : Cb X (.type "list") [eL enc xs] (eL enc xs) := c_list
theorem c_sumL {ns : List Int} (hc : X.calm = true) : Cb X (.builtin "sum") [eL D.int ns] (.int ns.sum) := c_sum hc
theorem src_listT {xs : List τ} (h : Ev X B e S (.fr (eL enc xs)) S1) : Src X B tg e S (xs.map enc) S1 := src_list h
theorem exs_freezeT {sts : List Stmt} (n : Nat) {xs : List τ} (hn : getL n S.L = some (.fl (xs.map enc))) (h : Exs X B sts (frS n (eL enc xs) S) K) : Exs X B sts S K := exs_freeze n hn h
end
theorem PassesOwn.nox {P : Program} {w : World} {A : Around} {env : Env} : PassesOwn (model P w) A env (fun _ _ => False) := PassesOwn.never
end Nz
namespace Nz
open PySem PySem.Spec PyProof.Rows L2
theorem lm_map {τ μ : Type} (ys : List τ) (g : τ → μ) (enc2 : μ → D) : ((ys.filter fun _ => true).map fun y => enc2 (g y)) = (ys.map g).map enc2 := by
  rw [List.filter_eq_self.mpr (fun _ _ => rfl), List.map_map]; rfl
theorem bd_d {p : Prop} [Decidable p] : decide p = true ↔ p := decide_eq_true_iff
theorem bd_and {a b : Bool} {p q : Prop} (h1 : a = true ↔ p) (h2 : b = true ↔ q) : (a && b) = true ↔ (p ∧ q) := by rw [Bool.and_eq_true, h1, h2]
theorem bd_or {a b : Bool} {p q : Prop} (h1 : a = true ↔ p) (h2 : b = true ↔ q) : (a || b) = true ↔ (p ∨ q) := by rw [Bool.or_eq_true, h1, h2]
theorem bd_not {a : Bool} {p : Prop} (h1 : a = true ↔ p) : (!a) = true ↔ ¬ p := by rw [← h1]; cases a <;> simp
theorem bd_n {p : Prop} [Decidable p] : (!decide p) = true ↔ ¬ p := bd_not bd_d
section
variable {X : Cx} {B : Bd} {S S1 S2 S3 : Nz.S} {tg a b c e : Expr} {es : List Expr} {pos p q p2 : Pos} {K : Out → Prop} {body els : List Stmt}
theorem ex_ifP {i : Bool} {P : Prop} (h : i = true ↔ P) (ht : Et X B e S i S1) (ha : P → Exs X B body S1 K) (hb : ¬ P → Exs X B els S1 K) : Ex X B (.If e body els pos) S K :=
  ex_if ht (fun z => ha (h.mp z)) fun z => hb fun w => by rw [h.mpr w] at z; cases z
theorem ev_andP {i j : Bool} {P : Prop} (h : i = true ↔ P) (ha : Ev X B a S (.fr (.bl i)) S) (hb : P → Ev X B (.BoolOp .And (b :: es) pos) S (.fr (.bl j)) S) : Ev X B (.BoolOp .And (a :: b :: es) pos) S (.fr (.bl (i && j))) S := ev_and ha fun z => hb (h.mp z)
theorem ev_orP {i j : Bool} {P : Prop} (h : i = true ↔ P) (ha : Ev X B a S (.fr (.bl i)) S) (hb : ¬ P → Ev X B (.BoolOp .Or (b :: es) pos) S (.fr (.bl j)) S) : Ev X B (.BoolOp .Or (a :: b :: es) pos) S (.fr (.bl (i || j))) S := ev_or ha fun z => hb fun w => by rw [h.mpr w] at z; cases z
theorem ew_andP {i j : Bool} {P : Prop} (h : i = true ↔ P) (ha : Et X B a S i S) (hb : P → Ew X B (.BoolOp .And (b :: es) pos) S j) : Ew X B (.BoolOp .And (a :: b :: es) pos) S (i && j) := ew_and ha fun z => hb (h.mp z)
theorem ew_orP {i j : Bool} {P : Prop} (h : i = true ↔ P) (ha : Et X B a S i S) (hb : ¬ P → Ew X B (.BoolOp .Or (b :: es) pos) S j) : Ew X B (.BoolOp .Or (a :: b :: es) pos) S (i || j) := ew_or ha fun z => hb fun w => by rw [h.mpr w] at z; cases z
variable {elt iter : Expr} {ifs : List Expr} {scope : Scope} {own : List (Str × Nat)} {τ μ : Type} {ys : List τ} {enc : τ → D} {enc2 : μ → D}
/-- [g y for y in ys], typed -/
theorem ev_lcM (nD : Nat) (g : τ → μ) (Sx : Nat → τ → List D → Nz.S) (hc : X.calm = true) (hN : X.N.Nodup) (ok : BlkOk X.N X.env.scope scope own)
    (hsrc : Src X B tg iter S (ys.map enc) S1) (hn : nD ∉ names S1.L) (h100 : 100 ≤ nD) (hz : ys.length ≤ sizeLine)
    (hg : ∀ i y acc, ys[i]? = some y → ∀ s H0 C cl fp, EgC (Blk X scope s H0 C cl fp) B tg (.fr (enc y)) ⟨wipeC S1.ρ (own.map (·.2)), S1.L ++ [(nD, .fl acc)]⟩ (Sx i y acc) (own.map (·.2)))
    (he : ∀ i y acc, ys[i]? = some y → ∀ s H0 C cl fp, Ev (Blk X scope s H0 C cl fp) B elt (Sx i y acc) (.fr (enc2 (g y))) (Sx i y acc)) (hL : ∀ i y acc, (Sx i y acc).L = S1.L ++ [(nD, .fl acc)] := by exact fun _ _ _ => rfl) (hS : Sub S.L S1.L := by exact Sub.refl) (hs : ∀ x, foldedSetIterable iter X.env x = pure x := by intro _; rfl) :
    Ev X B (.ListComp elt [⟨tg, iter, [], 0⟩] scope pos) S (.fr (eL enc2 (ys.map g))) S1 := by
  have := ev_lc (pos := pos) nD ys enc (fun y => enc2 (g y)) (fun _ => true) Sx hc hN ok hsrc hn h100 hz hL hg (fun _ _ _ _ _ _ _ _ _ => ets_nil) (fun i y acc h1 _ => he i y acc h1) hS hs
  rwa [lm_map] at this
theorem ex_setLcM (i : Nat) {y : Str} {py spos : Pos} (nD : Nat) (g : τ → μ) (Sx : Nat → τ → List D → Nz.S) (hc : X.calm = true) (hN : X.N.Nodup) (hy : X.N[i]? = some y) (hyl : X.env.scope.names.lookup y = some .local)
    (hsw : swapsWith (.ListComp elt [⟨tg, iter, [], 0⟩] scope pos) (some (.Name y py)) spos.line X.env = pure true) (ok : BlkOk X.N X.env.scope scope own)
    (hsrc : Src X B tg iter S (ys.map enc) S1) (hn : nD ∉ names S1.L) (h100 : 100 ≤ nD) (hz : ys.length ≤ sizeLine)
    (hg : ∀ i y acc, ys[i]? = some y → ∀ s H0 C cl fp, EgC (Blk X scope s H0 C cl fp) B tg (.fr (enc y)) ⟨wipeC S1.ρ (own.map (·.2)), S1.L ++ [(nD, .fl acc)]⟩ (Sx i y acc) (own.map (·.2)))
    (he : ∀ i y acc, ys[i]? = some y → ∀ s H0 C cl fp, Ev (Blk X scope s H0 C cl fp) B elt (Sx i y acc) (.fr (enc2 (g y))) (Sx i y acc))
    (k : K (.nx (setS S1 i (.fr (eL enc2 (ys.map g)))))) (hL : ∀ i y acc, (Sx i y acc).L = S1.L ++ [(nD, .fl acc)] := by exact fun _ _ _ => rfl) (hS : Sub S.L S1.L := by exact Sub.refl) (hs : ∀ x, foldedSetIterable iter X.env x = pure x := by intro _; rfl) :
    Ex X B (.Assign [.Name y py] (.ListComp elt [⟨tg, iter, [], 0⟩] scope pos) spos) S K :=
  ex_setLc i nD ys enc (fun y => enc2 (g y)) (fun _ => true) Sx hc hN hy hyl hsw ok hsrc hn h100 hz hL hg (fun _ _ _ _ _ _ _ _ _ => ets_nil) (fun i y acc h1 _ => he i y acc h1) (by
    rw [lm_map]; exact k) hS hs
end
end Nz
namespace Nz
open PySem PySem.Spec PyProof.Rows L2
def loopF (Sn : Nz.S) (q : Prop) : Out → Prop
  | .nx S => Le S Sn ∧ q
  | .ct S => Le S Sn ∧ q
  | _ => False
def runE {τ σ ρ : Type} (step : σ → τ → Except ρ σ) : List τ → σ → Except ρ σ
  | [], s => .ok s
  | y :: ys, s => match step s y with
    | .error r => .error r
    | .ok s' => runE step ys s'
def loopE {σ ρ : Type} (stF : σ → Nz.S) (o : Except ρ σ) (Q : σ → Prop) (R : ρ → Ce → Nz.S → Prop) : Out → Prop
  | .nx S => ∃ s', o = .ok s' ∧ Le S (stF s') ∧ Q s'
  | .ct S => ∃ s', o = .ok s' ∧ Le S (stF s') ∧ Q s'
  | .ret c S => ∃ r, o = .error r ∧ R r c S
  | _ => False
section
variable {X : Cx} {B : Bd} {S S1 S2 S3 : Nz.S} {tg a b c e : Expr} {es : List Expr} {pos p q p2 : Pos} {K : Out → Prop} {body : List Stmt} {τ σ ρ : Type} {ys : List τ} {enc : τ → D}
theorem take_foldl {step : σ → τ → σ} {s0 : σ} {i : Nat} {y : τ} (h : ys[i]? = some y) : (ys.take (i + 1)).foldl step s0 = step ((ys.take i).foldl step s0) y := foldl_snoc step s0 h
theorem ex_forF (stF : σ → Nz.S) (step : σ → τ → σ) (s0 : σ) (Q : Nat → σ → Prop) (hsrc : Src X B tg e S (ys.map enc) S1) (h0 : Le S1 (stF s0)) (q0 : Q 0 s0)
    (hs : ∀ i y s, ys[i]? = some y → Q i s → ∃ S2, Eg X B tg (.fr (enc y)) (stF s) S2 ∧ Exs X B body S2 (loopF (stF (step s y)) (Q (i + 1) (step s y)))) (hd : Q ys.length (ys.foldl step s0) → K (.nx (stF (ys.foldl step s0))))
    (hp : PassesOwn (model X.prog X.w) X.A X.env X.xe) (hc : X.calm = true) (hf : ∀ x, foldedSetIterable e X.env x = pure x := by intro _; rfl) : Ex X B (.For tg e body [] pos) S K := by
  refine ex_forT hp hc (fun i => stF ((ys.take i).foldl step s0)) (fun i => Q i ((ys.take i).foldl step s0)) hsrc h0 q0 (fun i y hy hP => ?_) (fun hP => ?_) hf
  · obtain ⟨S2, h1, h2⟩ := hs i y _ hy hP
    refine ⟨S2, h1, h2.mono fun o ho => ?_⟩
    cases o with
    | nx S => show Le S (stF ((ys.take (i + 1)).foldl step s0)) ∧ Q (i + 1) ((ys.take (i + 1)).foldl step s0); rw [take_foldl hy]; exact ho
    | ct S => show Le S (stF ((ys.take (i + 1)).foldl step s0)) ∧ Q (i + 1) ((ys.take (i + 1)).foldl step s0); rw [take_foldl hy]; exact ho
    | bk S => exact False.elim ho
    | ret c S => exact False.elim ho
  · rw [List.take_length] at hP ⊢
    exact hd hP
theorem runE_cons {step : σ → τ → Except ρ σ} {x : τ} {xs : List τ} {s : σ} : runE step (x :: xs) s = (match step s x with | .error r => Except.error r | .ok s' => runE step xs s') := rfl
theorem runE_append {step : σ → τ → Except ρ σ} : ∀ {xs ys : List τ} {s : σ}, runE step (xs ++ ys) s = (match runE step xs s with | .error r => .error r | .ok s' => runE step ys s')
  | [], _, _ => rfl
  | x :: xs, ys, s => by
    rw [List.cons_append, runE_cons, runE_cons]
    cases step s x with
    | error r => rfl
    | ok s' => exact runE_append
theorem runE_split {step : σ → τ → Except ρ σ} {i : Nat} {y : τ} {s0 s : σ} (h : ys[i]? = some y) (hs : runE step (ys.take i) s0 = .ok s) : runE step (ys.take (i + 1)) s0 = step s y := by
  rw [take_snoc h, runE_append, hs]
  show runE step [y] s = step s y
  unfold runE
  cases step s y <;> rfl
theorem runE_err {step : σ → τ → Except ρ σ} {i : Nat} {y : τ} {s0 s : σ} {r : ρ} (h : ys[i]? = some y) (hs : runE step (ys.take i) s0 = .ok s) (hr : step s y = .error r) : runE step ys s0 = .error r := by
  have e : ys = ys.take (i + 1) ++ ys.drop (i + 1) := (List.take_append_drop _ _).symm
  rw [e, runE_append, runE_split h hs, hr]
/-- a loop that may return -/
theorem ex_forE (stF : σ → Nz.S) (step : σ → τ → Except ρ σ) (s0 : σ) (Q : Nat → σ → Prop) (R : ρ → Ce → Nz.S → Prop) (hsrc : Src X B tg e S (ys.map enc) S1) (h0 : Le S1 (stF s0)) (q0 : Q 0 s0)
    (hs : ∀ i y s, ys[i]? = some y → runE step (ys.take i) s0 = .ok s → Q i s → ∃ S2, Eg X B tg (.fr (enc y)) (stF s) S2 ∧ Exs X B body S2 (loopE stF (step s y) (Q (i + 1)) R))
    (hr : ∀ r c S', runE step ys s0 = .error r → R r c S' → K (.ret c S')) (hd : ∀ s, runE step ys s0 = .ok s → Q ys.length s → K (.nx (stF s)))
    (hp : PassesOwn (model X.prog X.w) X.A X.env X.xe) (hc : X.calm = true) (hf : ∀ x, foldedSetIterable e X.env x = pure x := by intro _; rfl) : Ex X B (.For tg e body [] pos) S K := by
  let sI : Nat → σ := fun i => match runE step (ys.take i) s0 with | .ok s => s | .error _ => s0
  refine ex_forT hp hc (fun i => stF (sI i)) (fun i => runE step (ys.take i) s0 = .ok (sI i) ∧ Q i (sI i)) hsrc h0 ⟨rfl, q0⟩ (fun i y hy hP => ?_) (fun hP => ?_) hf
  · obtain ⟨S2, h1, h2⟩ := hs i y _ hy hP.1 hP.2
    refine ⟨S2, h1, h2.mono fun o ho => ?_⟩
    have nx : ∀ s', step (sI i) y = .ok s' → sI (i + 1) = s' ∧ runE step (ys.take (i + 1)) s0 = .ok s' := fun s' e => by
      have := runE_split hy hP.1
      rw [e] at this
      refine ⟨?_, this⟩
      show (match runE step (ys.take (i + 1)) s0 with | .ok s => s | .error _ => s0) = s'
      rw [this]
    cases o with
    | nx S =>
      obtain ⟨s', e, l, q⟩ := ho
      obtain ⟨e1, e2⟩ := nx s' e
      show Le S (stF (sI (i + 1))) ∧ runE step (ys.take (i + 1)) s0 = .ok (sI (i + 1)) ∧ Q (i + 1) (sI (i + 1))
      rw [e1]; exact ⟨l, e2, q⟩
    | ct S =>
      obtain ⟨s', e, l, q⟩ := ho
      obtain ⟨e1, e2⟩ := nx s' e
      show Le S (stF (sI (i + 1))) ∧ runE step (ys.take (i + 1)) s0 = .ok (sI (i + 1)) ∧ Q (i + 1) (sI (i + 1))
      rw [e1]; exact ⟨l, e2, q⟩
    | bk S => exact False.elim ho
    | ret c S =>
      obtain ⟨r, e, l⟩ := ho
      exact hr r c S (runE_err hy hP.1 e) l
  · obtain ⟨h1, h2⟩ := hP
    rw [List.take_length] at h1
    exact hd _ h1 h2
end
end Nz
namespace Nz
open PySem PySem.Spec PyProof.Rows L2
section
variable {X : Cx} {B : Bd} {S S1 : Nz.S} {es : List Expr} {pos : Pos} {τ : Type} {enc : τ → D}
theorem ev_lstF (xs : List τ) {ds : List D} (h : Ea X B es S (ds.map Ce.fr) S1) (hd : ds = xs.map enc) (hz : xs.length ≤ sizeLine) : Ev X B (.List es pos) S (.fr (eL enc xs)) S1 := by
  subst hd
  exact ev_lst h (by rw [List.length_map]; exact hz)
end
end Nz
namespace Nz
open PySem PySem.Spec PyProof.Rows L2
mutual
def toP : D → PyData
  | .non => .none
  | .bl b => .bool b
  | .int i => .int i
  | .str s => .str s
  | .tup xs => .tuple (toPs xs)
  | .lst xs => .list (toPs xs)
  | .obj _ _ => .none
def toPs : List D → List PyData
  | [] => []
  | x :: xs => toP x :: toPs xs
end
mutual
def dataOk : D → Bool
  | .obj _ _ => false
  | .tup xs => datasOk xs
  | .lst xs => datasOk xs
  | _ => true
def datasOk : List D → Bool
  | [] => true
  | x :: xs => dataOk x && datasOk xs
end
mutual
theorem plain_toP : ∀ d : D, (toP d).plain = true
  | .non => rfl
  | .bl b => rfl
  | .int i => rfl
  | .str s => rfl
  | .tup xs => by simp only [toP, PyData.plain]; exact plain_toPs xs
  | .lst xs => by simp only [toP, PyData.plain]; exact plain_toPs xs
  | .obj _ _ => rfl
theorem plain_toPs : ∀ ds : List D, PyData.plainAll (toPs ds) = true
  | [] => rfl
  | x :: xs => by simp only [toPs, PyData.plainAll, plain_toP x, plain_toPs xs, Bool.and_self]
end
section
variable {K : Frag} {mg : Mg} {F H : Hp}
mutual
theorem dp_of (s : Same F H) : ∀ (d : D) (v : V), Rep K mg F d v → dataOk d = true → Dp K H v (toP d)
  | .non, _, r, h => by cases r; exact .non
  | .bl b, _, r, h => by cases r; exact .bl b
  | .int i, _, r, h => by cases r; exact .int i
  | .str z, _, r, h => by cases r; exact .str z
  | .tup xs, _, r, h => by
    cases r with
    | tup h1 h2 => exact .tup (s.seqT h1) (dps_of s xs _ h2 (by simpa [dataOk] using h))
  | .lst xs, _, r, h => by
    cases r with
    | lst h1 h2 => exact .lst (s.seq h1) (dps_of s xs _ h2 (by simpa [dataOk] using h))
  | .obj _ _, _, r, h => by simp [dataOk] at h
theorem dps_of (s : Same F H) : ∀ (ds : List D) (vs : List V), Reps K mg F ds vs → datasOk ds = true → DpAll K H vs (toPs ds)
  | [], _, r, h => by cases r; exact .nil
  | x :: xs, _, r, h => by
    cases r with
    | cons h1 h2 =>
      simp only [datasOk, Bool.and_eq_true] at h
      exact .cons (dp_of s x _ h1 h.1) (dps_of s xs _ h2 h.2)
end
end
/-- an encoding that == reads as = -/
structure EqEnc {τ : Type} [DecidableEq τ] (n : Nat) (e : τ → D) : Prop where
  ok : ∀ x, dataOk (e x) = true
  eqv : ∀ x y, PyData.eqv (toP (e x)) (toP (e y)) = decide (x = y)
  dep : ∀ x, (toP (e x)).depth ≤ n
theorem ee_int : EqEnc 0 D.int := ⟨fun _ => rfl, fun x y => by simp only [toP, PyData.eqv]; rw [Bool.eq_iff_iff]; simp, fun _ => Nat.zero_le _⟩
section
variable {τ μ ν κ ι : Type} [DecidableEq τ] [DecidableEq μ] [DecidableEq ν] [DecidableEq κ] [DecidableEq ι] {a b c d f n : Nat} {e : τ → D} {e2 : μ → D} {e3 : ν → D} {e4 : κ → D} {e5 : ι → D}
theorem ees_ok (h : EqEnc n e) : ∀ xs : List τ, datasOk (xs.map e) = true
  | [] => rfl
  | x :: xs => by simp only [List.map_cons, datasOk, h.ok, ees_ok h xs, Bool.and_self]
theorem ees_eqv (h : EqEnc n e) : ∀ xs ys : List τ, PyData.eqvAll (toPs (xs.map e)) (toPs (ys.map e)) = decide (xs = ys)
  | [], [] => by simp [toPs, PyData.eqvAll]
  | [], _ :: _ => by simp [toPs, PyData.eqvAll]
  | _ :: _, [] => by simp [toPs, PyData.eqvAll]
  | x :: xs, y :: ys => by
    simp only [List.map_cons, toPs, PyData.eqvAll, h.eqv, ees_eqv h xs ys]
    rw [Bool.eq_iff_iff]; simp
theorem ees_dep (h : EqEnc n e) : ∀ xs : List τ, PyData.depthAll (toPs (xs.map e)) ≤ n
  | [] => by simp [toPs, PyData.depthAll]
  | x :: xs => by
    simp only [List.map_cons, toPs, PyData.depthAll]
    have h1 := h.dep x
    have h2 := ees_dep h xs
    omega
theorem ee_L (h : EqEnc n e) : EqEnc (n + 1) (eL e) := ⟨fun xs => by simp only [dataOk]; exact ees_ok h xs, fun xs ys => by simp only [toP, PyData.eqv]; exact ees_eqv h xs ys, fun xs => by simp only [toP, PyData.depth]; have := ees_dep h xs; omega⟩
/-- None or a value that is not None -/
structure NoNone (e : τ → D) : Prop where
  l : ∀ x, PyData.eqv .none (toP (e x)) = false
  r : ∀ x, PyData.eqv (toP (e x)) .none = false
theorem nn_int : NoNone D.int := ⟨fun _ => by simp [toP, PyData.eqv], fun _ => by simp [toP, PyData.eqv]⟩
theorem ee_O (h : EqEnc n e) (k : NoNone e) : EqEnc n (eO e) := ⟨fun x => by cases x with | none => rfl | some x => exact h.ok x, fun x y => by
    cases x with
    | none => cases y with
      | none => simp [eO, toP, PyData.eqv]
      | some y => simp only [eO]; rw [show toP D.non = PyData.none from rfl, k.l]; simp
    | some x => cases y with
      | none => simp only [eO]; rw [show toP D.non = PyData.none from rfl, k.r]; simp
      | some y => simp only [eO]; rw [h.eqv, Bool.eq_iff_iff]; simp,
  fun x => by cases x with | none => simp [eO, toP, PyData.depth] | some x => exact h.dep x⟩
variable {X : Cx}
theorem o_neD (hu : X.A.units + 64 < cLine) (h : EqEnc n e) {x y : τ} (hn : n ≤ 60 := by decide) : Op2 X (compareOp .NotEq) (e x) (e y) (.bl (!decide (x = y))) :=
  fun B F α H σ S Q v1 v2 R r1 r2 k pins s u1 u2 I q1 q2 => by
    obtain ⟨as, ra⟩ := Dp.reads I _ _ _ (dp_of R.sub _ _ r1 (h.ok x)) q1
    obtain ⟨bs, rb⟩ := Dp.reads I _ _ _ (dp_of R.sub _ _ r2 (h.ok y)) q2
    refine PySem.SeqAt.ne_plain ra rb (plain_toP _) (plain_toP _) ?_ ?_
    · have := h.dep x; have := Nat.min_le_left (toP (e x)).depth (toP (e y)).depth; omega
    · rw [h.eqv]; exact ⟨.bl _, H, I, rfl, k F α _ H R Stp.refl (.bl _)⟩
end
def iterW {σ : Type} (c : σ → Bool) (f : σ → σ) : Nat → σ → σ
  | 0, s => s
  | n + 1, s => if c s = true then iterW c f n (f s) else s
theorem iterW_stop {σ : Type} {c : σ → Bool} {f : σ → σ} {s : σ} (h : c s = false) : ∀ n, iterW c f n s = s
  | 0 => rfl
  | n + 1 => by unfold iterW; rw [h, if_neg Bool.false_ne_true]
section
variable {X : Cx} {B : Bd} {S : Nz.S} {e : Expr} {pos : Pos} {K : Out → Prop} {body : List Stmt} {σ : Type}
theorem ex_whileF (stF : σ → Nz.S) (c : σ → Bool) (f : σ → σ) (s0 : σ) (n : Nat) (Q : σ → Prop) (μ : σ → Nat) (h0 : Le S (stF s0)) (q0 : Q s0) (hn : μ s0 ≤ n) (hm : ∀ s, Q s → c s = true → Q (f s) ∧ μ (f s) < μ s)
    (ht : ∀ s, Q s → Et X B e (stF s) (c s) (stF s)) (hs : ∀ s, Q s → c s = true → Exs X B body (stF s) (loopF (stF (f s)) True))
    (hd : Q (iterW c f n s0) → c (iterW c f n s0) = false → K (.nx (stF (iterW c f n s0)))) (hp : PassesOwn (model X.prog X.w) X.A X.env X.xe) : Ex X B (.While e body [] pos) S K :=
  fun F α H τ D R o => wS.of (ps_while hp pt_w pss_w) (by
    refine ⟨fun m σ' H' => ∃ s k F' α', m = μ s ∧ Q s ∧ μ s ≤ k ∧ iterW c f k s = iterW c f n s0 ∧ RelX X B F' α' H' σ' (stF s) ∧ Same F F', ⟨μ s0, s0, n, F, α, rfl, q0, hn, rfl, R.le h0, Same.refl _⟩, ?_⟩
    rintro m σ' H' ⟨s, k, F', α', rfl, q, hk, he, R', sm⟩
    refine ht s q F' α' H' σ' _ R' fun F1 α1 H1 R1 st1 => ?_
    have sall : Same F F1 := sm.trans st1.fro
    cases hc : c s with
    | true =>
      obtain ⟨q', l⟩ := hm s q hc
      rw [if_pos rfl]
      refine ⟨fun σ2 H2 => ∃ F2 α2, RelX X B F2 α2 H2 σ2 (stF (f s)) ∧ Same F F2, fun σ2 H2 ⟨F2, α2, R2, s2⟩ => ⟨μ (f s), l, f s, k - 1, F2, α2, rfl, q', by omega, ?_, R2, s2⟩, hs s q hc F1 α1 H1 σ' _ R1 ?_⟩
      · rw [← he]
        obtain ⟨k', rfl⟩ : ∃ k', k = k' + 1 := ⟨k - 1, by omega⟩
        show iterW c f k' (f s) = if c s = true then iterW c f k' (f s) else s
        rw [if_pos hc]
      · exact ⟨fun S4 F4 α4 H4 σ4 k4 R4 s4 => ⟨F4, α4, R4.le k4.1, sall.trans s4⟩, fun S4 F4 α4 H4 σ4 k4 R4 s4 => k4.elim, fun S4 F4 α4 H4 σ4 k4 R4 s4 => ⟨F4, α4, R4.le k4.1, sall.trans s4⟩, fun c S4 F4 α4 H4 σ4 v k4 R4 s4 r4 => k4.elim⟩
    | false =>
      rw [if_neg Bool.false_ne_true]
      rw [iterW_stop hc] at he
      exact o.nx _ F1 α1 H1 σ' (by rw [he]; exact hd (by rw [← he]; exact q) (by rw [← he]; exact hc)) R1 sall)
end
end Nz
namespace Nz
open PySem PySem.Spec PyProof.Rows L2
/-- the law's promise in the layer's own words -/
def spTrue (K : Frag) : Sp := fun vs H Q _ => ∃ (a : Addr) (ns : List Int), vs = [.ref a] ∧ SqL K H a (ns.map V.int) ∧ ns.length ≤ 63 ∧ ∀ H', Q (.bl true) H'
theorem spTrue_of {K : Frag} {mg : Mg} {mir : List Int → Bool} (hm : ∀ ns : List Int, ns.length ≤ 63 → mir ns = true) {vs : List V} {H : Hp} {Q : VK} {E : XK} (h : spTrue K vs H Q E) :
    SpOf K mg (fun cs L Kc => ∃ script : List Int, cs = [.fr (eL D.int script)] ∧ L = [] ∧ script.length ≤ 63 ∧ ∀ L', Kc (.fr (D.bl (mir script))) L') vs H Q E := by
  obtain ⟨a, ns, rfl, hs, hl, q⟩ := h
  refine ⟨H, fun _ => 0, [], [.fr (eL D.int ns)], fun _ => False, ⟨Same.refl _, Same.refl _, fun b o e => .inl e, fun b o e _ => e, List.nodup_nil, fun n m h => absurd h (by simp [names]), fun n o h => absurd h (by simp), .so (Rep.lst hs Reps.ints) .nil, fun n a h hn => absurd hn (by simp [names])⟩, ns, rfl, rfl, hl, fun L' F' α' v H' ρ' σ' R' r' => ?_⟩
  rw [hm ns hl] at r'
  cases (show Rep K mg F' (.bl true) v from r')
  exact q H'
end Nz
namespace Nz
open PySem PySem.Spec PyProof.Rows L2
def minL : List Int → Int
  | [] => 0
  | x :: xs => xs.foldl (fun a b => if b < a then b else a) x
def maxL : List Int → Int
  | [] => 0
  | x :: xs => xs.foldl (fun a b => if b > a then b else a) x
theorem foldmin : ∀ (xs : List Int) (a : Int), (xs.foldl (fun a b => if b < a then b else a) a = a ∨ xs.foldl (fun a b => if b < a then b else a) a ∈ xs) ∧ xs.foldl (fun a b => if b < a then b else a) a ≤ a ∧ ∀ y ∈ xs, xs.foldl (fun a b => if b < a then b else a) a ≤ y
  | [], a => ⟨.inl rfl, Int.le_refl _, fun y h => absurd h (by simp)⟩
  | x :: xs, a => by
    rw [List.foldl_cons]
    have ih := foldmin xs (if x < a then x else a)
    refine ⟨?_, ?_, fun y hy => ?_⟩
    · rcases ih.1 with h | h
      · rw [h]; split
        · exact .inr List.mem_cons_self
        · exact .inl rfl
      · exact .inr (List.mem_cons_of_mem _ h)
    · have := ih.2.1; split at this <;> omega
    · rcases List.mem_cons.mp hy with rfl | hy
      · have := ih.2.1; split at this <;> omega
      · exact ih.2.2 y hy
theorem foldmax : ∀ (xs : List Int) (a : Int), (xs.foldl (fun a b => if b > a then b else a) a = a ∨ xs.foldl (fun a b => if b > a then b else a) a ∈ xs) ∧ a ≤ xs.foldl (fun a b => if b > a then b else a) a ∧ ∀ y ∈ xs, y ≤ xs.foldl (fun a b => if b > a then b else a) a
  | [], a => ⟨.inl rfl, Int.le_refl _, fun y h => absurd h (by simp)⟩
  | x :: xs, a => by
    rw [List.foldl_cons]
    have ih := foldmax xs (if x > a then x else a)
    refine ⟨?_, ?_, fun y hy => ?_⟩
    · rcases ih.1 with h | h
      · rw [h]; split
        · exact .inr List.mem_cons_self
        · exact .inl rfl
      · exact .inr (List.mem_cons_of_mem _ h)
    · have := ih.2.1; split at this <;> omega
    · rcases List.mem_cons.mp hy with rfl | hy
      · have := ih.2.1; split at this <;> omega
      · exact ih.2.2 y hy
theorem minL_mem {ns : List Int} (h : ns ≠ []) : minL ns ∈ ns := by
  cases ns with
  | nil => exact absurd rfl h
  | cons x xs =>
    rcases (foldmin xs x).1 with e | e
    · show xs.foldl _ x ∈ _; rw [e]; exact List.mem_cons_self
    · exact List.mem_cons_of_mem _ e
theorem minL_le {ns : List Int} {y : Int} (h : y ∈ ns) : minL ns ≤ y := by
  cases ns with
  | nil => exact absurd h (by simp)
  | cons x xs =>
    rcases List.mem_cons.mp h with rfl | h
    · exact (foldmin xs y).2.1
    · exact (foldmin xs x).2.2 y h
theorem maxL_mem {ns : List Int} (h : ns ≠ []) : maxL ns ∈ ns := by
  cases ns with
  | nil => exact absurd rfl h
  | cons x xs =>
    rcases (foldmax xs x).1 with e | e
    · show xs.foldl _ x ∈ _; rw [e]; exact List.mem_cons_self
    · exact List.mem_cons_of_mem _ e
theorem maxL_le {ns : List Int} {y : Int} (h : y ∈ ns) : y ≤ maxL ns := by
  cases ns with
  | nil => exact absurd h (by simp)
  | cons x xs =>
    rcases List.mem_cons.mp h with rfl | h
    · exact (foldmax xs y).2.1
    · exact (foldmax xs x).2.2 y h
section
variable {X : Cx} {B : Bd} {S S1 S2 S3 : Nz.S} {tg a b c e : Expr} {es : List Expr} {pos p q p2 : Pos} {d : D} {ds : List D} {x : Str} {id : String} {τ : Type} {enc : τ → D}
theorem c_minL {ns : List Int} (hc : X.calm = true) (h : ns ≠ []) : Cb X (.builtin "min") [.lst (ns.map D.int)] (.int (minL ns)) := .of (cr_min hc) fun B F α H σ S Q vs R rx k => by
  cases rx with
  | cons r rr =>
    cases rr
    obtain ⟨a, us, rfl, hq, rs⟩ := R.asL (c := .fr (.lst (ns.map D.int))) rfl r
    refine ⟨a, ns, rfl, by rw [← Reps.ints_eq rs]; exact hq, List.length_pos_iff.mpr h, fun m h1 h2 => ?_⟩
    rw [show m = minL ns from Int.le_antisymm (h2 _ (minL_mem h)) (minL_le h1)]
    exact k F α _ H R Stp.refl (.int _)
theorem c_maxL {ns : List Int} (hc : X.calm = true) (h : ns ≠ []) : Cb X (.builtin "max") [.lst (ns.map D.int)] (.int (maxL ns)) := .of (cr_max hc) fun B F α H σ S Q vs R rx k => by
  cases rx with
  | cons r rr =>
    cases rr
    obtain ⟨a, us, rfl, hq, rs⟩ := R.asL (c := .fr (.lst (ns.map D.int))) rfl r
    refine ⟨a, ns, rfl, by rw [← Reps.ints_eq rs]; exact hq, List.length_pos_iff.mpr h, fun m h1 h2 => ?_⟩
    rw [show m = maxL ns from Int.le_antisymm (maxL_le h1) (h2 _ (maxL_mem h))]
    exact k F α _ H R Stp.refl (.int _)
/-- a module's name for a built-in function -/
theorem ev_callG (hc : Cb X (.builtin id) ds d) (ha : Ea X B (e :: es) S (ds.map Ce.fr) S1) (hg : Gl X x) (hm : X.mg x = some (.builtin id)) (h1 : Sub S.L S1.L := by exact Sub.refl) (hdb : (x == ("__debug__" : Str)) = false := by decide)
    (he : starEach (e :: es) X.env = (false, eval e X.env) :: starEach es X.env := by rfl) (hpl : (backTo pos (starEach es X.env)).any (·.1) = false := by rfl) : Ev X B (.Call (.Name x p) (e :: es) [] pos) S (.fr d) S1 :=
  fun F α H σ Q R k pins s I => wpAny_Call_Name_kw (ld_glob I hg hm (PyProof.Rows.callWith_builtin1 (thn (ha F α H σ (fun vs H1 => ∃ F1 α1, RelX X B F1 α1 H1 σ S1 ∧ Stp F α S.L F1 α1 ∧ Reps X.K X.mg F1 ds vs) R
    (fun F1 α1 vs H1 R1 st1 r1 => ⟨F1, α1, R1, st1, r1.fr⟩) pos pins s I) fun us s1 ⟨vs, H1, I1, rv, F1, α1, R1, st1, r1⟩ =>
      hc B F1 α1 H1 σ S1 Q vs R1 r1 (fun F' α' v H' R' st' r' => k F' α' v H' R' (st1.trans st' h1) r') pins s1 us I1 rv) he hpl) hdb)
theorem mulW_of {i j : Int} (h : -(2 ^ 900) < i ∧ i < 2 ^ 900 ∧ -(2 ^ 900) < j ∧ j < 2 ^ 900) : CMulW i j :=
  wide_mul (a := 900) (b := 900) (by omega) (by omega) (by decide) (by decide) (by decide)
theorem divW_of {i j : Int} (h : 0 < j ∧ j < 2 ^ 900) : CDivW i j := wide_div (b := 900) h.1 (by omega) (by decide) (by decide)
def isNonD : D → Bool
  | .non => true
  | _ => false
theorem o_isD : Op2 X (compareOp .Is) d .non (.bl (isNonD d)) := fun B F α H σ S Q x y R rx ry k pins s v u I rv ru =>
  op_isN pins s σ H x y v u Q I rv ru ⟨by cases ry; rfl, by
    have : decide (x = .non) = isNonD d := by cases rx <;> simp [isNonD]
    rw [this]; exact k F α _ H R Stp.refl (.bl _)⟩
theorem o_nisD : Op2 X (compareOp .IsNot) d .non (.bl (!isNonD d)) := fun B F α H σ S Q x y R rx ry k pins s v u I rv ru =>
  op_notN pins s σ H x y v u Q I rv ru ⟨by cases ry; rfl, by
    have : decide (x = .non) = isNonD d := by cases rx <;> simp [isNonD]
    rw [this]; exact k F α _ H R Stp.refl (.bl _)⟩
theorem isNon_O {y : Option τ} (h : ∀ z, isNonD (enc z) = false) : isNonD (eO enc y) = y.isNone := by
  cases y with
  | none => rfl
  | some z => exact h z
theorem o_isO {y : Option τ} (h : ∀ z, isNonD (enc z) = false) : Op2 X (compareOp .Is) (eO enc y) .non (.bl y.isNone) := by rw [← isNon_O h]; exact o_isD
theorem o_nisO {y : Option τ} (h : ∀ z, isNonD (enc z) = false) : Op2 X (compareOp .IsNot) (eO enc y) .non (.bl (!y.isNone)) := by rw [← isNon_O h]; exact o_nisD
theorem ev_unO [Inhabited τ] {y : Option τ} (h : y.isSome = true) (ha : Ev X B a S (.fr (eO enc y)) S1) : Ev X B a S (.fr (enc (y.getD default))) S1 := by
  cases y with
  | none => exact absurd h (by simp)
  | some z => exact ha
theorem ev_isiO {T t : String} {b : Bool} {xT : Str} {p2 : Pos} {y : Option τ} (ha : Ev X B a S (.fr (eO enc y)) S1) (ht : ∀ z, tyOf (enc z) = some t) (hk : kitB t T = some b) (hk2 : kitB "NoneType" T = some false) (hg : Gl X "isinstance") (hm : X.mg "isinstance" = none) (hgT : Gl X xT) (hmT : X.mg xT = none) (hv : bootBuiltins xT = some (.type T))
    (hv2 : bootBuiltins "isinstance" = some (.builtin "isinstance") := by decide +kernel)
    (hn : xT ≠ "__name__" := by decide) (hd : (xT == ("__debug__" : Str)) = false := by decide)
    (he : starEach (a :: [.Name xT p2]) X.env = (false, eval a X.env) :: starEach [.Name xT p2] X.env := by rfl) (he2 : starEach (.Name xT p2 :: []) X.env = (false, eval (.Name xT p2) X.env) :: starEach [] X.env := by rfl) (hpl : (backTo pos (starEach [.Name xT p2] X.env)).any (·.1) = false := by rfl) :
    Ev X B (.Call (.Name "isinstance" p) [a, .Name xT p2] [] pos) S (.fr (.bl (y.isSome && b))) S1 := by
  cases y with
  | none => exact ev_isi ha rfl hk2 hg hm hgT hmT hv hv2 hn hd he he2 hpl
  | some z => exact ev_isi (b := b) ha (ht z) hk hg hm hgT hmT hv hv2 hn hd he he2 hpl
end
end Nz
namespace Nz
open PySem PySem.Spec PyProof.Rows L2
section
variable {K : Frag} {mg : Mg} {B : Bd} {F F' : Hp} {α : Nat → Addr} {H H' : Hp} {σ : L2.St} {S : Nz.S} {L : List (Nat × LO)} {Q : VK} {E : XK}
theorem CRelF.fr : ∀ {fs : List (Str × D)} {vs : List (Str × V)}, CRelF K mg F α L (fs.map fun p => (p.1, Ce.fr p.2)) vs → RepF K mg F fs vs
  | [], _, .nil => .nil
  | _ :: _, _, .cons h r => .cons h (CRelF.fr r)
end
section
variable {X : Cx} {B : Bd} {S S1 S2 : Nz.S} {a e o : Expr} {es : List Expr} {pos apos p q : Pos} {d d1 : D} {ds : List D} {c f m x : Str} {fs : List (Str × D)} {C g pr : Addr} {fd : FuncData} {ps : List Str} {k : Nat} {sp : SpN}
/-- the fields behind self.f = .. -/
def putC (f : Str) (c : Ce) : List (Str × Ce) → List (Str × Ce)
  | [] => [(f, c)]
  | (g, x) :: r => if g = f then (g, c) :: r else (g, x) :: putC f c r
theorem CRelF.put {K : Frag} {mg : Mg} {F : Hp} {α : Nat → Addr} {L : List (Nat × LO)} {f : Str} {c : Ce} {v : V} (h : CRel K mg F α L c v) : ∀ {fs : List (Str × Ce)} {vs : List (Str × V)}, CRelF K mg F α L fs vs → CRelF K mg F α L (putC f c fs) (putF f v vs)
  | [], _, .nil => .cons h .nil
  | (g, _) :: _, _, .cons r rs => by
    unfold putC putF
    by_cases q : g = f
    · rw [if_pos q, if_pos q]; exact .cons h rs
    · rw [if_neg q, if_neg q]; exact .cons r (rs.put h)
end
end Nz
namespace Nz
open PySem PySem.Spec PyProof.Rows L2
open AutoSeq1 (wpAny_loadPart')
open Sem (wp)
def enD : Nat → List D → List D
  | _, [] => []
  | k, d :: ds => .tup [.int (k : Nat), d] :: enD (k + 1) ds
theorem enD_at : ∀ {ds : List D} {k i : Nat} {d : D}, (enD k ds)[i]? = some d → ∃ e, ds[i]? = some e ∧ d = .tup [.int ((k + i : Nat) : Int), e]
  | [], _, _, _, h => by simp [enD] at h
  | e :: ds, k, 0, d, h => by simp [enD] at h; exact ⟨e, rfl, h.symm⟩
  | e :: ds, k, i + 1, d, h => by
    obtain ⟨e', h1, h2⟩ := enD_at (ds := ds) (k := k + 1) (i := i) (d := d) (by simpa [enD] using h)
    exact ⟨e', h1, by rw [h2, show k + 1 + i = k + (i + 1) by omega]⟩
theorem enD_length : ∀ {ds : List D} {k : Nat}, (enD k ds).length = ds.length
  | [], _ => rfl
  | _ :: ds, k => congrArg (· + 1) (enD_length (ds := ds) (k := k + 1))
end Nz
namespace Nz
open PySem PySem.Spec PyProof.Rows L2
end Nz
namespace Nz
open PySem PySem.Spec PyProof.Rows L2
section
variable {X : Cx} {B : Bd} {S S1 S2 S3 : Nz.S} {tg a b c e : Expr} {es elts : List Expr} {kk : Nat} {tpos pos p q p2 : Pos} {d : D} {ds : List D} {x : Str} {τ : Type} {enc : τ → D}
def enL : Nat → List τ → List (Int × τ)
  | _, [] => []
  | k, x :: xs => ((k : Int), x) :: enL (k + 1) xs
theorem enD_map {xs : List τ} : ∀ {k : Nat}, enD k (xs.map enc) = (enL k xs).map (eT2 D.int enc) := by
  induction xs with
  | nil => intro k; rfl
  | cons x r ih => intro k; show _ :: _ = _ :: _; rw [ih]
theorem src_enum {xs : List D} (h : Ea X B [e] S [.fr (.lst xs)] S1) (hg : Gl X "enumerate") (hm : X.mg "enumerate" = none) (hs : starEach [e] X.env = [(false, eval e X.env)] := by rfl) : Src X B (.Tuple elts kk tpos) (.Call (.Name "enumerate" p) [e] [] pos) S (enD 0 xs) S1 :=
  fun F α H σ R RR k => wI.of (pi_enum hg hm pa_w hs) (h F α H σ _ RR fun F1 α1 v1 H1 R1 st1 r1 => by
    have r := CRels.fr (ds := [.lst xs]) r1
    cases r with
    | cons q rr =>
      cases rr
      cases q with
      | lst h1 h2 =>
        rename_i a vs
        refine ⟨a, vs, rfl, R1.sub.seq h1, k F1 α1 H1 _ R1 st1 ⟨fun B F' α H σ S i d R' hs hi => ?_, fun B F' α H σ S i R' hs hi => ⟨vs, R'.sub.seq (hs.seq h1), by rw [← h2.length, ← enD_length (ds := xs) (k := 0)]; exact hi⟩⟩⟩
        obtain ⟨e', hi', rfl⟩ := enD_at hi
        obtain ⟨v, hv, rv⟩ := h2.get hi'
        refine ⟨⟨vs, v, R'.sub.seq (hs.seq h1), hv⟩, fun x H' y => ?_⟩
        obtain ⟨T, z, rfl, hT, rfl, y⟩ := y
        have := y vs (R'.sub.seq (hs.seq h1))
        rw [hv] at this; cases this
        refine ⟨upd F' T (.tup [.int (i : Nat), v]), R'.allocF hT, same_upd (R'.fresh hT), .tup (SqT.of upd_same) (.cons ?_ (.cons ((rv.mono hs).mono (same_upd (R'.fresh hT))) .nil))⟩
        rw [Nat.zero_add]; exact .int _)
theorem src_enumL {xs : List τ} (h : Ea X B [e] S [.fr (eL enc xs)] S1) (hg : Gl X "enumerate") (hm : X.mg "enumerate" = none) (hs : starEach [e] X.env = [(false, eval e X.env)] := by rfl) :
    Src X B (.Tuple elts kk tpos) (.Call (.Name "enumerate" p) [e] [] pos) S ((enL 0 xs).map (eT2 D.int enc)) S1 := by
  rw [← enD_map]; exact src_enum h hg hm hs
end
end Nz
namespace Nz
open PySem PySem.Spec PyProof.Rows L2
def wK (X : Cx) (kws : List Keyword) (σ : L2.St) (H : Hp) (Q : List V → Hp → Prop) : Prop :=
  ∀ pos pins s, Inv X pins σ H s → wpAny (model X.prog X.w) X.A (evalAll ((backToKw pos (keywordEach kws X.env)).map (·.2))) (AP X pins σ Q) X.xe s
theorem wK.of {X : Cx} {kws : List Keyword} {t : TA} (h : PK X kws t) {σ : L2.St} {H : Hp} {Q : List V → Hp → Prop} (q : t σ H Q) : wK X kws σ H Q := fun pos pins s I => h.run pos pins s σ H Q I q
end Nz
namespace Nz
open PySem PySem.Spec PyProof.Rows L2
end Nz
namespace Nz
open PySem PySem.Spec PyProof.Rows L2
end Nz
namespace Nz
open PySem PySem.Spec PyProof.Rows L2
end Nz
namespace Nz
theorem some_of {τ : Type} {y : Option τ} (h : ¬ (y.isNone = true)) : y.isSome = true := by
  cases y with
  | none => exact absurd rfl h
  | some z => rfl
theorem some_of2 {τ : Type} {y : Option τ} (h : ¬ ¬ ¬ (y.isNone = true)) : y.isSome = true := some_of fun z => h fun w => w z
end Nz
namespace Nz
end Nz
namespace Nz
open PySem PySem.Spec PyProof.Rows L2
theorem Reps.reverse {K : Frag} {mg : Mg} {F : Hp} : ∀ {ds : List D} {vs : List V}, Reps K mg F ds vs → Reps K mg F ds.reverse vs.reverse
  | _, _, .nil => .nil
  | _ :: _, _ :: _, .cons h r => by
    rw [List.reverse_cons, List.reverse_cons]
    exact (Reps.reverse r).append (.cons h .nil)
end Nz
namespace Nz
open PySem PySem.Spec PyProof.Rows L2
section
variable {X : Cx} {B : Bd} {S S1 S2 : Nz.S} {a b e o : Expr} {es : List Expr} {pos apos p q : Pos} {d d1 : D} {ds xs : List D} {x : Str} {fd : FuncData} {ps : List Str} {k : Nat} {sp : SpN} {f : Addr}
/-- xs[i] = v, the list lives -/
theorem ex_setI {K : Out → Prop} (n : Nat) {i : Int} (he : Ev X B e S (.fr d) S1) (ho : Ev X B o S1 (.ad n) S1) (hi : Ev X B a S1 (.fr (.int i)) S1) (hl : getL n S1.L = some (.fl xs)) (h0 : 0 ≤ i) (h1 : i < xs.length)
    (k : K (.nx ⟨S1.ρ, setL n (.fl (xs.set i.toNat d)) S1.L⟩)) (hs : swapsWithSole [.Subscript o a p] e pos.line X.env = pure false := by rfl) (hw : swappedStores [.Subscript o a p] e X.env = pure none := by rfl)
    (h2 : (assignEach [.Subscript o a p] X.env).map (·.2) = [assign (.Subscript o a p) X.env] := by rfl)
    (hsub : ∀ v, assign (.Subscript o a p) X.env v = (do
      let ov ← holding [v] (eval o X.env)
      let iv ← holding [v, ov] (eval a X.env)
      standAt p
      holding [v, ov, iv] (setItem ov iv v)
      release [v, ov, iv] []) := by intro _; rfl) : Ex X B (.Assign [.Subscript o a p] e pos) S K :=
  fun F α H σ D R oo => wS.of (ps_asg pe_w (pg_sub pe_w pe_w set_list hsub) hs hw h2) (he F α H σ _ R fun F1 α1 v1 H1 R1 st1 r1 => ho F1 α1 H1 σ _ R1 fun F2 α2 v2 H2 R2 st2 r2 => hi F2 α2 H2 σ _ R2 fun F3 α3 v3 H3 R3 st3 r3 => by
    obtain ⟨hn1, rfl⟩ := r2
    cases r3
    have hmm := getL_mem hl
    obtain ⟨f0, f1, vs, e1, rs⟩ := R3.live n _ hmm
    have en : α3 n = α2 n := st3.nm n hn1
    refine ⟨α2 n, vs, i, i.toNat, rfl, rfl, by rw [← en]; exact e1, by unfold ixN; rw [if_pos h0, ← rs.length, if_pos h1], ?_⟩
    have Rp := R3.put (n := n) (u := .fl (xs.set i.toNat d)) (o' := .lst (vs.set i.toNat v1)) hmm ⟨vs.set i.toNat v1, upd_same, rs.set i.toNat (Rep.mono (st2.fro.trans st3.fro) r1)⟩
    rw [en] at Rp
    exact oo.nx _ F3 α3 _ σ k Rp (st1.fro.trans (st2.fro.trans st3.fro)))
/-- [e, ..] * n -/
theorem Reps.rep {K : Frag} {mg : Mg} {F : Hp} {ds : List D} {vs : List V} (h : Reps K mg F ds vs) : ∀ n : Nat, Reps K mg F (List.replicate n ds).flatten (List.replicate n vs).flatten
  | 0 => .nil
  | n + 1 => by
    rw [List.replicate_succ, List.flatten_cons, List.replicate_succ, List.flatten_cons]
    exact h.append (Reps.rep h n)
end
section
variable {X : Cx} {B : Bd} {S S1 : Nz.S} {elt tg iter : Expr} {ifs : List Expr} {scope : Scope} {own : List (Str × Nat)} {pos : Pos}
theorem lc_readingL {τ : Type} (nD : Nat) {ys : List τ} {enc : τ → D} (f : τ → D) (p : τ → Bool) (Sx : Nat → τ → List D → Nz.S)
    (hsrc : Src X B tg iter S (ys.map enc) S1) (hn : nD ∉ names S1.L) (h100 : 100 ≤ nD) (hz : ys.length ≤ sizeLine) (hL : ∀ i y acc, (Sx i y acc).L = S1.L ++ [(nD, .fl acc)])
    (hg : ∀ i y acc, ys[i]? = some y → ∀ s H0 C cl fp, EgC (Blk X scope s H0 C cl fp) B tg (.fr (enc y)) ⟨wipeC S1.ρ (own.map (·.2)), S1.L ++ [(nD, .fl acc)]⟩ (Sx i y acc) (own.map (·.2)))
    (ht : ∀ i y acc, ys[i]? = some y → ∀ s H0 C cl fp, Ets (Blk X scope s H0 C cl fp) B ifs (Sx i y acc) (p y))
    (he : ∀ i y acc, ys[i]? = some y → p y = true → ∀ s H0 C cl fp, Ev (Blk X scope s H0 C cl fp) B elt (Sx i y acc) (.fr (f y)) (Sx i y acc))
    (F : Hp) (α : Nat → Addr) (H : Hp) (σ : L2.St) (Q : VK) (R : RelX X B F α H σ S) (hS : Sub S.L S1.L)
    (k : ∀ F' α' H', RelX X B F' α' H' σ ⟨S1.ρ, S1.L ++ [(nD, .fl ((ys.filter p).map f))]⟩ → Stp F α S.L F' α' → Q (.ref (α' nD)) H') :
    tLc (wI X tg iter) (fun v σ H Q => ∀ s H0 C cl fp, wG (Blk X scope s H0 C cl fp) tg v σ H Q) (fun σ H Q => ∀ s H0 C cl fp, wTs (Blk X scope s H0 C cl fp) ifs σ H Q) (fun σ H Q => ∀ s H0 C cl fp, wE (Blk X scope s H0 C cl fp) elt σ H Q) (own.map (·.2)) σ H Q := by
  refine hsrc F α H σ _ R fun F1 α1 H1 J R1 st1 j => ?_
  intro D hD
  have Rn := R1.allocL (n := nD) (u := .fl []) (o := .lst []) hD hn h100 ⟨[], upd_same, .nil⟩
  have stn : Stp F1 α1 S1.L F1 (setα α1 nD D) := stp_setα hn
  have eD : setα α1 nD D nD = D := by unfold setα; rw [if_pos rfl]
  -- the state at turn i
  let W : Nat → Hp → Prop := fun i H => ∃ F' α', RelX X B F' α' H (L2.wipe σ (own.map (·.2))) ⟨wipeC S1.ρ (own.map (·.2)), S1.L ++ [(nD, .fl (((ys.take i).filter p).map f))]⟩ ∧ Stp F1 (setα α1 nD D) (S1.L ++ [(nD, .fl [])]) F' α'
  have w0 : W 0 (upd H1 D (.lst [])) := ⟨F1, setα α1 nD D, ⟨Rn.sub, Rn.bF, Rn.nF, Rn.frame, Rn.nd, Rn.inj, Rn.live, Rn.slots.wipe _, Rn.fix⟩, Stp.refl⟩
  refine ⟨fun i m H => m = ys.length - i ∧ i ≤ ys.length ∧ W i H, ⟨ys.length, by simp, Nat.zero_le _, w0⟩, ?_⟩
  rintro i m H' ⟨rfl, hi, F', α', R', st'⟩
  have sm : Same F1 F' := st'.fro
  have nmD : α' nD = D := by rw [st'.nm nD (by rw [names_append]; exact List.mem_append_right _ (List.mem_singleton.mpr rfl)), eD]
  by_cases hlt : i < ys.length
  · obtain ⟨y, hy⟩ : ∃ y, ys[i]? = some y := ⟨ys[i], by simp [hlt]⟩
    obtain ⟨g, yl⟩ := j.go B F' α' H' _ _ i (enc y) R' sm (by rw [List.getElem?_map, hy]; rfl)
    have tk : (ys.take (i + 1)) = ys.take i ++ [y] := by rw [List.take_succ, hy]; rfl
    refine .inr ⟨g, W (i + 1), fun H2 w2 => ⟨ys.length - (i + 1), by omega, rfl, hlt, w2⟩, fun x H2 yy => ?_⟩
    obtain ⟨F2, R2, s2, r2⟩ := yl x H2 yy
    intro sA HA CA clA fpA
    refine hg i y (((ys.take i).filter p).map f) hy sA HA CA clA fpA F2 α' H2 _ x _ R2 r2 fun σ3 F3 H3 R3 s3 w3 => ⟨w3.trans wipe_idem, ?_⟩
    intro sB HB CB clB fpB
    refine ht i y (((ys.take i).filter p).map f) hy sB HB CB clB fpB F3 α' H3 σ3 _ R3 fun F4 α4 H4 R4 st4 => ?_
    have hLL := hL i y (((ys.take i).filter p).map f)
    have full : ∀ {F5 : Hp} {α5 : Nat → Addr} {acc : List Nz.D}, Same F' F5 → (∀ n, n ∈ names (S1.L ++ [(nD, LO.fl (((ys.take i).filter p).map f))]) → α5 n = α' n) → Stp F1 (setα α1 nD D) (S1.L ++ [(nD, .fl [])]) F5 α5 := fun {F5 α5 acc} h1 h2 =>
      ⟨sm.trans h1, fun n hn' => by
        rw [h2 n (by rw [names_append] at hn' ⊢; exact hn'), st'.nm n hn']⟩
    have back : ∀ {F5 : Hp} {α5 : Nat → Addr} {H5 : Hp} {acc : List Nz.D}, RelX X B F5 α5 H5 σ3 ⟨(Sx i y (((ys.take i).filter p).map f)).ρ, S1.L ++ [(nD, .fl acc)]⟩ → SlR X.K X.mg F5 α5 (S1.L ++ [(nD, .fl acc)]) (wipeC S1.ρ (own.map (·.2))) (L2.wipe σ (own.map (·.2))) →
        RelX X B F5 α5 H5 (L2.wipe σ (own.map (·.2))) ⟨wipeC S1.ρ (own.map (·.2)), S1.L ++ [(nD, .fl acc)]⟩ := fun {F5 α5 H5 acc} Rr sl => ⟨Rr.sub, Rr.bF, Rr.nF, Rr.frame, Rr.nd, Rr.inj, Rr.live, sl, Rr.fix⟩
    have sl0 : SlR X.K X.mg F' α' (S1.L ++ [(nD, .fl (((ys.take i).filter p).map f))]) (wipeC S1.ρ (own.map (·.2))) (L2.wipe σ (own.map (·.2))) := R'.slots
    have st4' : Stp F' α' (S1.L ++ [(nD, .fl (((ys.take i).filter p).map f))]) F4 α4 := ⟨s2.trans (s3.trans st4.fro), fun n hn' => st4.nm n (by rw [hLL]; exact hn')⟩
    cases hp : p y with
    | false =>
      rw [if_neg Bool.false_ne_true]
      have e2 : ((ys.take (i + 1)).filter p).map f = ((ys.take i).filter p).map f := by rw [tk, List.filter_append]; simp [hp]
      refine ⟨F4, α4, ?_, full (acc := []) st4'.fro st4'.nm⟩
      rw [e2]
      have R4' : RelX X B F4 α4 H4 σ3 ⟨(Sx i y (((ys.take i).filter p).map f)).ρ, S1.L ++ [(nD, .fl (((ys.take i).filter p).map f))]⟩ := by rw [← hLL]; exact R4
      exact back R4' (sl0.step st4' fun _ z => z)
    | true =>
      rw [if_pos rfl]
      intro sC HC CC clC fpC
      refine he i y (((ys.take i).filter p).map f) hy hp sC HC CC clC fpC F4 α4 H4 σ3 _ R4 fun F5 α5 v5 H5 R5 st5 r5 => ?_
      have st5' : Stp F' α' (S1.L ++ [(nD, .fl (((ys.take i).filter p).map f))]) F5 α5 := st4'.trans ⟨st5.fro, fun n hn' => st5.nm n (by rw [hLL]; exact hn')⟩ fun _ z => z
      have R5' : RelX X B F5 α5 H5 σ3 ⟨(Sx i y (((ys.take i).filter p).map f)).ρ, S1.L ++ [(nD, .fl (((ys.take i).filter p).map f))]⟩ := by rw [← hLL]; exact R5
      obtain ⟨q0, q1, vs5, e5, rs5⟩ := R5'.live nD _ (List.mem_append_right _ (List.mem_singleton.mpr rfl))
      have nm5 : α5 nD = D := by rw [st5'.nm nD (by rw [names_append]; exact List.mem_append_right _ (List.mem_singleton.mpr rfl)), nmD]
      have gl := getL_app (o := .fl (((ys.take i).filter p).map f)) hn
      have sl : ∀ (acc : List Nz.D), setL nD (.fl acc) (S1.L ++ [(nD, LO.fl (((ys.take i).filter p).map f))]) = S1.L ++ [(nD, .fl acc)] := fun acc => setL_app hn
      rw [nm5] at e5
      have e2 : ((ys.take (i + 1)).filter p).map f = ((ys.take i).filter p).map f ++ [f y] := by rw [tk, List.filter_append, List.map_append]; simp [hp]
      have lenv : vs5.length < sizeLine := by
        rw [← rs5.length, List.length_map]
        have := List.length_filter_le p (ys.take i)
        rw [List.length_take] at this
        omega
      refine ⟨vs5, e5, lenv, F5, α5, ?_, full (acc := []) st5'.fro st5'.nm⟩
      have Rp := R5'.put (n := nD) (u := .fl (((ys.take i).filter p).map f ++ [f y])) (o' := .lst (vs5 ++ [v5])) (getL_mem gl) ⟨vs5 ++ [v5], upd_same, rs5.append (.cons r5 .nil)⟩
      rw [nm5] at Rp
      rw [e2]
      have Rp' : RelX X B F5 α5 (upd H5 D (.lst (vs5 ++ [v5]))) σ3 ⟨(Sx i y (((ys.take i).filter p).map f)).ρ, S1.L ++ [(nD, .fl (((ys.take i).filter p).map f ++ [f y]))]⟩ := by rw [← sl]; exact Rp
      refine back Rp' (sl0.step (L' := S1.L ++ [(nD, .fl (((ys.take i).filter p).map f ++ [f y]))]) st5' fun n hn' => by rw [names_append] at hn' ⊢; exact hn')
  · have e1 : i = ys.length := by omega
    subst e1
    refine .inl ⟨j.stop B F' α' H' _ _ _ R' sm (by rw [List.length_map]; exact Nat.le_refl _), ?_⟩
    rw [List.take_length] at R'
    have stA : Stp F1 α1 S1.L F' α' := stn.trans ⟨st'.fro, fun n hn' => st'.nm n (Sub.app n hn')⟩ fun _ z => z
    have R6 : RelX X B F' α' H' σ ⟨S1.ρ, S1.L ++ [(nD, .fl ((ys.filter p).map f))]⟩ := ⟨R'.sub, R'.bF, R'.nF, R'.frame, R'.nd, R'.inj, R'.live, R1.slots.step (L' := S1.L ++ [(nD, .fl ((ys.filter p).map f))]) stA fun n hn' => Sub.app n hn', R'.fix⟩
    have := k F' α' H' R6 (st1.trans stA hS)
    rw [nmD] at this
    exact this
section
variable {τ : Type} {ys : List τ} {enc : τ → D}
theorem ex_setLcL (i : Nat) {y : Str} {py spos : Pos} {K : Out → Prop} (nD : Nat) (ys : List τ) (enc : τ → D) (f : τ → D) (p : τ → Bool) (Sx : Nat → τ → List D → Nz.S) (hc : X.calm = true) (hN : X.N.Nodup) (hy : X.N[i]? = some y) (hyl : X.env.scope.names.lookup y = some .local)
    (hsw : swapsWith (.ListComp elt [⟨tg, iter, ifs, 0⟩] scope pos) (some (.Name y py)) spos.line X.env = pure true) (ok : BlkOk X.N X.env.scope scope own)
    (hsrc : Src X B tg iter S (ys.map enc) S1) (hn : nD ∉ names S1.L) (h100 : 100 ≤ nD) (hz : ys.length ≤ sizeLine) (hL : ∀ i y acc, (Sx i y acc).L = S1.L ++ [(nD, .fl acc)])
    (hg : ∀ i y acc, ys[i]? = some y → ∀ s H0 C cl fp, EgC (Blk X scope s H0 C cl fp) B tg (.fr (enc y)) ⟨wipeC S1.ρ (own.map (·.2)), S1.L ++ [(nD, .fl acc)]⟩ (Sx i y acc) (own.map (·.2)))
    (ht : ∀ i y acc, ys[i]? = some y → ∀ s H0 C cl fp, Ets (Blk X scope s H0 C cl fp) B ifs (Sx i y acc) (p y))
    (he : ∀ i y acc, ys[i]? = some y → p y = true → ∀ s H0 C cl fp, Ev (Blk X scope s H0 C cl fp) B elt (Sx i y acc) (.fr (f y)) (Sx i y acc))
    (k : K (.nx (setS ⟨S1.ρ, S1.L ++ [(nD, .fl ((ys.filter p).map f))]⟩ i (.ad nD)))) (hS : Sub S.L S1.L := by exact Sub.refl) (hs : ∀ x, foldedSetIterable iter X.env x = pure x := by intro _; rfl) :
    Ex X B (.Assign [.Name y py] (.ListComp elt [⟨tg, iter, ifs, 0⟩] scope pos) spos) S K :=
  fun F α H σ D R o => wS.of (ps_setLc hc hN hy hyl hsw pi_w ok (fun s H0 C cl fp => ⟨fun pins s1 σ1 H1 v u Q1 I r h => h s H0 C cl fp pins s1 u I r⟩) (fun s H0 C cl fp => ⟨fun pins s1 σ1 H1 Q1 I h => h s H0 C cl fp pins s1 I⟩) (fun s H0 C cl fp => ⟨fun pins s1 σ1 H1 Q1 I h => h s H0 C cl fp pins s1 I⟩) hs)
    (lc_readingL nD f p Sx hsrc hn h100 hz hL hg ht he F α H σ _ R hS fun F' α' H' R' st => o.nx _ F' α' H' _ k (R'.setS (S := ⟨S1.ρ, S1.L ++ [(nD, .fl ((ys.filter p).map f))]⟩) (c := .ad nD) ⟨by rw [names_append]; exact List.mem_append_right _ (List.mem_singleton.mpr rfl), rfl⟩) st.fro)
end
end
end Nz
namespace Nz
open PySem PySem.Spec PyProof.Rows L2
section
variable {X : Cx} {B : Bd} {S S1 S2 : Nz.S} {a b e o tg : Expr} {es : List Expr} {pos apos p q : Pos} {d1 : D} {c2 : Ce} {τ : Type} {enc : τ → D} {n : Nat}
/-- xs[i] = v, typed -/
theorem ex_setIT {K : Out → Prop} (n : Nat) {i : Int} {xs : List τ} (v : τ) {d : D} (hd : d = enc v) (hl : getL n S1.L = some (.fl (xs.map enc))) (h0 : 0 ≤ i) (h1 : i < xs.length) (he : Ev X B e S (.fr d) S1) (ho : Ev X B o S1 (.ad n) S1) (hi : Ev X B a S1 (.fr (.int i)) S1)
    (k : K (.nx ⟨S1.ρ, setL n (.fl ((xs.set i.toNat v).map enc)) S1.L⟩)) (hs : swapsWithSole [.Subscript o a p] e pos.line X.env = pure false := by rfl) (hw : swappedStores [.Subscript o a p] e X.env = pure none := by rfl)
    (h2 : (assignEach [.Subscript o a p] X.env).map (·.2) = [assign (.Subscript o a p) X.env] := by rfl)
    (hsub : ∀ v, assign (.Subscript o a p) X.env v = (do
      let ov ← holding [v] (eval o X.env)
      let iv ← holding [v, ov] (eval a X.env)
      standAt p
      holding [v, ov, iv] (setItem ov iv v)
      release [v, ov, iv] []) := by intro _; rfl) : Ex X B (.Assign [.Subscript o a p] e pos) S K := by
  subst hd
  refine ex_setI n he ho hi hl h0 (by rw [List.length_map]; exact h1) ?_ hs hw h2 hsub
  rw [← List.map_set]; exact k
end
section
variable {X : Cx} {B : Bd} {S S1 : Nz.S} {elt tg iter a : Expr} {scope : Scope} {own : List (Str × Nat)} {pos : Pos} {K : Out → Prop} {τ μ : Type} {ys : List τ} {enc : τ → D} {enc2 : μ → D}
theorem ex_setLcML (i : Nat) {y : Str} {py spos : Pos} (nD : Nat) (g : τ → μ) (Sx : Nat → τ → List D → Nz.S) (hc : X.calm = true) (hN : X.N.Nodup) (hy : X.N[i]? = some y) (hyl : X.env.scope.names.lookup y = some .local)
    (hsw : swapsWith (.ListComp elt [⟨tg, iter, [], 0⟩] scope pos) (some (.Name y py)) spos.line X.env = pure true) (ok : BlkOk X.N X.env.scope scope own)
    (hsrc : Src X B tg iter S (ys.map enc) S1) (hn : nD ∉ names S1.L) (h100 : 100 ≤ nD) (hz : ys.length ≤ sizeLine)
    (hg : ∀ i y acc, ys[i]? = some y → ∀ s H0 C cl fp, EgC (Blk X scope s H0 C cl fp) B tg (.fr (enc y)) ⟨wipeC S1.ρ (own.map (·.2)), S1.L ++ [(nD, .fl acc)]⟩ (Sx i y acc) (own.map (·.2)))
    (he : ∀ i y acc, ys[i]? = some y → ∀ s H0 C cl fp, Ev (Blk X scope s H0 C cl fp) B elt (Sx i y acc) (.fr (enc2 (g y))) (Sx i y acc))
    (k : K (.nx (setS ⟨S1.ρ, S1.L ++ [(nD, .fl ((ys.map g).map enc2))]⟩ i (.ad nD)))) (hL : ∀ i y acc, (Sx i y acc).L = S1.L ++ [(nD, .fl acc)] := by exact fun _ _ _ => rfl) (hS : Sub S.L S1.L := by exact Sub.refl) (hs : ∀ x, foldedSetIterable iter X.env x = pure x := by intro _; rfl) :
    Ex X B (.Assign [.Name y py] (.ListComp elt [⟨tg, iter, [], 0⟩] scope pos) spos) S K :=
  ex_setLcL i nD ys enc (fun y => enc2 (g y)) (fun _ => true) Sx hc hN hy hyl hsw ok hsrc hn h100 hz hL hg (fun _ _ _ _ _ _ _ _ _ => ets_nil) (fun i y acc h1 _ => he i y acc h1) (by
    rw [lm_map]; exact k) hS hs
end
end Nz
namespace Nz
open PySem PySem.Spec PyProof.Rows L2
end Nz
namespace Nz
theorem rng_lt {n i y : Nat} (h : (List.range n)[i]? = some y) : y < n := List.mem_range.mp (List.mem_of_getElem? h)
end Nz
namespace Nz
open PySem PySem.Spec PyProof.Rows L2
end Nz
namespace Nz
theorem small_log {i : Int} (h : -1000000 ≤ i ∧ i ≤ 1000000) : i.natAbs.log2 < 1920 := by
  by_cases h0 : i.natAbs = 0
  · rw [h0]; decide
  · have h1 : i.natAbs < 2 ^ 20 := by
      have : (2 : Nat) ^ 20 = 1048576 := by decide
      omega
    have := (Nat.log2_lt h0).mpr h1
    omega
end Nz
namespace Nz
theorem some_of3 {τ : Type} {y : Option τ} {b : Bool} (h : ¬ ¬ ((y.isSome && b) = true)) : y.isSome = true := by
  have := Classical.not_not.mp h
  rw [Bool.and_eq_true] at this
  exact this.1
theorem some_of4 {τ : Type} {y : Option τ} {b : Bool} {q : Prop} (h : ¬ ((¬ ((y.isSome && b) = true)) ∨ q)) : y.isSome = true := some_of3 fun z => h (.inl z)
theorem some_of5 {τ : Type} {y : Option τ} {b : Bool} {q : Prop} (h : ((y.isSome && b) = true)) : y.isSome = true := some_of3 fun z => z h
end Nz
namespace Nz
/-- from the test of a while -/
theorem some_ofW {τ : Type} {y : Option τ} (h : (!y.isNone) = true) : y.isSome = true := by
  cases y with
  | none => exact absurd h (by simp)
  | some z => rfl
end Nz
namespace Nz
open PySem PySem.Spec PyProof.Rows L2
end Nz
namespace Nz
open PySem PySem.Spec PyProof.Rows L2
end Nz
namespace Nz
open PySem PySem.Spec PyProof.Rows L2
section
variable {X : Cx} {B : Bd} {S S1 S2 S3 : Nz.S} {a e : Expr} {es : List Expr} {kws : List Keyword} {pos p kpos : Pos} {x : Str} {d : D} {ds es' dd : List D} {dv : List V} {mv : List Value} {c nm : Str} {fs : List (Str × D)} {C g f : Addr} {fd : FuncData} {ps ks : List Str} {k n : Nat} {sp : SpN}
/-- math.lcm -/
theorem cr_lcm : CallR X (.builtin "math.lcm") (fun vs H Q => ∃ a b : Int, vs = [.int a, .int b] ∧ a.natAbs < 2 ^ 64 ∧ b.natAbs < 2 ^ 64 ∧ Q (.int ((a.natAbs.lcm b.natAbs : Nat) : Int)) H) := by
  intro pins s σ H vs us Q I r h
  obtain ⟨i, j, rfl, h1, h2, q⟩ := h
  obtain ⟨t, u, rfl⟩ := Vals.int2 r
  exact PySem.W.mc_lcm h1 h2 fun _ => ⟨.int _, H, I.tok _, ⟨_, rfl⟩, q⟩
theorem c_lcm {i j : Int} (h1 : i.natAbs < 2 ^ 64) (h2 : j.natAbs < 2 ^ 64) : Cb X (.builtin "math.lcm") [.int i, .int j] (.int ((i.natAbs.lcm j.natAbs : Nat) : Int)) := .of cr_lcm fun B F α H σ S Q xs R rx k => by
  cases rx with | cons r rr => cases rr with | cons r2 rr => cases rr; cases r; cases r2; exact ⟨i, j, rfl, h1, h2, k F α _ H R Stp.refl (.int _)⟩
end
end Nz
namespace Nz
open PySem PySem.Spec PyProof.Rows L2
end Nz
namespace Nz
open PySem PySem.Spec PyProof.Rows L2
section
variable {K : Frag} {mg : Mg} {B : Bd} {F F' : Hp} {α : Nat → Addr} {H : Hp} {σ : L2.St} {S : Nz.S}
/-- the ground is moved up -/
def Bd.at (B : Bd) (F : Hp) : Bd := { B with F0 := F }
end
/-- // by any number but 0 -/
def CDivZ (_ j : Int) : Prop := j ≠ 0 ∧ j.natAbs.log2 < 9000
theorem fdivW_of {i j : Int} (h : j ≠ 0) (h2 : -(2 ^ 900) < j ∧ j < 2 ^ 900) : CDivZ i j := ⟨h, Nat.lt_of_lt_of_le (PySem.Flt.log2_lt_of (k := 900) (by decide) (by omega)) (by decide)⟩
end Nz
namespace PySem
open PySem.AutoSeq1
end PySem
namespace L2
open PySem PySem.Spec PyProof.Rows
end L2
namespace Nz
open PySem PySem.Spec PyProof.Rows L2
end Nz
namespace Nz
open PySem PySem.Spec PyProof.Rows L2
end Nz
namespace Nz
open PySem PySem.Spec PyProof.Rows L2
def nuC (m n : Nat) : Ce → Ce
  | .ad k => if k = m then .ad n else .ad k
  | .fr d => .fr d
  | .xv u => .xv u
def isFl : LO → Prop
  | .fl _ => True
  | _ => False
section
variable {K : Frag} {mg : Mg} {B : Bd} {F : Hp} {α : Nat → Addr} {H : Hp} {σ : L2.St} {L : List (Nat × LO)} {ρ : List (Option Ce)} {us : List D} {m n : Nat}
theorem slr_renum (hm : m ∉ names L) (hn : n ∈ names L) : ∀ {ρ : List (Option Ce)} {σ : L2.St}, SlR K mg F α (L ++ [(m, .fl us)]) ρ σ → (∀ c, some c ∈ ρ → c ≠ .ad n) → SlR K mg F (setα α n (α m)) (setL n (.fl us) L) (ρ.map (Option.map (nuC m n))) σ
  | _, _, .nil, _ => .nil
  | _, _, .no r, h => .no (slr_renum hm hn r fun c hc => h c (List.mem_cons_of_mem _ hc))
  | _, _, .so (c := c) (v := v) q r, h => by
    refine .so ?_ (slr_renum hm hn r fun c hc => h c (List.mem_cons_of_mem _ hc))
    cases c with
    | fr d => exact q
    | xv u => exact q
    | ad k =>
      obtain ⟨q1, q2⟩ := q
      by_cases e : k = m
      · subst e
        show CRel K mg F _ _ (if k = k then .ad n else .ad k) v
        rw [if_pos rfl]
        exact ⟨by rw [names_setL]; exact hn, by rw [q2]; show V.ref (α k) = V.ref (if n = n then α k else α n); rw [if_pos rfl]⟩
      · have hk : k ≠ n := fun z => h (.ad k) List.mem_cons_self (by rw [z])
        show CRel K mg F _ _ (if k = m then .ad n else .ad k) v
        rw [if_neg e]
        refine ⟨?_, by rw [q2]; show V.ref (α k) = V.ref (if k = n then α m else α k); rw [if_neg hk]⟩
        rw [names_setL]
        rw [names_append] at q1
        rcases List.mem_append.mp q1 with z | z
        · exact z
        · exact absurd (List.mem_singleton.mp z) e
theorem Rel.renum (R : Rel K mg B F α H σ ⟨ρ, L ++ [(m, .fl us)]⟩) (hn : n ∈ names L) (h100 : 100 ≤ n) (hρ : ∀ c, some c ∈ ρ → c ≠ .ad n) (hL : ∀ p ∈ L, isFl p.2) : Rel K mg B F (setα α n (α m)) H σ ⟨ρ.map (Option.map (nuC m n)), setL n (.fl us) L⟩ := by
  have nd := R.nd
  have hm : m ∉ names L := fun q => by
    rw [names_append, List.nodup_append] at nd
    exact nd.2.2 m q m (by simp) rfl
  have ndL : (names L).Nodup := by rw [names_append, List.nodup_append] at nd; exact nd.1
  have inA : ∀ {k}, k ∈ names L → k ∈ names (L ++ [(m, LO.fl us)]) := fun h => by rw [names_append]; exact List.mem_append_left _ h
  have inM : m ∈ names (L ++ [(m, LO.fl us)]) := by rw [names_append]; simp
  have aN : setα α n (α m) n = α m := if_pos rfl
  have aK : ∀ {k}, k ≠ n → setα α n (α m) k = α k := fun h => if_neg h
  refine ⟨R.sub, R.bF, R.nF, R.frame, by rw [names_setL]; exact ndL, fun a b ha hb e => ?_, fun k o h => ?_, slr_renum hm hn R.slots hρ, fun k a h hk => ?_⟩
  · rw [names_setL] at ha hb
    by_cases qa : a = n
    · by_cases qb : b = n
      · rw [qa, qb]
      · rw [qa, aN, aK qb] at e
        exact absurd (R.inj m b inM (inA hb) e ▸ hb) hm
    · by_cases qb : b = n
      · rw [qb, aN, aK qa] at e
        exact absurd (R.inj a m (inA ha) inM e ▸ ha) hm
      · rw [aK qa, aK qb] at e
        exact R.inj a b (inA ha) (inA hb) e
  · rcases mem_setL ndL h with ⟨rfl, rfl⟩ | ⟨hk, ho⟩
    · rw [aN]
      exact R.live m (.fl us) (List.mem_append_right _ (by simp))
    · rw [aK hk]
      obtain ⟨l1, l2, l3⟩ := R.live k o (List.mem_append_left _ ho)
      have := hL _ ho
      cases o with
      | fl ds => exact ⟨l1, l2, l3⟩
      | cl cs => exact this.elim
      | ins c fs => exact this.elim
      | dT kvs => exact this.elim
      | dK kvs => exact this.elim
  · have : k ≠ n := fun q => by subst q; rw [B.hpa k h100] at h; cases h
    rw [aK this]
    rw [names_setL] at hk
    exact R.fix k a h (inA hk)
end
section
variable {X : Cx} {B : Bd} {K : Out → Prop} {L : List (Nat × LO)} {ρ : List (Option Ce)} {us : List D}
theorem exs_renum {sts : List Stmt} (m n : Nat) (hn : n ∈ names L) (h100 : 100 ≤ n) (hρ : ∀ c, some c ∈ ρ → c ≠ .ad n) (hL : ∀ p ∈ L, isFl p.2) (h : Exs X B sts ⟨ρ.map (Option.map (nuC m n)), setL n (.fl us) L⟩ K) : Exs X B sts ⟨ρ, L ++ [(m, .fl us)]⟩ K := fun F α H σ D R o =>
  h F (setα α n (α m)) H σ D (Rel.renum R hn h100 hρ hL) o
end
/-- looked at by reckoning -/
def noAd (n : Nat) : List (Option Ce) → Bool
  | [] => true
  | some (.ad k) :: r => (k != n) && noAd n r
  | _ :: r => noAd n r
theorem noAd_ok {n : Nat} : ∀ {ρ : List (Option Ce)}, noAd n ρ = true → ∀ c, some c ∈ ρ → c ≠ .ad n
  | [], _, c, h => by cases h
  | none :: r, h, c, hc => by
    rcases List.mem_cons.mp hc with q | q
    · cases q
    · exact noAd_ok (ρ := r) h c q
  | some (.fr d) :: r, h, c, hc => by
    rcases List.mem_cons.mp hc with q | q
    · cases q; exact fun z => by cases z
    · exact noAd_ok (ρ := r) h c q
  | some (.xv u) :: r, h, c, hc => by
    rcases List.mem_cons.mp hc with q | q
    · cases q; exact fun z => by cases z
    · exact noAd_ok (ρ := r) h c q
  | some (.ad k) :: r, h, c, hc => by
    have h : ((k != n) && noAd n r) = true := h
    rw [Bool.and_eq_true] at h
    rcases List.mem_cons.mp hc with q | q
    · cases q; exact fun z => by cases z; simp at h
    · exact noAd_ok (ρ := r) h.2 c q
def flOnly : List (Nat × LO) → Bool
  | [] => true
  | (_, .fl _) :: r => flOnly r
  | _ :: _ => false
theorem flOnly_ok : ∀ {L : List (Nat × LO)}, flOnly L = true → ∀ p ∈ L, isFl p.2
  | [], _, p, h => by cases h
  | (k, .fl ds) :: r, h, p, hp => by
    rcases List.mem_cons.mp hp with q | q
    · cases q; trivial
    · exact flOnly_ok (L := r) h p q
  | (k, .cl _) :: r, h, _, _ => by cases h
  | (k, .ins _ _) :: r, h, _, _ => by cases h
  | (k, .dT _) :: r, h, _, _ => by cases h
  | (k, .dK _) :: r, h, _, _ => by cases h
theorem exs_renumB {X : Cx} {B : Bd} {K : Out → Prop} {L : List (Nat × LO)} {ρ : List (Option Ce)} {us : List D} {sts : List Stmt} (m n : Nat) (hn : n ∈ names L) (h100 : 100 ≤ n) (hρ : noAd n ρ = true) (hL : flOnly L = true) (h : Exs X B sts ⟨ρ.map (Option.map (nuC m n)), setL n (.fl us) L⟩ K) : Exs X B sts ⟨ρ, L ++ [(m, .fl us)]⟩ K :=
  exs_renum m n hn h100 (noAd_ok hρ) (flOnly_ok hL) h
end Nz
namespace Nz
open PySem PySem.Spec PyProof.Rows L2 NdefX
def okD (d : D) : Prop := (∃ i : Int, d = .int i ∧ i.natAbs.log2 < 1920) ∨ ∃ s : Str, d = .str s ∧ s.length ≤ 20000
theorem okD_int {i : Int} (h : -(2 ^ 900) < i ∧ i < 2 ^ 900) : okD (.int i) := .inl ⟨i, rfl, Nat.lt_of_lt_of_le (PySem.Flt.log2_lt_of (k := 900) (by decide) (by omega)) (by decide)⟩
theorem okD_str {s : Str} (h : s.length ≤ 20000) : okD (.str s) := .inr ⟨s, rfl, h⟩
/-- what the ground knows of the error -/
def ExD (K : Frag) (mg : Mg) (F : Hp) (fs : List (Str × D)) (d : Option Addr) : Prop := (fs = [] ∧ d = none) ∨ (fs ≠ [] ∧ ∃ dx vs, d = some dx ∧ F dx = some (.xd vs) ∧ RepF K mg F fs vs)
theorem ExD.mono {K : Frag} {mg : Mg} {F F' : Hp} {fs : List (Str × D)} {d : Option Addr} (h : ExD K mg F fs d) (s : Same F F') : ExD K mg F' fs d := by
  rcases h with h | ⟨h, dx, vs, h1, h2, h3⟩
  · exact .inl h
  · exact .inr ⟨h, dx, vs, h1, s _ _ h2, h3.mono s⟩
end Nz
namespace Nz
open PySem PySem.Spec PyProof.Rows L2
end Nz
namespace Nz
open PySem PySem.Spec PyProof.Rows L2
end Nz
namespace Nz
open PySem PySem.Spec PyProof.Rows L2
end Nz
namespace Nz
open PySem PySem.Spec PyProof.Rows L2
end Nz
namespace Nz
open PySem PySem.Spec PyProof.Rows L2
end Nz
namespace Nz
open PySem PySem.Spec PyProof.Rows L2
end Nz
namespace Nz
open PySem PySem.Spec PyProof.Rows L2
open AutoSeq1 (wpAny_loadPart')
open Sem (wp)
end Nz
namespace Nz
open PySem PySem.Spec PyProof.Rows L2
def IsG (t : Bool) (h : Heap) (a : Addr) (items : Array Value) : Prop := match t with | true => h.IsTuple a items | false => h.IsList a items
def ItG (t : Bool) (h : Heap) (it a : Addr) (i : Nat) : Prop := match t with | true => h.IsTupleIter it a i | false => h.IsListIter it a i
theorem ItG.at {t : Bool} {h h' : Heap} {it a : Addr} {i : Nat} (x : ItG t h it a i) (k : ∀ o, h.get? it = some o → h'.get? it = some o) : ItG t h' it a i := by
  cases t
  · exact Heap.IsListIter.at x k
  · exact Heap.IsTupleIter.at x k
theorem ItG.is {t : Bool} {h : Heap} {it a : Addr} {i : Nat} (x : ItG t h it a i) : ∃ o, h.get? it = some o ∧ ∀ v, o.data ≠ .cell v := by
  cases t
  · obtain ⟨o, e, _, d⟩ := x; exact ⟨o, e, fun v q => by rw [d] at q; cases q⟩
  · obtain ⟨o, e, _, d⟩ := x; exact ⟨o, e, fun v q => by rw [d] at q; cases q⟩
theorem IsG.at {t : Bool} {h h' : Heap} {a : Addr} {xs : Array Value} (x : IsG t h a xs) (k : ∀ o, h.get? a = some o → h'.get? a = some o) : IsG t h' a xs := by
  cases t
  · exact Heap.IsList.at x k
  · exact Heap.IsTuple.at x k
theorem IsG.lt {t : Bool} {h : Heap} {a : Addr} {xs : Array Value} (x : IsG t h a xs) : a < h.objs.size := by
  cases t
  · obtain ⟨o, e, _⟩ := x; exact Heap.lt_size e
  · obtain ⟨o, e, _⟩ := x; exact Heap.lt_size e
end Nz
namespace Nz
open PySem PySem.Spec PyProof.Rows L2
theorem Reps.repl {K : Frag} {mg : Mg} {F : Hp} {ds : List D} {vs : List V} (r : Reps K mg F ds vs) : ∀ k : Nat, Reps K mg F (List.replicate k ds).flatten (List.replicate k vs).flatten
  | 0 => .nil
  | k + 1 => by rw [List.replicate_succ, List.replicate_succ, List.flatten_cons, List.flatten_cons]; exact r.append (Reps.repl r k)
end Nz
namespace PySem
open AutoSeq1
theorem nz_rmul (a : Int) (t : Tok) (l : Addr) (items : Array Value) (n : Nat) (sl : Array (Option Value)) :
    Meets (Builtin.«int.__rmul__» ⟨[.int a t, .ref l], []⟩) (fun _ R s => s.heap.get? l = some { cls := .type "list", dict := none, data := .seq items n, slots := sl } ∧ R (.ok (.ret Value.notImplemented)) s) :=
  .of_wp fun prog w A R s h => by obtain ⟨hp, g, d, tk, os⟩ := s; obtain ⟨hl, h⟩ := h; wp_walk using wpAny_loadPart' hl; exact ⟨_, rfl, h⟩
theorem nz_lmul (l : Addr) (items : Array Value) (n : Nat) (sl : Array (Option Value)) (x : Int) (u : Tok) (hc0 : ¬(!Builtin.List.listFitsIndex x) = true) (hc1 : ¬items.size * x.toNat > (2 ^ 63 - 1) / 8) (hc2 : ¬Builtin.List.listTooLong (items.size * x.toNat) = true) :
    Meets (Builtin.«list.__mul__» ⟨[.ref l, .int x u], []⟩) (fun _ R s => s.heap.get? l = some { cls := .type "list", dict := none, data := .seq items n, slots := sl } ∧ R (.ok (.ret (Value.ref s.heap.objs.size))) { s with heap := s.heap.push { cls := Value.type "list", data := Data.seq (List.foldl (fun x1 x2 => x1 ++ x2) #[] (List.replicate (if items.isEmpty = true then 0 else x.toNat) items)) }, toks := s.toks }) :=
  .of_wp fun prog w A R s h => by
    obtain ⟨hp, g, d, tk, os⟩ := s; obtain ⟨hl, h⟩ := h
    have hsz := AutoListH.joined_fits hc2
    wp_walk using wpAny_loadPart' hl; refine wpAny_ite_false (decide_eq_false (Nat.not_lt.mpr hsz)) ?_; wp_walk using wpAny_loadPart' hl; exact ⟨_, rfl, h⟩
end PySem
namespace Nz
open PySem PySem.Spec PyProof.Rows L2
end Nz
namespace Nz
open PySem PySem.Spec PyProof.Rows L2
end Nz
namespace Nz
open PySem PySem.Spec PyProof.Rows L2
end Nz
namespace L2
open PySem PySem.Spec PyProof.Rows
end L2
namespace Nz
open PySem PySem.Spec PyProof.Rows L2
end Nz
namespace Nz
open PySem PySem.Spec PyProof.Rows L2 SkE TL
abbrev eD : D → D := fun d => d
end Nz
namespace L2
open PySem PySem.Spec PyProof.Rows
end L2
namespace Nz
open PySem PySem.Spec PyProof.Rows L2 SkE TL
end Nz
namespace Nz
open PySem PySem.Spec PyProof.Rows L2
end Nz
namespace Nz
open PySem PySem.Spec PyProof.Rows L2 SkE TL
end Nz
namespace Nz
open PySem PySem.Spec PyProof.Rows L2 SkE TL
end Nz
namespace Nz
open PySem PySem.Spec PyProof.Rows L2
end Nz
namespace Nz
open PySem PySem.Spec PyProof.Rows L2
end Nz
namespace Nz
open PySem PySem.Spec PyProof.Rows L2
end Nz
namespace Nz
open PySem PySem.Spec PyProof.Rows L2
end Nz
namespace Nz
open PySem PySem.Spec PyProof.Rows L2
end Nz
namespace Nz
open PySem PySem.Spec PyProof.Rows L2
end Nz
namespace Nz
open PySem PySem.Spec PyProof.Rows L2
end Nz
namespace Nz
open PySem PySem.Spec PyProof.Rows L2
end Nz
namespace Nz
open PySem PySem.Spec PyProof.Rows L2
end Nz
namespace Nz
open PySem PySem.Spec PyProof.Rows L2
end Nz
namespace Nz
open PySem PySem.Spec PyProof.Rows L2
end Nz
namespace Nz
open PySem PySem.Spec PyProof.Rows L2
end Nz
namespace Nz
open PySem PySem.Spec PyProof.Rows L2
end Nz
namespace Nz
open PySem PySem.Spec PyProof.Rows L2
end Nz
namespace Nz
open PySem PySem.Spec PyProof.Rows L2
theorem zip_no_len : typeLookup (.type "zip") "__len__" = pure none := by rw [typeLookup_type, builtinLookup_eq_fast]; kernel_rfl
theorem zip_no_hint : typeLookup (.type "zip") "__length_hint__" = pure none := by rw [typeLookup_type, builtinLookup_eq_fast]; kernel_rfl
/-- how a zip stands that gave out i pairs, all of them still held -/
def ZSt (z TI TO i1 i2 l1 l2 : Addr) (i : Nat) (h : Heap) : Prop :=
  IsPair h TI (.ref i1) (.ref i2) ∧ h.IsListIter i1 l1 i ∧ h.IsListIter i2 l2 i ∧ (∃ o, h.get? TO = some o) ∧
    ((IsZip h z TI TO .none ∧ ∃ x y, IsPair h TO x y) ∨ ∃ T f oT, IsZipHeld h z TI TO T f ∧ h.get? T = some oT ∧ T ∉ [z, TI, TO, i1, i2])
theorem ZSt.frame {z TI TO i1 i2 l1 l2 : Addr} {i : Nat} {h h' : Heap} {S : Addr} (st : ZSt z TI TO i1 i2 l1 l2 i h) (hS : S ∉ [z, TI, TO, i1, i2]) (hk : ∀ b o, b ≠ S → h.get? b = some o → h'.get? b = some o)
    (hS2 : ∀ o, h.get? S = some o → ∃ o', h'.get? S = some o') : ZSt z TI TO i1 i2 l1 l2 i h' := by
  obtain ⟨a1, a2, a3, ⟨oo, aO⟩, a4⟩ := st
  simp only [List.mem_cons, List.not_mem_nil, or_false, not_or] at hS
  obtain ⟨s1, s2, s3, s4, s5⟩ := hS
  refine ⟨hk _ _ (Ne.symm s2) a1, a2.at fun o e => hk _ o (Ne.symm s4) e, a3.at fun o e => hk _ o (Ne.symm s5) e, ⟨oo, hk _ _ (Ne.symm s3) aO⟩, ?_⟩
  rcases a4 with ⟨a, x, y, b⟩ | ⟨T, f, oT, a, b, c⟩
  · exact .inl ⟨hk _ _ (Ne.symm s1) a, x, y, hk _ _ (Ne.symm s3) b⟩
  · by_cases q : T = S
    · subst q
      obtain ⟨o', ho⟩ := hS2 _ b
      exact .inr ⟨T, f, o', hk _ _ (Ne.symm s1) a, ho, c⟩
    · exact .inr ⟨T, f, oT, hk _ _ (Ne.symm s1) a, hk _ _ q b, c⟩
/-- one more pair -/
theorem zst_item {prog : Program} {w : World} {A : Around} {E : Value → Shared → Prop} {s : Shared} {z TI TO i1 i2 l1 l2 : Addr} {i : Nat} {xs ys : Array Value} {x y : Value} {Q : Option Value → Shared → Prop} (D : ZipApart z TI TO i1 i2 l1 l2)
    (st : ZSt z TI TO i1 i2 l1 l2 i s.heap) (hl1 : s.heap.IsList l1 xs) (hl2 : s.heap.IsList l2 ys) (hx : xs[i]? = some x) (hy : ys[i]? = some y)
    (hQ : ∀ h', ZSt z TI TO i1 i2 l1 l2 (i + 1) h' → IsPair h' s.heap.objs.size x y → (∀ c o, c ∉ [z, TI, TO, i1, i2] → s.heap.get? c = some o → h'.get? c = some o) → Q (some (.ref s.heap.objs.size)) { s with heap := h' }) :
    wpAny (model prog w) A (pyNext (.ref z)) Q E s := by
  obtain ⟨a1, a2, a3, ⟨oo, aO⟩, a4⟩ := st
  have lTI := Heap.lt_size a1
  have lz : z < s.heap.objs.size := by
    rcases a4 with ⟨a, _⟩ | ⟨T, f, oT, a, _⟩ <;> exact Heap.lt_size a
  have l1' : i1 < s.heap.objs.size := by obtain ⟨_, e, _⟩ := a2; exact Heap.lt_size e
  have l2' : i2 < s.heap.objs.size := by obtain ⟨_, e, _⟩ := a3; exact Heap.lt_size e
  rcases a4 with ⟨a, x0, y0, b⟩ | ⟨T, f, oT, a, b, c⟩
  · have lTO := Heap.lt_size b
    refine wpAny_pyNext_zip_item D a a1 b a2 a3 hl1 hl2 hx hy fun h' b1 b2 b3 b4 b5 b6 b7 => hQ h' ⟨b7 _ _ D.TIz D.TITO D.TIi1 D.TIi2 a1, b3, b4, ⟨_, b2⟩, .inr ⟨_, false, _, b1, b5, ?_⟩⟩ b5 fun c o hc e => ?_
    · simp only [List.mem_cons, List.not_mem_nil, or_false, not_or]
      exact ⟨Nat.ne_of_gt lz, Nat.ne_of_gt lTI, Nat.ne_of_gt lTO, Nat.ne_of_gt l1', Nat.ne_of_gt l2'⟩
    · simp only [List.mem_cons, List.not_mem_nil, or_false, not_or] at hc
      exact b7 c o hc.1 hc.2.2.1 hc.2.2.2.1 hc.2.2.2.2 e
  · simp only [List.mem_cons, List.not_mem_nil, or_false, not_or] at c
    refine wpAny_pyNext_zip_item_held D a b a1 a2 a3 hl1 hl2 hx hy fun h' b1 b3 b4 b5 b6 b7 => hQ h' ⟨b7 _ _ D.TIz D.TIi1 D.TIi2 a1, b3, b4, ⟨oo, b7 _ _ D.TOz D.TOi1 D.TOi2 aO⟩, .inr ⟨T, true, oT, b1, b7 _ _ c.1 c.2.2.2.1 c.2.2.2.2 b, ?_⟩⟩ b5 fun c o hc e => ?_
    · simp only [List.mem_cons, List.not_mem_nil, or_false, not_or]
      exact c
    · simp only [List.mem_cons, List.not_mem_nil, or_false, not_or] at hc
      exact b7 c o hc.1 hc.2.2.2.1 hc.2.2.2.2 e
theorem zst_end {prog : Program} {w : World} {A : Around} {E : Value → Shared → Prop} {s : Shared} {z TI TO i1 i2 l1 l2 : Addr} {i : Nat} {xs ys : Array Value} {Q : Option Value → Shared → Prop} (hh : A.handled = none) (D : ZipApart z TI TO i1 i2 l1 l2)
    (st : ZSt z TI TO i1 i2 l1 l2 i s.heap) (hl1 : s.heap.IsList l1 xs) (hl2 : s.heap.IsList l2 ys) (hend : xs[i]? = none ∨ ys[i]? = none)
    (hQ : ∀ h', (∀ c o, c ∉ [z, TI, TO, i1, i2] → s.heap.get? c = some o → h'.get? c = some o) → Q none { s with heap := h' }) :
    wpAny (model prog w) A (pyNext (.ref z)) Q E s := by
  obtain ⟨a1, a2, a3, _, a4⟩ := st
  rcases a4 with ⟨a, x0, y0, b⟩ | ⟨T, f, oT, a, b, c⟩
  · refine wpAny_pyNext_zip_end hh D a a1 b a2 a3 hl1 hl2 hend fun h' b7 => hQ h' fun c o hc e => ?_
    simp only [List.mem_cons, List.not_mem_nil, or_false, not_or] at hc
    exact b7 c o hc.1 hc.2.2.1 hc.2.2.2.1 hc.2.2.2.2 e
  · refine wpAny_pyNext_zip_end_held hh D a b a1 a2 a3 hl1 hl2 hend fun h' b7 => hQ h' fun c o hc e => ?_
    simp only [List.mem_cons, List.not_mem_nil, or_false, not_or] at hc
    exact b7 c o hc.1 hc.2.2.2.1 hc.2.2.2.2 e
/-- what stands in a list of pairs that a zip gave -/
def PairsAt (xs ys : List V) (H0 H : Hp) (vs : List V) : Prop :=
  ∀ (j : Nat) (v : V), vs[j]? = some v → ∃ (T : Addr) (x y : V), v = V.ref T ∧ H0 T = none ∧ H T = some (.tup [x, y]) ∧ xs[j]? = some x ∧ ys[j]? = some y
theorem zip_loop {X : Cx} {pins : List (Addr × Obj)} {σ : L2.St} {A : Around} (hh : A.handled = none) {z TI TO i1 i2 l1 l2 S : Addr} (D : ZipApart z TI TO i1 i2 l1 l2) (hS : S ∉ [z, TI, TO, i1, i2]) {xs ys : List V} {H0 : Hp} (hn : min xs.length ys.length ≤ sizeLine) (q1 : SqL X.K H0 l1 xs) (q2 : SqL X.K H0 l2 ys) (res : Value) {R : Result → Shared → Prop} (hS0 : H0 S = none) (h05 : ∀ b ∈ [z, TI, TO, i1, i2], H0 b = none) :
    ∀ (k i : Nat) (s : Shared) (acc : List Value) (c : Nat) (H : Hp) (vs : List V), min xs.length ys.length - i = k → i ≤ min xs.length ys.length → Inv X pins σ H s → (∀ b ∈ [z, TI, TO, i1, i2], FpOk X pins H b) → ZSt z TI TO i1 i2 l1 l2 i s.heap →
    s.heap.get? S = some { cls := .type "list", dict := none, data := .seq acc.toArray c, slots := #[] } → Vals vs acc → H S = some (.lst vs) → vs.length = i → (∀ b o, H0 b = some o → H b = some o) → PairsAt xs ys H0 H vs →
    (∀ s' H' vs', Inv X pins σ H' s' → H' S = some (.lst vs') → vs'.length = min xs.length ys.length → (∀ b o, H0 b = some o → H' b = some o) → PairsAt xs ys H0 H' vs' → R (.ok (.ret res)) s') →
    codeAny (model X.prog X.w) A (.builtin "list.extend.loop" ⟨[.ref S, .ref z, res], []⟩) R s := by
  intro k
  induction k with
  | zero =>
    intro i s acc c H vs hk hi I hf st hSo hv hHS hl hE hP hR
    obtain ⟨its, rv, p1, _⟩ := I.list ((show Same H0 H from hE).seq q1)
    obtain ⟨its2, rv2, p2, _⟩ := I.list ((show Same H0 H from hE).seq q2)
    have e1 := rv.length
    have e2 := rv2.length
    have hen : its.toArray[i]? = none ∨ its2.toArray[i]? = none := by
      simp only [List.getElem?_toArray]
      rcases Nat.le_total xs.length ys.length with g | g
      · left; exact List.getElem?_eq_none (by omega)
      · right; exact List.getElem?_eq_none (by omega)
    refine codeAny_builtin F.entry_extend_loop ?_
    rw [Around.under_plainId F.plain_extend_loop _]
    show wpAny _ A.in1 (pyNext (.ref z) >>= _) _ _ s
    refine wpAny_bind (zst_end (A := A.in1) hh D st p1.isList p2.isList hen fun h' hk' => wpAny_pure ?_)
    refine hR { s with heap := h' } H vs (I.turnedL (t' := s.toks) (ch := [z, TI, TO, i1, i2]) hk' hf) hHS (by omega) hE hP
  | succ k ih =>
    intro i s acc c H vs hk hi I hf st hSo hv hHS hl hE hP hR
    obtain ⟨its, rv, p1, _⟩ := I.list ((show Same H0 H from hE).seq q1)
    obtain ⟨its2, rv2, p2, _⟩ := I.list ((show Same H0 H from hE).seq q2)
    have e1 := rv.length
    have e2 := rv2.length
    have g1 : i < xs.length := by omega
    have g2 : i < ys.length := by omega
    obtain ⟨u, hu, ru⟩ := rv.get (List.getElem?_eq_getElem g1)
    obtain ⟨u2, hu2, ru2⟩ := rv2.get (List.getElem?_eq_getElem g2)
    refine codeAny_builtin F.entry_extend_loop ?_
    rw [Around.under_plainId F.plain_extend_loop _]
    show wpAny _ A.in1 (pyNext (.ref z) >>= _) _ _ s
    refine wpAny_bind (zst_item (x := u) (y := u2) D st p1.isList p2.isList (by rw [List.getElem?_toArray]; exact hu) (by rw [List.getElem?_toArray]; exact hu2) fun h' st' hT hk' => ?_)
    have new : ObjOk X.prog X.w (upd H s.heap.objs.size (.tup [xs[i], ys[i]])) h' s.heap.objs.size (.tup [xs[i], ys[i]]) := ⟨show 2 ≤ sizeLine by decide, [u, u2], .cons ru (.cons ru2 .nil), ⟨_, hT, rfl, _, rfl⟩⟩
    have I1 : Inv X pins σ (upd H s.heap.objs.size (.tup [xs[i], ys[i]])) { s with heap := h' } := I.turnedNew (t' := s.toks) (ch := [z, TI, TO, i1, i2]) hk' hf (Nat.le_refl _) new
    have hTn : H s.heap.objs.size = none := I.hok.fresh (Nat.le_refl _)
    have hne : s.heap.objs.size ≠ S := fun e => by rw [e, hHS] at hTn; cases hTn
    have hS' := hk' S _ hS hSo
    have la := hv.length
    show wpAny _ A.in1 (updateSeq S (·.push (.ref s.heap.objs.size)) >>= _) _ _ _
    refine wpAny_bind ?_
    have hz1 : acc.toArray.size ≤ sizeLine := by rw [List.size_toArray]; omega
    refine wpAny_updateSeq (s := { s with heap := h' }) hS' rfl (wpAny_pure ⟨plainId_quiet F.plain_extend_loop _, ?_⟩) hz1 (by show (acc.toArray.push (.ref s.heap.objs.size)).size ≤ sizeLine + 1; rw [Array.size_push, List.size_toArray]; omega)
    have hSS := Heap.get?_update_self (Obj.mapSeq (·.push (Value.ref s.heap.objs.size))) hS' rfl
    have hv2 : Vals (vs ++ [V.ref s.heap.objs.size]) (acc ++ [Value.ref s.heap.objs.size]) := hv.append (.cons rfl .nil)
    have hHS1 : upd H s.heap.objs.size (.tup [xs[i], ys[i]]) S = some (.lst vs) := by rw [upd_ne (Ne.symm hne)]; exact hHS
    obtain ⟨c', hobj⟩ : ∃ c', (h'.update S (Obj.mapSeq (·.push (Value.ref s.heap.objs.size)))).get? S = some { cls := .type "list", dict := none, data := .seq (acc ++ [Value.ref s.heap.objs.size]).toArray c', slots := #[] } := by
      have h0 : ∃ c', (h'.update S (Obj.mapSeq (·.push (Value.ref s.heap.objs.size)))).get? S = some { cls := .type "list", dict := none, data := .seq (acc.toArray.push (Value.ref s.heap.objs.size)) c', slots := #[] } := ⟨_, hSS⟩
      obtain ⟨c', h0⟩ := h0
      exact ⟨c', by rw [h0, List.push_toArray]⟩
    have I2 : Inv X pins σ (upd (upd H s.heap.objs.size (.tup [xs[i], ys[i]])) S (.lst (vs ++ [.ref s.heap.objs.size]))) { s with heap := h'.update S (Obj.mapSeq (·.push (Value.ref s.heap.objs.size))) } :=
      I1.write (t' := s.toks) (by rw [hHS1]; trivial) (.inl rfl) (fun b o hb e => (Heap.get?_update_other _ _ (Ne.symm hb)).trans e) ⟨_, hSS⟩ ⟨by rw [List.length_append, List.length_singleton]; omega, _, _, hv2, hobj⟩
    have f5 : ∀ b ∈ [z, TI, TO, i1, i2], b ≠ S := fun b hb e => hS (e ▸ hb)
    have f6 : ∀ b ∈ [z, TI, TO, i1, i2], b ≠ s.heap.objs.size := fun b hb e => by
      have : b < s.heap.objs.size := by
        obtain ⟨a1, a2, a3, ⟨oo, aO⟩, a4⟩ := st
        have : b = z ∨ b = TI ∨ b = TO ∨ b = i1 ∨ b = i2 := by simpa using hb
        rcases this with rfl | rfl | rfl | rfl | rfl
        · rcases a4 with ⟨a, _⟩ | ⟨T, f, oT, a, _⟩ <;> exact Heap.lt_size a
        · exact Heap.lt_size a1
        · exact Heap.lt_size aO
        · obtain ⟨_, e, _⟩ := a2; exact Heap.lt_size e
        · obtain ⟨_, e, _⟩ := a3; exact Heap.lt_size e
      exact Nat.ne_of_lt this e
    refine ih (i + 1) _ (acc ++ [Value.ref s.heap.objs.size]) c' _ (vs ++ [V.ref s.heap.objs.size]) (by omega) (by omega) I2 (fun b hb => ?_) (st'.frame hS (fun b o hb e => (Heap.get?_update_other _ _ (Ne.symm hb)).trans e) fun o _ => ⟨_, hSS⟩) hobj hv2 upd_same (by rw [List.length_append, List.length_singleton, hl]) (fun b o e => ?_) (fun j v hj => ?_) hR
    · obtain ⟨y1, y2, y3, y4, y5, y6⟩ := hf b hb
      exact ⟨by rw [upd_ne (f5 b hb), upd_ne (f6 b hb)]; exact y1, y2, y3, y4, y5, y6⟩
    · have e1 := hE b o e
      rw [upd_ne (fun q => by rw [q, hS0] at e; cases e), upd_ne (ne_of_none e1 hTn)]
      exact e1
    · by_cases hj2 : j < vs.length
      · rw [List.getElem?_append_left hj2] at hj
        obtain ⟨T, x, y, r1, r2, r3, r4, r5⟩ := hP j v hj
        refine ⟨T, x, y, r1, r2, ?_, r4, r5⟩
        rw [upd_ne (fun q => by rw [q, hHS] at r3; cases r3), upd_ne (ne_of_none r3 hTn)]
        exact r3
      · have hj3 : j = vs.length := by
          have := (List.getElem?_eq_some_iff.mp hj).1
          rw [List.length_append, List.length_singleton] at this
          omega
        subst hj3
        rw [List.getElem?_append_right (Nat.le_refl _), Nat.sub_self] at hj
        cases hj
        refine ⟨s.heap.objs.size, xs[i], ys[i], rfl, ?_, ?_, by rw [hl]; exact List.getElem?_eq_getElem g1, by rw [hl]; exact List.getElem?_eq_getElem g2⟩
        · cases q : H0 s.heap.objs.size with
          | none => rfl
          | some o => rw [hE _ _ q] at hTn; cases hTn
        · rw [upd_ne hne, upd_same]
/-- list(zip(a, b)): the list of the pairs -/
def tListZip (K : Frag) (ta : TA) : TE := fun σ H Q => ta σ H fun vs H1 => ∃ a b xs ys, vs = [.ref a, .ref b] ∧ SqL K H1 a xs ∧ SqL K H1 b ys ∧ min xs.length ys.length ≤ sizeLine ∧
  ∀ (q : Addr) (H2 : Hp) (us : List V), H1 q = none → H2 q = some (.lst us) → us.length = min xs.length ys.length → (∀ b o, H1 b = some o → H2 b = some o) → PairsAt xs ys H1 H2 us → Q (.ref q) H2
theorem pe_listZip {X : Cx} {a b : Expr} {ta : TA} {p p2 pos pos2 : Pos} (hcm : X.calm = true) (hg : Gl X "list") (hm : X.mg "list" = none) (hg2 : Gl X "zip") (hm2 : X.mg "zip" = none) (ha : PA X [a, b] ta)
    (na : starEach [Expr.Call (.Name "zip" p2) [a, b] [] pos2] X.env = (false, eval (.Call (.Name "zip" p2) [a, b] [] pos2) X.env) :: starEach [] X.env := by rfl)
    (hs : starEach [a, b] X.env = (false, eval a X.env) :: starEach [b] X.env := by rfl) (hpl : (backTo pos2 (starEach [b] X.env)).any (·.1) = false := by rfl) :
    PE X (.Call (.Name "list" p) [.Call (.Name "zip" p2) [a, b] [] pos2] [] pos) (tListZip X.K ta) := by
  refine ⟨fun pins s σ H Q I h => ?_⟩
  refine Call_ (ld_blt I hg hm boot_list (PyProof.Rows.callWith_type1 (args_cons (thn (Q := fun (x : Value) (s' : Shared) => ∃ (N a b : Addr) (xs ys : List V) (H1 : Hp), x = Value.ref (N + 4) ∧ s'.heap.objs.size = N + 5 ∧ a < N ∧ b < N ∧ IsZip s'.heap (N + 4) (N + 2) (N + 3) .none ∧ IsPair s'.heap (N + 2) (.ref N) (.ref (N + 1)) ∧ (∃ u v, IsPair s'.heap (N + 3) u v) ∧ s'.heap.IsListIter N a 0 ∧ s'.heap.IsListIter (N + 1) b 0 ∧ Inv X pins σ H1 s' ∧ (∀ b ∈ [N + 4, N + 2, N + 3, N, N + 1], FpOk X pins H1 b) ∧
    SqL X.K H1 a xs ∧ SqL X.K H1 b ys ∧ min xs.length ys.length ≤ sizeLine ∧ ∀ (q : Addr) (H2 : Hp) (us : List V), H1 q = none → H2 q = some (.lst us) → us.length = min xs.length ys.length → (∀ b o, H1 b = some o → H2 b = some o) → PairsAt xs ys H1 H2 us → Q (.ref q) H2) ?_
      fun x s1 ⟨N, a, b, xs, ys, H1, ex, hsz, lta, ltb, z1, z2, z3, z4, z5, I1, hf, q1, q2, hn, q⟩ => args_nil ?_) na) na))
  · refine Call_ (ld_blt I hg2 hm2 PyProof.Rows.boot_zip (PyProof.Rows.callWith_type1 (thn (ha.run pos2 pins s σ H _ I h) fun us s1 ⟨vs, H1, I1, r1, q1⟩ => ?_) hs hpl))
    obtain ⟨a, b, xs, ys, e, hqx, hqy, hn, q⟩ := q1
    subst e
    cases r1 with
    | cons r rr =>
      cases rr with
      | cons r' rr =>
        cases rr
        cases r
        cases r'
        obtain ⟨its, rv, p1, _⟩ := I1.list hqx
        obtain ⟨its2, rv2, p2, _⟩ := I1.list hqy
        refine call_zip_2 p1.isList p2.isList fun h' hz hTI hTO h1 h2 hsz hk => ?_
        have I2 : Inv X pins σ H1 { s1 with heap := h' } := I1.kept (t' := s1.toks) hk
        refine ⟨s1.heap.objs.size, a, b, xs, ys, H1, rfl, hsz, p1.lt, p2.lt, hz, hTI, ⟨_, _, hTO⟩, h1, h2, I2, fun c hcm => ?_, hqx, hqy, hn, q⟩
        have hle : s1.heap.objs.size ≤ c := by
          rcases (show c = s1.heap.objs.size + 4 ∨ c = s1.heap.objs.size + 2 ∨ c = s1.heap.objs.size + 3 ∨ c = s1.heap.objs.size ∨ c = s1.heap.objs.size + 1 by simpa using hcm) with n | n | n | n | n <;> rw [n]
          · exact Nat.le_add_right _ _
          · exact Nat.le_add_right _ _
          · exact Nat.le_add_right _ _
          · exact Nat.le_refl _
          · exact Nat.le_add_right _ _
        exact I1.fpOk hle (I1.hok.fresh hle)
  · subst ex
    obtain ⟨u0, v0, z3⟩ := z3
    have hh : X.A.handled = none := I1.ok.hd hcm
    have D : ZipApart (N + 4) (N + 2) (N + 3) N (N + 1) a b := PySem.W.ktu_apart N a b lta ltb
    refine callType_codes (Q₁ := fun obj s₁ => obj = .ref s1.heap.objs.size ∧ s₁ = { s1 with heap := s1.heap.push { cls := .type "list", data := .seq #[] } }) F.called_list (F.typeCall_list_1 _) F.entry_list_init
      (code_list_new _ ⟨rfl, rfl⟩) fun obj s₁ h₁ => ?_
    obtain ⟨rfl, rfl⟩ := h₁
    have hS : (s1.heap.push { cls := .type "list", data := .seq #[] }).get? s1.heap.objs.size = some { cls := .type "list", data := .seq #[] } := Heap.get?_push_size _ rfl
    have hHn : H1 s1.heap.objs.size = none := I1.hok.fresh (Nat.le_refl _)
    refine ⟨⟨_, hS, rfl⟩, F.args_list_init_2 _ _, ?_⟩
    generalize hS0 : s1.heap.objs.size = S at *
    have hSm : S ∉ [N + 4, N + 2, N + 3, N, N + 1] := by simp only [List.mem_cons, List.not_mem_nil, or_false, not_or]; omega
    show wpAny _ _ (do let old ← Builtin.List.listItems (.ref S); Builtin.List.listUpdate (.ref S) (fun _ => #[]); letGo old.toList.reverse; Builtin.List.listExtendWith (.ref S) (.ref (N + 4)) .none) _ _ _
    refine wpAny_bind ?_
    unfold Builtin.List.listItems
    refine wpAny_bind (wpAny_seqItems hS rfl (wpAny_pure ?_))
    show wpAny _ _ (updateSeq S (fun _ => #[]) >>= fun _ => letGo (#[] : Array Value).toList.reverse >>= fun _ => Builtin.List.listExtendWith (.ref S) (.ref (N + 4)) .none) _ _ _
    refine wpAny_bind (wpAny_updateSeq hS rfl ?_)
    have hS₂ := Heap.get?_update_self (Obj.mapSeq (fun _ => (#[] : Array Value))) hS rfl
    refine wpAny_bind (wpAny_letGo ?_)
    generalize hg1 : (s1.heap.push { cls := .type "list", data := .seq #[] }).update S (Obj.mapSeq (fun _ => (#[] : Array Value))) = g1 at *
    have kp1 : ∀ b o, b ≠ S → s1.heap.get? b = some o → g1.get? b = some o := fun b o hb e => by rw [← hg1]; exact (Heap.get?_update_other _ _ (Ne.symm hb)).trans (Heap.get?_push_of_some _ e)
    have ne : ∀ {b o}, s1.heap.get? b = some o → b ≠ S := fun e => by rw [← hS0]; exact Nat.ne_of_lt (Heap.lt_size e)
    have zt : IsZip g1 (N + 4) (N + 2) (N + 3) .none := kp1 _ _ (ne z1) z1
    unfold Builtin.List.listExtendWith
    refine wpAny_bind (wpAny_typeOf (T := "zip") ⟨_, zt, rfl⟩ ?_)
    have h1 : Builtin.List.listSameRef (.ref S) (.ref (N + 4)) = false := by simp [Builtin.List.listSameRef]; exact fun q => (ne z1) q.symm
    have h2 : (Value.type "zip" == Value.type "list") = false := by decide
    have h3 : (Value.type "zip" == Value.type "tuple") = false := by decide
    simp only [h1, h2, h3, Bool.or_false, Bool.false_eq_true, if_false]
    refine wpAny_bind (wpAny_pyIter_zip zt ?_)
    refine wpAny_bind (wpAny_holding ?_)
    unfold Builtin.List.listLengthHint
    refine wpAny_bind (wpAny_specialOf (T := "zip") ⟨_, zt, rfl⟩ zip_no_len ?_)
    show wpAny _ _ (specialOf (Value.ref (N + 4)) (Str.ofString "__length_hint__") >>= _) _ _ _
    refine wpAny_bind (wpAny_specialOf (T := "zip") ⟨_, zt, rfl⟩ zip_no_hint ?_)
    refine wpAny_pure ?_
    show wpAny _ _ (rule "list.extend.makes-room" >>= fun _ => Builtin.List.listTouch (.ref S) >>= fun _ =>
      again (.builtin "list.extend.loop" ⟨[.ref S, .ref (N + 4), .none], []⟩)) _ _ _
    refine wpAny_bind (wpAny_rule ?_)
    refine wpAny_bind ?_
    show wpAny _ _ (updateSeq S (·.push .none) >>= fun _ => updateSeq S (·.pop)) _ _ _
    refine wpAny_bind (wpAny_updateSeq hS₂ rfl ?_)
    have hS₃ := Heap.get?_update_self (Obj.mapSeq (·.push Value.none)) hS₂ rfl
    refine wpAny_updateSeq (hz := by seq_fits) hS₃ rfl ?_
    have hS₄ := Heap.get?_update_self (Obj.mapSeq (·.pop)) hS₃ rfl
    generalize hg2 : (g1.update S (Obj.mapSeq (·.push Value.none))).update S (Obj.mapSeq (·.pop)) = g2 at *
    have kp2 : ∀ b o, s1.heap.get? b = some o → g2.get? b = some o := fun b o e => by rw [← hg2]; exact (Heap.get?_update_other _ _ (Ne.symm (ne e))).trans ((Heap.get?_update_other _ _ (Ne.symm (ne e))).trans (kp1 b o (ne e) e))
    have hS5 : g2.get? S = some { cls := .type "list", dict := none, data := .seq ([] : List Value).toArray _, slots := #[] } := hS₄
    have I2 : Inv X pins σ (upd H1 S (.lst [])) { s1 with heap := g2 } := I1.laid (t' := s1.toks) kp2 (by omega) ⟨Nat.zero_le _, [], _, .nil, hS5⟩
    refine wpAny_pure ⟨plainId_quiet F.plain_extend_loop _, ?_⟩
    refine zip_loop (H0 := H1) (A := X.A.in1) hh D hSm hn q1 q2 .none hHn (fun b hb => (hf b hb).1) _ 0 _ [] _ _ [] rfl (Nat.zero_le _) I2 (fun b hb => ?_) ⟨kp2 _ _ z2, z4.at fun o e => kp2 _ o e, z5.at fun o e => kp2 _ o e, ⟨_, kp2 _ _ z3⟩, .inl ⟨kp2 _ _ z1, u0, v0, kp2 _ _ z3⟩⟩ hS5 .nil upd_same rfl (fun b o e => by rw [upd_ne (ne_of_none e hHn)]; exact e) (fun j v hj => by simp at hj) fun s' H' vs' I' e1 e2 e3 e4 => ?_
    · obtain ⟨y1, y2, y3, y4, y5, y6⟩ := hf b hb
      exact ⟨by rw [upd_ne (fun q => hSm (by rw [← q]; exact hb))]; exact y1, y2, y3, y4, y5, y6⟩
    · exact ⟨rfl, .ref S, H', I', rfl, q S H' vs' hHn e1 e2 e3 e4⟩
section
variable {X : Cx} {B : Bd} {S S1 : Nz.S} {τ μ : Type} {enc : τ → D} {encB : μ → D}
theorem reps_pairs {K : Frag} {mg : Mg} {F : Hp} {xs : List τ} {ys : List μ} {us : List V} (hl : us.length = (xs.zip ys).length) (h : ∀ (j : Nat) (v : V) (p : τ × μ), us[j]? = some v → (xs.zip ys)[j]? = some p → Rep K mg F (eT2 enc encB p) v) : Reps K mg F ((xs.zip ys).map (eT2 enc encB)) us := by
  generalize xs.zip ys = zs at *
  induction zs generalizing us with
  | nil => cases us with
    | nil => exact .nil
    | cons u us => simp at hl
  | cons z zs ih => cases us with
    | nil => simp at hl
    | cons u us => exact .cons (h 0 u z rfl rfl) (ih (by simpa using hl) fun j v p e1 e2 => h (j + 1) v p (by simpa using e1) (by simpa using e2))
theorem ev_listZip {xs : List τ} {ys : List μ} {e e2 : Expr} {pos pos2 p p2 : Pos} (hcm : X.calm = true) (h : Ea X B [e, e2] S [.fr (eL enc xs), .fr (eL encB ys)] S1) (hn : xs.length ≤ sizeLine) (hg : Gl X "list") (hm : X.mg "list" = none) (hg2 : Gl X "zip") (hm2 : X.mg "zip" = none)
    (na : starEach [Expr.Call (.Name "zip" p2) [e, e2] [] pos2] X.env = (false, eval (.Call (.Name "zip" p2) [e, e2] [] pos2) X.env) :: starEach [] X.env := by rfl)
    (hs : starEach [e, e2] X.env = (false, eval e X.env) :: starEach [e2] X.env := by rfl) (hpl : (backTo pos2 (starEach [e2] X.env)).any (·.1) = false := by rfl) :
    Ev X B (.Call (.Name "list" p) [.Call (.Name "zip" p2) [e, e2] [] pos2] [] pos) S (.fr (eL (eT2 enc encB) (xs.zip ys))) S1 :=
  fun F α H σ Q R kk => wE.of (pe_listZip hcm hg hm hg2 hm2 pa_w na hs hpl) (h F α H σ _ R fun F1 α1 vs H1 R1 st1 r1 => by
    have r := CRels.fr (ds := [eL enc xs, eL encB ys]) r1
    cases r with
    | cons q rr =>
      cases rr with
      | cons q2 rr2 =>
        cases rr2
        cases q with
        | lst h1 h2 =>
          rename_i a vs
          cases q2 with
          | lst g1 g2 =>
            rename_i b us
            have l1 := h2.length
            have l2 := g2.length
            rw [List.length_map] at l1 l2
            refine ⟨a, b, vs, us, rfl, R1.sub.seq h1, R1.sub.seq g1, by omega, fun q H2 ws hq hq2 hl hE hP => ?_⟩
            have hFF : ∀ b o, F1 b = some o → H1 b = some o := fun b o e => R1.sub b o e
            have sF : Same F1 (fun b => if H1 b = none then H2 b else F1 b) := fun b o e => by
              have e1 := hFF b o e
              show (if H1 b = none then H2 b else F1 b) = some o
              rw [if_neg (by rw [e1]; simp)]
              exact e
            have R2 := R1.grow sF hE (H' := H2) (fun b o e => by
              by_cases z : H1 b = none
              · have e : (if H1 b = none then H2 b else F1 b) = some o := e
                rw [if_pos z] at e
                exact e
              · have e : (if H1 b = none then H2 b else F1 b) = some o := e
                rw [if_neg z] at e
                exact hE b o (hFF b o e)) fun b u e => by
              by_cases z : H1 b = none
              · exact .inr z
              · have e : (if H1 b = none then H2 b else F1 b) = some u := e
                rw [if_neg z] at e
                exact .inl e
            refine kk _ α1 _ H2 R2 ⟨st1.fro.trans sF, st1.nm⟩ (Rep.lst (vs := ws) (SqL.of ?_) (reps_pairs (by rw [hl, List.length_zip]; omega) fun j v p e1 e2 => ?_))
            · show (if H1 q = none then H2 q else F1 q) = _
              rw [if_pos hq]; exact hq2
            · obtain ⟨T, x, y, rfl, t0, t1, t2, t3⟩ := hP j v e1
              obtain ⟨z1, z2⟩ := List.getElem?_zip_eq_some.mp e2
              obtain ⟨v', hv, rv⟩ := h2.get (show (xs.map enc)[j]? = some (enc p.1) by rw [List.getElem?_map, z1]; rfl)
              obtain ⟨u', hu, ru⟩ := g2.get (show (ys.map encB)[j]? = some (encB p.2) by rw [List.getElem?_map, z2]; rfl)
              rw [hv] at t2
              rw [hu] at t3
              cases t2
              cases t3
              refine Rep.tup (vs := [x, y]) (SqT.of ?_) (.cons (rv.mono sF) (.cons (ru.mono sF) .nil))
              show (if H1 T = none then H2 T else F1 T) = _
              rw [if_pos t0]; exact t1)
/-- xs * k, a new list that lives -/
theorem ev_repN (m : Nat) {a b : Expr} {pos : Pos} {S2 : Nz.S} {xs : List τ} {k : Int} {ca : Ce} (ha : Ev X B a S ca S1) (hb : Ev X B b S1 (.fr (.int k)) S2) (hA : AsL S2.L ca (xs.map enc)) (h1 : -(2 ^ 63) ≤ k) (h2 : k < 2 ^ 63) (hz : xs.length * k.toNat ≤ sizeLine) (hn : m ∉ names S2.L) (h100 : 100 ≤ m)
    (g1 : Sub S.L S1.L := by exact Sub.refl) (g2 : Sub S1.L S2.L := by exact Sub.refl) : Ev X B (.BinOp a .Mult b pos) S (.ad m) ⟨S2.ρ, S2.L ++ [(m, .fl ((List.replicate k.toNat xs).flatten.map enc))]⟩ :=
  fun F α H σ Q R kk pins s I => by
    refine wpAny_BinOp (thn (ha F α H σ _ R (fun F1 α1 v1 H1 R1 st1 r1 => hb F1 α1 H1 σ (fun v2 H2 => ∃ F2 α2, RelX X B F2 α2 H2 σ S2 ∧ Stp F α S.L F2 α2 ∧ CR X F2 α2 S2.L ca v1 ∧ CR X F2 α2 S2.L (.fr (.int k)) v2) R1 fun F2 α2 v2 H2 R2 st2 r2 =>
      ⟨F2, α2, R2, st1.trans st2 g1, CRel.step st2 g2 r1, r2⟩) pins s I) fun v s1 ⟨x, H1, I1, rv, q1⟩ => thn (q1 pins s1 I1) fun u s2 ⟨y, H2, I2, ru, F2, α2, R2, st, r1, r2⟩ => ?_)
    cases r2
    obtain ⟨l, vs, rfl, hq, rs⟩ := R2.asL hA r1
    cases rv
    obtain ⟨t, rfl⟩ := ru
    obtain ⟨its, r, ⟨⟨cl, od, dt, sl⟩, n, e, c1, o1, t1⟩, z1⟩ := I2.list hq
    simp only at c1 o1 t1
    subst c1 o1 t1
    have hl := r.length
    have hl2 := rs.length
    rw [List.length_map] at hl2
    have hlen : its.toArray.size * k.toNat ≤ sizeLine := by rw [List.size_toArray, ← hl, ← hl2]; exact hz
    have hcap : ¬ its.toArray.size * k.toNat > (2 ^ 63 - 1) / 8 := by
      have : (sizeLine : Nat) ≤ (2 ^ 63 - 1) / 8 := by decide
      omega
    have hfit : ¬ (!Builtin.List.listFitsIndex k) = true := by
      rw [fitsIndex_both h1 h2]
      exact Bool.false_ne_true
    have hlong : ¬ Builtin.List.listTooLong (its.toArray.size * k.toNat) = true := by
      rw [notLongL hlen]
      exact Bool.false_ne_true
    have hnew : List.foldl (fun x1 x2 => x1 ++ x2) #[] (List.replicate (if its.toArray.isEmpty = true then 0 else k.toNat) its.toArray) = (List.replicate k.toNat its).flatten.toArray := by
      have f0 : ∀ m : Nat, List.foldl (fun x1 x2 => x1 ++ x2) #[] (List.replicate m its.toArray) = (List.replicate m its).flatten.toArray := fun m => by
        have := foldl_rep its m []
        rw [List.nil_append] at this
        exact this
      rw [f0]
      cases its with
      | nil => simp
      | cons a r' => rw [if_neg (by simp)]
    refine wpAny_binaryOp_repeat_ref (T := "list") (U := "int") (by decide) ⟨_, e, rfl⟩ (fun s' => typeIs_int s' k t) noFill_list_mul PySem.F.fills_int_mul PySem.F.slot_int_rmul repeat_list PySem.F.slot_int_index.lookup
      (call_meets PySem.F.slot_int_rmul (typeIs_int s2 k t) PySem.F.entry_int_rmul (PySem.F.args_int_rmul_2 _ _) (nz_rmul k t l its.toArray n sl)
        ⟨e, rfl, ⟨_, e, rfl⟩, call_meets PySem.F.slot_list_mul ⟨_, e, rfl⟩ PySem.F.entry_list_mul (PySem.F.args_list_mul_2 _ _) (nz_lmul l its.toArray n sl k t hfit hcap hlong) ⟨e, ?_⟩⟩)
    rw [hnew]
    have rr : Reps X.K X.mg F2 ((List.replicate k.toNat xs).flatten.map enc) (List.replicate k.toNat vs).flatten := by
      have : (List.replicate k.toNat xs).flatten.map enc = (List.replicate k.toNat (xs.map enc)).flatten := by rw [List.map_flatten, List.map_replicate]
      rw [this]
      exact Reps.repl rs k.toNat
    refine ⟨.ref _, _, I2.lnew (t' := s2.toks) (r.rep k.toNat) (by rw [PyProof.Rows.lm_len_rep_flat, Nat.mul_comm, ← hl2]; exact hz), rfl, kk F2 (setα α2 m _) _ _ (R2.allocL I2.fresh hn h100 ⟨_, upd_same, rr⟩) (st.trans (stp_setα hn) fun n h => g2 n (g1 n h)) ⟨?_, ?_⟩⟩
    · rw [names_append]; exact List.mem_append_right _ (List.mem_singleton.mpr rfl)
    · show V.ref _ = V.ref (if m = m then _ else α2 m)
      rw [if_pos rfl]
end
end Nz
set_option maxRecDepth 100000
set_option maxHeartbeats 4000000
namespace My
open PySem PySem.Spec PyProof.Rows L2 Nz
def top (i : Nat) : Stmt := PySem.Challenge.pw_neverlate_k81_dominating_tables.main.body.getD i (.Pass ⟨0, 0, 0, 0⟩)
local macro_rules | `(tactic| walk_at "pad") => `(tactic| decide)
local macro_rules | `(tactic| walk_at "okd") => `(tactic| first | exact okD_int (by omega) | exact okD_str (by omega))
local macro_rules | `(tactic| walk_at "intt") => `(tactic| fail)
local macro_rules | `(tactic| walk_at "rep") => `(tactic| omega)
local macro_rules | `(tactic| walk_at "sdI") => `(tactic| omega)
local macro_rules | `(tactic| walk_at "sdN") => `(tactic| first | omega | (simp only [List.length_set]; omega))
local macro_rules | `(tactic| walk_at "lnl") => `(tactic| fail)
local macro_rules | `(tactic| walk_at "ext") => `(tactic| omega)
local macro_rules | `(tactic| walk_at "lcm") => `(tactic| omega)
local macro_rules | `(tactic| walk_at "fdivw") => `(tactic| exact fdivW_of (by omega) (by omega))
local macro_rules | `(tactic| walk_at "str") => `(tactic| (apply small_log; omega))
local macro_rules | `(tactic| walk_at "scan") => `(tactic| (unfold PySem.scanBound; omega))
local macro_rules | `(tactic| walk_at "mulw") => `(tactic| first | exact mulW_of (by omega) | with_reducible assumption)
local macro_rules | `(tactic| walk_at "divw") => `(tactic| first | exact divW_of (by omega) | with_reducible assumption)
local macro_rules | `(tactic| walk_at "some") => `(tactic| first | assumption | exact some_ofW (by assumption) | exact some_of (by assumption) | exact some_of2 (by assumption) | exact some_of3 (by assumption) | exact some_of4 (by assumption) | exact some_of5 (by assumption) | (simp_all; done))
local macro_rules | `(tactic| walk_at "mem") => `(tactic| first | assumption | exact minL_mem (by walk_at "ne") | exact maxL_mem (by walk_at "ne"))
local macro_rules | `(tactic| walk_at "sd") => `(tactic| first | omega | (have hyy := seq_range (by assumption); omega) | (have hyy := rng_lt (by assumption); omega) | (simp only [List.length_append, List.length_map, List.length_cons, List.length_nil, List.length_range, List.length_replicate] at *; omega) | decide | with_reducible assumption | exact Int.emod_nonneg _ (by omega) | exact Int.emod_lt_of_pos _ (by omega) | (constructor <;> omega) | (refine ⟨?_, ?_⟩ <;> omega))
local macro_rules | `(tactic| walk_at "mul") => `(tactic| first | exact Or.inl ⟨by omega, by omega⟩ | (have hyy := seq_range (by assumption); exact Or.inl ⟨by omega, by omega⟩) | exact Or.inr ⟨by omega, by omega⟩ | with_reducible assumption)
local macro_rules | `(tactic| walk_at "ne") => `(tactic| first | assumption | (intro h; subst h; contradiction) | (intro h; simp only [h, List.isEmpty_nil, not_true_eq_false] at *; done) | (intro h; have := congrArg List.length h; simp only [List.length_map, List.length_range, List.length_nil, List.length_append, List.length_cons] at this; omega) | (simp; done) | (intro h; simp [h] at *; done) | (intro h; simp [h] at *; omega))
local macro_rules | `(tactic| walk_at "pre") => `(tactic| first | omega | with_reducible assumption | (simp only [List.length_map]; omega) | (refine ⟨?_, ?_⟩ <;> first | omega | with_reducible assumption) | (refine ⟨?_, ?_, ?_⟩ <;> first | omega | with_reducible assumption) | (refine ⟨?_, ?_, ?_, ?_⟩ <;> first | omega | with_reducible assumption) | (have hyy := seq_range (by assumption); (repeat' apply And.intro) <;> omega))
abbrev s_law_row : Stmt := top 10
abbrev s_law_numbers : Stmt := top 11
abbrev s_sums : Stmt := top 3
abbrev s_least_supplies : Stmt := top 2
abbrev s_common_length : Stmt := top 5
abbrev s_first_shortage : Stmt := top 6
abbrev s_dominates : Stmt := top 7
abbrev s_supply_bound : Stmt := top 8
abbrev s_law_is_integer : Stmt := top 12
abbrev s_law_is_integero : Stmt := top 12
abbrev s_law_slot : Stmt := top 13
abbrev s_law_least : Stmt := top 14
abbrev s_law_tables : Stmt := top 15
abbrev s_law_bound : Stmt := top 16
abbrev s_law : Stmt := top 17
structure TX (P : Program) (K : Frag) (mg : Mg) where
  n_abs : mg "abs" = none
  n_bool : mg "bool" = none
  n_enumerate : mg "enumerate" = none
  n_int : mg "int" = none
  n_isinstance : mg "isinstance" = none
  n_len : mg "len" = none
  n_list : mg "list" = none
  n_max : mg "max" = none
  n_min : mg "min" = none
  n_range : mg "range" = none
  n_sum : mg "sum" = none
  n_tuple : mg "tuple" = none
  n_zip : mg "zip" = none
  x_lcm : mg "lcm" = some (.builtin "math.lcm")
  a_law_row : Addr
  d_law_row : FuncData
  F_law_row : Fun K "_law_row" "_law_row" s_law_row a_law_row d_law_row
  k_law_row : PySem.W.keepIn K (.ref a_law_row) = true
  m_law_row : mg "_law_row" = some (.ref a_law_row)
  b_law_row : Binds K d_law_row ["cell", "many"] []
  a_law_numbers : Addr
  d_law_numbers : FuncData
  F_law_numbers : Fun K "_law_numbers" "_law_numbers" s_law_numbers a_law_numbers d_law_numbers
  k_law_numbers : PySem.W.keepIn K (.ref a_law_numbers) = true
  m_law_numbers : mg "_law_numbers" = some (.ref a_law_numbers)
  b_law_numbers : Binds K d_law_numbers ["script", "many"] []
  a_sums : Addr
  d_sums : FuncData
  F_sums : Fun K "_sums" "_sums" s_sums a_sums d_sums
  k_sums : PySem.W.keepIn K (.ref a_sums) = true
  m_sums : mg "_sums" = some (.ref a_sums)
  b_sums : Binds K d_sums ["table"] []
  a_least_supplies : Addr
  d_least_supplies : FuncData
  F_least_supplies : Fun K "least_supplies" "least_supplies" s_least_supplies a_least_supplies d_least_supplies
  k_least_supplies : PySem.W.keepIn K (.ref a_least_supplies) = true
  m_least_supplies : mg "least_supplies" = some (.ref a_least_supplies)
  b_least_supplies : Binds K d_least_supplies ["table", "length"] []
  a_common_length : Addr
  d_common_length : FuncData
  F_common_length : Fun K "common_length" "common_length" s_common_length a_common_length d_common_length
  k_common_length : PySem.W.keepIn K (.ref a_common_length) = true
  m_common_length : mg "common_length" = some (.ref a_common_length)
  b_common_length : Binds K d_common_length ["one", "other"] []
  a_first_shortage : Addr
  d_first_shortage : FuncData
  F_first_shortage : Fun K "first_shortage" "first_shortage" s_first_shortage a_first_shortage d_first_shortage
  k_first_shortage : PySem.W.keepIn K (.ref a_first_shortage) = true
  m_first_shortage : mg "first_shortage" = some (.ref a_first_shortage)
  b_first_shortage : Binds K d_first_shortage ["one", "other"] []
  a_dominates : Addr
  d_dominates : FuncData
  F_dominates : Fun K "dominates" "dominates" s_dominates a_dominates d_dominates
  k_dominates : PySem.W.keepIn K (.ref a_dominates) = true
  m_dominates : mg "dominates" = some (.ref a_dominates)
  b_dominates : Binds K d_dominates ["one", "other"] []
  a_supply_bound : Addr
  d_supply_bound : FuncData
  F_supply_bound : Fun K "supply_bound" "supply_bound" s_supply_bound a_supply_bound d_supply_bound
  k_supply_bound : PySem.W.keepIn K (.ref a_supply_bound) = true
  m_supply_bound : mg "supply_bound" = some (.ref a_supply_bound)
  b_supply_bound : Binds K d_supply_bound ["table"] []
  a_law_is_integer : Addr
  d_law_is_integer : FuncData
  F_law_is_integer : Fun K "_law_is_integer" "_law_is_integer" s_law_is_integer a_law_is_integer d_law_is_integer
  k_law_is_integer : PySem.W.keepIn K (.ref a_law_is_integer) = true
  m_law_is_integer : mg "_law_is_integer" = some (.ref a_law_is_integer)
  b_law_is_integer : Binds K d_law_is_integer ["actual"] []
  a_law_is_integero : Addr
  d_law_is_integero : FuncData
  F_law_is_integero : Fun K "_law_is_integer" "_law_is_integer" s_law_is_integero a_law_is_integero d_law_is_integero
  k_law_is_integero : PySem.W.keepIn K (.ref a_law_is_integero) = true
  m_law_is_integero : mg "_law_is_integer" = some (.ref a_law_is_integero)
  b_law_is_integero : Binds K d_law_is_integero ["actual"] []
  a_law_slot : Addr
  d_law_slot : FuncData
  F_law_slot : Fun K "_law_slot" "_law_slot" s_law_slot a_law_slot d_law_slot
  k_law_slot : PySem.W.keepIn K (.ref a_law_slot) = true
  m_law_slot : mg "_law_slot" = some (.ref a_law_slot)
  b_law_slot : Binds K d_law_slot ["table", "slot"] []
  a_law_least : Addr
  d_law_least : FuncData
  F_law_least : Fun K "_law_least" "_law_least" s_law_least a_law_least d_law_least
  k_law_least : PySem.W.keepIn K (.ref a_law_least) = true
  m_law_least : mg "_law_least" = some (.ref a_law_least)
  b_law_least : Binds K d_law_least ["table", "length"] []
  a_law_tables : Addr
  d_law_tables : FuncData
  F_law_tables : Fun K "_law_tables" "_law_tables" s_law_tables a_law_tables d_law_tables
  k_law_tables : PySem.W.keepIn K (.ref a_law_tables) = true
  m_law_tables : mg "_law_tables" = some (.ref a_law_tables)
  b_law_tables : Binds K d_law_tables ["numbers"] []
  a_law_bound : Addr
  d_law_bound : FuncData
  F_law_bound : Fun K "_law_bound" "_law_bound" s_law_bound a_law_bound d_law_bound
  k_law_bound : PySem.W.keepIn K (.ref a_law_bound) = true
  m_law_bound : mg "_law_bound" = some (.ref a_law_bound)
  b_law_bound : Binds K d_law_bound ["table"] []
  a_law : Addr
  d_law : FuncData
  F_law : Fun K "law" "law" s_law a_law d_law
  k_law : PySem.W.keepIn K (.ref a_law) = true
  m_law : mg "law" = some (.ref a_law)
  b_law : Binds K d_law ["script"] []
  e_law : ∀ (s : Shared) (v : Value), BindsTo s d_law ⟨[v], []⟩ [("script", v)]
section
variable {P : Program} {w : World} {K : Frag} {mg : Mg} {base : Heap}
def m_law_row_l0 (cell : Int) (zs0 : (List Int) × Int) (zy0 : Nat) : (List Int) × Int :=
  if (((10 : Int) ^ ((18 : Int)).toNat) ≤ (if cell < 0 then -cell else cell)) then ((zs0.1 ++ [(zs0.2 % (1009 : Int))]), (zs0.2 / (1009 : Int))) else let mixed : Int := (((zs0.2 * (48271 : Int)) + ((((0 : Int) + (zy0 : Int)) + (1 : Int)) * (69621 : Int))) % (2147483647 : Int))
  let mixed : Int := (((mixed * (16807 : Int)) + ((271 : Int) * (((0 : Int) + (zy0 : Int)) + (3 : Int)))) % (2147483629 : Int))
  ((zs0.1 ++ [(mixed % (1009 : Int))]), zs0.2)
def m_law_row (cell : Int) (many : Int) : List Int :=
  let rest1 : Int := (if cell < 0 then -cell else cell)
  ((List.range (many).toNat).foldl (m_law_row_l0 cell) (([] : List Int), rest1)).1
theorem len_row (cell many : Int) : (m_law_row cell many).length = many.toNat := by
  have key : ∀ (n : Nat) (xs : List Nat) (s : List Int × Int), ((xs.foldl (m_law_row_l0 cell) s).1).length = s.1.length + xs.length := by
    intro _ xs
    induction xs with
    | nil => intro s; rfl
    | cons x r ih =>
      intro s
      rw [List.foldl_cons, ih]
      have : ((m_law_row_l0 cell s x).1).length = s.1.length + 1 := by
        unfold m_law_row_l0
        split <;> split <;> simp
      rw [this, List.length_cons]; omega
  have := key 0 (List.range (many).toNat) (([] : List Int), (if cell < 0 then -cell else cell))
  unfold m_law_row
  simpa using this
theorem mem_row (cell many : Int) : ∀ x ∈ m_law_row cell many, 0 ≤ x ∧ x ≤ 1008 := by
  have key : ∀ (xs : List Nat) (s : List Int × Int), (∀ x ∈ s.1, 0 ≤ x ∧ x ≤ 1008) → ∀ x ∈ ((xs.foldl (m_law_row_l0 cell) s).1), 0 ≤ x ∧ x ≤ 1008 := by
    intro xs
    induction xs with
    | nil => intro s h; exact h
    | cons y r ih =>
      intro s h
      rw [List.foldl_cons]
      refine ih _ ?_
      have app : ∀ (v : Int), 0 ≤ v ∧ v ≤ 1008 → ∀ x ∈ s.1 ++ [v], 0 ≤ x ∧ x ≤ 1008 := fun v hv x hx => by
        rcases List.mem_append.mp hx with hx | hx
        · exact h x hx
        · rw [List.mem_singleton.mp hx]; exact hv
      unfold m_law_row_l0
      split <;> split <;> exact app _ (by omega)
  unfold m_law_row
  exact key _ _ (fun x hx => absurd hx (by simp))
theorem sc_law_row : FnScope ["cell", "many", "row", "rest", "k", "mixed"] ["cell", "many"] (defScope s_law_row) := ⟨rfl, rfl, rfl, by decide +kernel, rfl, by decide +kernel, by decide +kernel⟩
def sp_law_row : SpN := fun zcs zL zKc => ∃ cell : Int, ∃ many : Int, zcs = [.fr (D.int cell), .fr (D.int many)] ∧ zL = [] ∧ (0 ≤ many ∧ many ≤ 1001) ∧ ∀ zL', zKc (.fr ((eL D.int) (m_law_row cell many))) zL'
theorem ok_law_row (T : TX P K mg) : FnOk P w K mg base CX0 1 T.a_law_row T.d_law_row ["cell", "many"] (SpOf K mg sp_law_row) := by
  refine T.F_law_row.okN sc_law_row (fun zcs zL zKc zh => by obtain ⟨cell, many, rfl, _⟩ := zh; rfl) fun zcdv zA zout zst zH zE zB zcs zL zKc zhr zh => ?_
  obtain ⟨cell, many, rfl, rfl, hpre, zk⟩ := zh
  have nd := sc_law_row.nd
  have hSL := sizeLine_eq
  show Exs _ _ _ ⟨[some (.fr (D.int cell)), some (.fr (D.int many)), none, none, none, none], []⟩ _
  refine exs_cons (ex_set 2 (ev_lstN 100 (enc := D.int) ([] : List Int) ea_nil rfl (by simp only [List.length_cons, List.length_nil]; decide) (by simp [names]) (by decide)) ?_ nd rfl (.inl rfl))
  show Exs _ _ _ ⟨[some (.fr (D.int cell)), some (.fr (D.int many)), some (.ad 100), none, none, none], [(100, .fl ((([] : List Int)).map D.int))]⟩ _
  refine exs_cons (ex_set 3 (ev_callB (ds := [D.int cell]) c_abs (ea_cons (ev_var 0 rfl (.inl rfl) rfl) ea_nil) (by exact rfl) T.n_abs (by decide +kernel)) ?_ nd rfl (.inl rfl))
  show Exs _ _ _ ⟨[some (.fr (D.int cell)), some (.fr (D.int many)), some (.ad 100), some (.fr (D.int (if cell < 0 then -cell else cell))), none, none], [(100, .fl ((([] : List Int)).map D.int))]⟩ _
  generalize zg_rest : (if cell < 0 then -cell else cell) = rest
  show Exs _ _ _ ⟨[some (.fr (D.int cell)), some (.fr (D.int many)), some (.ad 100), some (.fr (D.int rest)), none, none], [(100, .fl ((([] : List Int)).map D.int))]⟩ _
  refine exs_cons (ex_forF (enc := (fun i : Nat => D.int ((0 : Int) + (i : Int)))) (fun (zs0 : (List Int) × Int) => (⟨[some (.fr (D.int cell)), some (.fr (D.int many)), some (.ad 100), some (.fr (D.int zs0.2)), none, none], [(100, .fl ((zs0.1).map D.int))]⟩ : Nz.S)) (m_law_row_l0 cell) (([] : List Int), rest) (fun (zi0 : Nat) (zs0 : (List Int) × Int) => zs0.1.length ≤ zi0) (src_range1 (ea_cons (ev_var 1 rfl (.inl rfl) rfl) ea_nil) (by exact rfl) T.n_range (by walk_at "sd") (by walk_at "sd")) ⟨⟨.inr rfl, .inr rfl, .inr rfl, .inr rfl, .inl rfl, .inl rfl, trivial⟩, rfl⟩ (by simp) ?_ ?_ PassesOwn.never rfl)
  · intro zi0 zy0 zs0 zhy0 zq0
    skip
    have hi := (List.getElem?_eq_some_iff.mp zhy0).1
    simp only [List.length_range] at hi
    refine ⟨⟨[some (.fr (D.int cell)), some (.fr (D.int many)), some (.ad 100), some (.fr (D.int zs0.2)), some (.fr (D.int ((0 : Int) + (zy0 : Int)))), none], [(100, .fl ((zs0.1).map D.int))]⟩, (eg_name 4 nd rfl (.inl rfl)), ?_⟩
    refine exs_one (ex_ifP bd_d (et_cmp o_ge (ev_callB (ds := [D.int cell]) c_abs (ea_cons (ev_var 0 rfl (.inl rfl) rfl) ea_nil) (by exact rfl) T.n_abs (by decide +kernel)) (ev_bin (o_pow (by unfold CPow; decide)) ev_int ev_int) (nomark _)) (fun (zh1 : (((10 : Int) ^ ((18 : Int)).toNat) ≤ (if cell < 0 then -cell else cell))) => ?_) (fun (zh1 : ¬ (((10 : Int) ^ ((18 : Int)).toNat) ≤ (if cell < 0 then -cell else cell))) => ?_))
    · skip
      refine exs_cons (ex_expr (ev_appendT (n := 100) (enc := D.int) (xs := zs0.1) (xs0 := zs0.1) (zs0.2 % (1009 : Int)) rfl rfl rfl (by walk_at "sd") (ev_var 2 rfl (.inl rfl) rfl) (ev_bin (o_mod (by walk_at "sd")) (ev_var 3 rfl (.inl rfl) rfl) ev_int)) ?_)
      show Exs _ _ _ ⟨[some (.fr (D.int cell)), some (.fr (D.int many)), some (.ad 100), some (.fr (D.int zs0.2)), some (.fr (D.int ((0 : Int) + (zy0 : Int)))), none], [(100, .fl (((zs0.1 ++ [(zs0.2 % (1009 : Int))])).map D.int))]⟩ _
      refine exs_one (ex_set 3 (ev_bin (o_div (by walk_at "sd") (by walk_at "sd")) (ev_var 3 rfl (.inl rfl) rfl) ev_int) ?_ nd rfl (.inl rfl))
      have est : (m_law_row_l0 cell) zs0 zy0 = ((zs0.1 ++ [(zs0.2 % (1009 : Int))]), (zs0.2 / (1009 : Int))) := by simp only [m_law_row_l0, not_true_eq_false, not_false_eq_true, ↓reduceIte, ↓if_pos zh1]
      show Le _ _ ∧ _
      try rw [est]
      exact ⟨⟨⟨.inr rfl, .inr rfl, .inr rfl, .inr rfl, .inl rfl, .inl rfl, trivial⟩, rfl⟩, (by simp; omega)⟩
    · skip
      refine exs_cons (ex_set 5 (ev_bin (o_mod (by walk_at "sd")) (ev_bin o_add (ev_bin (o_mul (by walk_at "mul")) (ev_var 3 rfl (.inl rfl) rfl) ev_int) (ev_bin (o_mul (by walk_at "mul")) (ev_bin o_add (ev_var 4 rfl (.inl rfl) rfl) ev_int) ev_int)) ev_int) ?_ nd rfl (.inl rfl))
      show Exs _ _ _ ⟨[some (.fr (D.int cell)), some (.fr (D.int many)), some (.ad 100), some (.fr (D.int zs0.2)), some (.fr (D.int ((0 : Int) + (zy0 : Int)))), some (.fr (D.int (((zs0.2 * (48271 : Int)) + ((((0 : Int) + (zy0 : Int)) + (1 : Int)) * (69621 : Int))) % (2147483647 : Int))))], [(100, .fl ((zs0.1).map D.int))]⟩ _
      generalize zg_mixed : (((zs0.2 * (48271 : Int)) + ((((0 : Int) + (zy0 : Int)) + (1 : Int)) * (69621 : Int))) % (2147483647 : Int)) = mixed
      show Exs _ _ _ ⟨[some (.fr (D.int cell)), some (.fr (D.int many)), some (.ad 100), some (.fr (D.int zs0.2)), some (.fr (D.int ((0 : Int) + (zy0 : Int)))), some (.fr (D.int mixed))], [(100, .fl ((zs0.1).map D.int))]⟩ _
      refine exs_cons (ex_set 5 (ev_bin (o_mod (by walk_at "sd")) (ev_bin o_add (ev_bin (o_mul (by walk_at "mul")) (ev_var 5 rfl (.inl rfl) rfl) ev_int) (ev_bin (o_mul (by walk_at "mul")) ev_int (ev_bin o_add (ev_var 4 rfl (.inl rfl) rfl) ev_int))) ev_int) ?_ nd rfl (.inl rfl))
      show Exs _ _ _ ⟨[some (.fr (D.int cell)), some (.fr (D.int many)), some (.ad 100), some (.fr (D.int zs0.2)), some (.fr (D.int ((0 : Int) + (zy0 : Int)))), some (.fr (D.int (((mixed * (16807 : Int)) + ((271 : Int) * (((0 : Int) + (zy0 : Int)) + (3 : Int)))) % (2147483629 : Int))))], [(100, .fl ((zs0.1).map D.int))]⟩ _
      generalize zg_mixed1 : (((mixed * (16807 : Int)) + ((271 : Int) * (((0 : Int) + (zy0 : Int)) + (3 : Int)))) % (2147483629 : Int)) = mixed1
      show Exs _ _ _ ⟨[some (.fr (D.int cell)), some (.fr (D.int many)), some (.ad 100), some (.fr (D.int zs0.2)), some (.fr (D.int ((0 : Int) + (zy0 : Int)))), some (.fr (D.int mixed1))], [(100, .fl ((zs0.1).map D.int))]⟩ _
      refine exs_one (ex_expr (ev_appendT (n := 100) (enc := D.int) (xs := zs0.1) (xs0 := zs0.1) (mixed1 % (1009 : Int)) rfl rfl rfl (by walk_at "sd") (ev_var 2 rfl (.inl rfl) rfl) (ev_bin (o_mod (by walk_at "sd")) (ev_var 5 rfl (.inl rfl) rfl) ev_int)) ?_)
      have est : (m_law_row_l0 cell) zs0 zy0 = ((zs0.1 ++ [(mixed1 % (1009 : Int))]), zs0.2) := by subst zg_mixed1; subst zg_mixed; simp only [m_law_row_l0, not_true_eq_false, not_false_eq_true, ↓reduceIte, ↓if_neg zh1]
      show Le _ _ ∧ _
      try rw [est]
      exact ⟨⟨⟨.inr rfl, .inr rfl, .inr rfl, .inr rfl, .inl rfl, .inl rfl, trivial⟩, rfl⟩, (by simp; omega)⟩
  · intro zq0
    show Exs _ _ _ ⟨[some (.fr (D.int cell)), some (.fr (D.int many)), some (.ad 100), some (.fr (D.int (((List.range (many).toNat).foldl (m_law_row_l0 cell) (([] : List Int), rest)).2))), none, none], [(100, .fl ((((List.range (many).toNat).foldl (m_law_row_l0 cell) (([] : List Int), rest)).1).map D.int))]⟩ _
    refine exs_freezeT 100 (xs := ((List.range (many).toNat).foldl (m_law_row_l0 cell) (([] : List Int), rest)).1) (enc := D.int) (by exact rfl) ?_
    show Exs _ _ _ ⟨[some (.fr (D.int cell)), some (.fr (D.int many)), some (.fr ((eL D.int) (((List.range (many).toNat).foldl (m_law_row_l0 cell) (([] : List Int), rest)).1))), some (.fr (D.int (((List.range (many).toNat).foldl (m_law_row_l0 cell) (([] : List Int), rest)).2))), none, none], []⟩ _
    refine exs_one (ex_ret (ev_var 2 rfl (.inl rfl) rfl) ?_)
    have efin : m_law_row cell many = ((List.range (many).toNat).foldl (m_law_row_l0 cell) (([] : List Int), rest)).1 := by subst zg_rest; simp only [m_law_row, not_true_eq_false, not_false_eq_true, ↓reduceIte]
    rw [efin] at zk
    exact zk _
def m_law_numbers_l1 (zs1 : (List Int)) (zy1 : Int) : (List Int) :=
  (zs1 ++ [zy1])
def m_law_numbers_l0 (each : Int) (zs0 : (List Int)) (zy0 : Int) : (List Int) :=
  ((m_law_row zy0 each).foldl (m_law_numbers_l1) zs0)
def m_law_numbers_c2 (many : Int) (zs0 : (List Int)) : Bool := (decide ((zs0.length : Int) < many))
def m_law_numbers_w2 (many : Int) (zs0 : (List Int)) : (List Int) :=
  (zs0 ++ [(0 : Int)])
def m_law_numbers (script : List Int) (many : Int) : List Int :=
  let cells1 : List Int := (slcD script none (some (63 : Int)))
  let each1 : Int := ((1 : Int) + (many / (if (cells1.length : Int) > (1 : Int) then (cells1.length : Int) else (1 : Int))))
  (slcD (iterW (m_law_numbers_c2 many) (m_law_numbers_w2 many) ((many).toNat) (cells1.foldl (m_law_numbers_l0 each1) ([] : List Int))) none (some many))
theorem cut63_len (xs : List Int) : (slcD xs none (some (63 : Int))).length ≤ 63 := by
  unfold slcD
  rw [List.length_take, HT.sIx_none, show (63 : Int) = ((63 : Nat) : Int) from rfl, HT.sIx_nat]
  omega
theorem fold_app (xs s : List Int) : xs.foldl m_law_numbers_l1 s = s ++ xs := by
  induction xs generalizing s with
  | nil => simp
  | cons x r ih => rw [List.foldl_cons, ih]; unfold m_law_numbers_l1; simp
theorem fill_eq (many : Int) : ∀ (n : Nat) (s : List Int), (many - (s.length : Int)).toNat ≤ n → iterW (m_law_numbers_c2 many) (m_law_numbers_w2 many) n s = s ++ List.replicate (many - (s.length : Int)).toNat 0
  | 0, s, h => by
    have e : (many - (s.length : Int)).toNat = 0 := by omega
    rw [e]; simp [iterW]
  | n + 1, s, h => by
    unfold iterW
    by_cases hc : (s.length : Int) < many
    · have e : (many - (s.length : Int)).toNat = (many - ((s ++ [(0 : Int)]).length : Int)).toNat + 1 := by
        simp only [List.length_append, List.length_cons, List.length_nil]; omega
      rw [if_pos (by simpa [m_law_numbers_c2] using hc)]
      show iterW _ _ n (s ++ [(0 : Int)]) = _
      rw [fill_eq many n _ (by simp only [List.length_append, List.length_cons, List.length_nil] at e ⊢; omega), e, List.replicate_succ, List.append_assoc]
      rfl
    · have e : (many - (s.length : Int)).toNat = 0 := by omega
      rw [if_neg (by simpa [m_law_numbers_c2] using hc), e]; simp
theorem numbers_facts (script : List Int) (many : Int) (h0 : 0 ≤ many) : (m_law_numbers script many).length = many.toNat ∧ ∀ x ∈ m_law_numbers script many, 0 ≤ x ∧ x ≤ 1008 := by
  have key : ∀ (each : Int) (xs s : List Int), (∀ x ∈ s, 0 ≤ x ∧ x ≤ 1008) → ∀ x ∈ xs.foldl (m_law_numbers_l0 each) s, 0 ≤ x ∧ x ≤ 1008 := by
    intro each xs
    induction xs with
    | nil => intro s h; exact h
    | cons y r ih =>
      intro s h
      rw [List.foldl_cons]
      refine ih _ fun x hx => ?_
      unfold m_law_numbers_l0 at hx
      rw [fold_app] at hx
      rcases List.mem_append.mp hx with hx | hx
      · exact h x hx
      · exact mem_row _ _ x hx
  unfold m_law_numbers
  dsimp only
  generalize hS : (slcD script none (some (63 : Int))).foldl _ _ = S
  have hm : ∀ x ∈ S, 0 ≤ x ∧ x ≤ 1008 := by rw [← hS]; exact key _ _ _ (fun x hx => absurd hx (by simp))
  rw [fill_eq many _ S (by omega)]
  unfold slcD
  rw [HT.sIx_none, List.drop_zero]
  have hl : (S ++ List.replicate (many - (S.length : Int)).toNat (0 : Int)).length = S.length + (many - (S.length : Int)).toNat := by simp
  have e1 : HT.sIx (S ++ List.replicate (many - (S.length : Int)).toNat (0 : Int)).length (S ++ List.replicate (many - (S.length : Int)).toNat (0 : Int)).length (some many) = many.toNat := by
    obtain ⟨n, rfl⟩ := Int.eq_ofNat_of_zero_le h0
    rw [HT.sIx_nat, hl]
    omega
  rw [e1]
  refine ⟨by rw [List.length_take, hl]; omega, fun x hx => ?_⟩
  have hx := List.mem_of_mem_take hx
  rcases List.mem_append.mp hx with hx | hx
  · exact hm x hx
  · rw [(List.mem_replicate.mp hx).2]; omega
theorem sc_law_numbers : FnScope ["script", "many", "cells", "each", "numbers", "cell", "number"] ["script", "many"] (defScope s_law_numbers) := ⟨rfl, rfl, rfl, by decide +kernel, rfl, by decide +kernel, by decide +kernel⟩
def sp_law_numbers : SpN := fun zcs zL zKc => ∃ script : List Int, ∃ many : Int, zcs = [.fr ((eL D.int) script), .fr (D.int many)] ∧ zL = [] ∧ (script.length ≤ 63 ∧ 0 ≤ many ∧ many ≤ 1000) ∧ ∀ zL', zKc (.fr ((eL D.int) (m_law_numbers script many))) zL'
theorem ok_law_numbers (T : TX P K mg) : FnOk P w K mg base CX0 2 T.a_law_numbers T.d_law_numbers ["script", "many"] (SpOf K mg sp_law_numbers) := by
  have O_law_row := ok_law_row (P := P) (w := w) (base := base) T
  refine T.F_law_numbers.okN sc_law_numbers (fun zcs zL zKc zh => by obtain ⟨script, many, rfl, _⟩ := zh; rfl) fun zcdv zA zout zst zH zE zB zcs zL zKc zhr zh => ?_
  obtain ⟨script, many, rfl, rfl, hpre, zk⟩ := zh
  have nd := sc_law_numbers.nd
  have hSL := sizeLine_eq
  show Exs _ _ _ ⟨[some (.fr ((eL D.int) script)), some (.fr (D.int many)), none, none, none, none, none], []⟩ _
  refine exs_cons (ex_set 2 (ev_sliceT (enc := D.int) (xs := script) (by exact rfl) (ev_var 0 rfl (.inl rfl) rfl) eo_none (eo_some ev_int)) ?_ nd rfl (.inl rfl))
  show Exs _ _ _ ⟨[some (.fr ((eL D.int) script)), some (.fr (D.int many)), some (.fr ((eL D.int) (slcD script none (some (63 : Int))))), none, none, none, none], []⟩ _
  generalize zg_cells : (slcD script none (some (63 : Int))) = cells
  show Exs _ _ _ ⟨[some (.fr ((eL D.int) script)), some (.fr (D.int many)), some (.fr ((eL D.int) cells)), none, none, none, none], []⟩ _
  have hcl : cells.length ≤ 63 := by rw [← zg_cells]; exact cut63_len script
  refine exs_cons (ex_set 3 (ev_bin o_add ev_int (ev_bin (o_div (by walk_at "sd") (by walk_at "sd")) (ev_var 1 rfl (.inl rfl) rfl) (ev_callB (ds := [D.int (1 : Int), D.int (cells.length : Int)]) (c_max2 rfl) (ea_cons ev_int (ea_cons (ev_len (ln_L (xs := cells) (enc := D.int) (by exact rfl)) (ev_var 2 rfl (.inl rfl) rfl) (by exact rfl) T.n_len) ea_nil)) (by exact rfl) T.n_max (by decide +kernel)))) ?_ nd rfl (.inl rfl))
  show Exs _ _ _ ⟨[some (.fr ((eL D.int) script)), some (.fr (D.int many)), some (.fr ((eL D.int) cells)), some (.fr (D.int ((1 : Int) + (many / (if (cells.length : Int) > (1 : Int) then (cells.length : Int) else (1 : Int)))))), none, none, none], []⟩ _
  generalize zg_each : ((1 : Int) + (many / (if (cells.length : Int) > (1 : Int) then (cells.length : Int) else (1 : Int)))) = each
  show Exs _ _ _ ⟨[some (.fr ((eL D.int) script)), some (.fr (D.int many)), some (.fr ((eL D.int) cells)), some (.fr (D.int each)), none, none, none], []⟩ _
  have heach : 1 ≤ each ∧ each ≤ 1001 := by rw [← zg_each]; split <;> (constructor <;> first | omega | (have := Int.ediv_le_self (cells.length : Int) hpre.2.1; have := Int.ediv_nonneg hpre.2.1 (show (0:Int) ≤ (cells.length : Int) by omega); omega))
  refine exs_cons (ex_set 4 (ev_lstN 100 (enc := D.int) ([] : List Int) ea_nil rfl (by simp only [List.length_cons, List.length_nil]; decide) (by simp [names]) (by decide)) ?_ nd rfl (.inl rfl))
  show Exs _ _ _ ⟨[some (.fr ((eL D.int) script)), some (.fr (D.int many)), some (.fr ((eL D.int) cells)), some (.fr (D.int each)), some (.ad 100), none, none], [(100, .fl ((([] : List Int)).map D.int))]⟩ _
  refine exs_cons (ex_forF (enc := D.int) (fun (zs0 : (List Int)) => (⟨[some (.fr ((eL D.int) script)), some (.fr (D.int many)), some (.fr ((eL D.int) cells)), some (.fr (D.int each)), some (.ad 100), none, none], [(100, .fl ((zs0).map D.int))]⟩ : Nz.S)) (m_law_numbers_l0 each) ([] : List Int) (fun (zi0 : Nat) (zs0 : (List Int)) => zs0.length ≤ 1001 * zi0) (src_listT (ev_var 2 rfl (.inl rfl) rfl)) ⟨⟨.inr rfl, .inr rfl, .inr rfl, .inr rfl, .inr rfl, .inl rfl, .inl rfl, trivial⟩, rfl⟩ (by simp) ?_ ?_ PassesOwn.never rfl)
  · intro zi0 zy0 zs0 zhy0 zq0
    skip
    have hi := (List.getElem?_eq_some_iff.mp zhy0).1
    have hrl := len_row zy0 each
    refine ⟨⟨[some (.fr ((eL D.int) script)), some (.fr (D.int many)), some (.fr ((eL D.int) cells)), some (.fr (D.int each)), some (.ad 100), some (.fr (D.int zy0)), none], [(100, .fl ((zs0).map D.int))]⟩, (eg_name 5 nd rfl (.inl rfl)), ?_⟩
    refine exs_one (ex_forF (enc := D.int) (fun (zs1 : (List Int)) => (⟨[some (.fr ((eL D.int) script)), some (.fr (D.int many)), some (.fr ((eL D.int) cells)), some (.fr (D.int each)), some (.ad 100), some (.fr (D.int zy0)), none], [(100, .fl ((zs1).map D.int))]⟩ : Nz.S)) (m_law_numbers_l1) zs0 (fun (zi1 : Nat) (zs1 : (List Int)) => zs1.length ≤ 1001 * zi0 + zi1) (src_listT (ev_call (ds := [D.int zy0, D.int each]) (ds' := []) (dvs := []) (dfs := []) O_law_row (zhr.mono (by decide)) T.m_law_row T.k_law_row T.b_law_row .nil (fun _ => .nil) (ea_cons (ev_var 5 rfl (.inl rfl) rfl) (ea_cons (ev_var 3 rfl (.inl rfl) rfl) ea_nil)) (fun _ zkk => ⟨zy0, each, rfl, rfl, (by walk_at "pre"), zkk⟩) (by exact rfl))) ⟨⟨.inr rfl, .inr rfl, .inr rfl, .inr rfl, .inr rfl, .inr rfl, .inl rfl, trivial⟩, rfl⟩ (by omega) ?_ ?_ PassesOwn.never rfl)
    · intro zi1 zy1 zs1 zhy1 zq1
      skip
      have hi1 := (List.getElem?_eq_some_iff.mp zhy1).1
      refine ⟨⟨[some (.fr ((eL D.int) script)), some (.fr (D.int many)), some (.fr ((eL D.int) cells)), some (.fr (D.int each)), some (.ad 100), some (.fr (D.int zy0)), some (.fr (D.int zy1))], [(100, .fl ((zs1).map D.int))]⟩, (eg_name 6 nd rfl (.inl rfl)), ?_⟩
      refine exs_one (ex_expr (ev_appendT (n := 100) (enc := D.int) (xs := zs1) (xs0 := zs1) zy1 rfl rfl rfl (by walk_at "sd") (ev_var 4 rfl (.inl rfl) rfl) (ev_var 6 rfl (.inl rfl) rfl)) ?_)
      have est : (m_law_numbers_l1) zs1 zy1 = (zs1 ++ [zy1]) := by simp only [m_law_numbers_l1, not_true_eq_false, not_false_eq_true, ↓reduceIte]
      show Le _ _ ∧ _
      try rw [est]
      exact ⟨⟨⟨.inr rfl, .inr rfl, .inr rfl, .inr rfl, .inr rfl, .inr rfl, .inl rfl, trivial⟩, rfl⟩, (by simp; omega)⟩
    · intro zq1
      have est : (m_law_numbers_l0 each) zs0 zy0 = ((m_law_row zy0 each).foldl (m_law_numbers_l1) zs0) := by simp only [m_law_numbers_l0, not_true_eq_false, not_false_eq_true, ↓reduceIte]
      show Le _ _ ∧ _
      try rw [est]
      exact ⟨⟨⟨.inr rfl, .inr rfl, .inr rfl, .inr rfl, .inr rfl, .inl rfl, .inl rfl, trivial⟩, rfl⟩, (by omega)⟩
  · intro zq0
    show Exs _ _ _ ⟨[some (.fr ((eL D.int) script)), some (.fr (D.int many)), some (.fr ((eL D.int) cells)), some (.fr (D.int each)), some (.ad 100), none, none], [(100, .fl (((cells.foldl (m_law_numbers_l0 each) ([] : List Int))).map D.int))]⟩ _
    refine exs_cons (ex_whileF (fun (zs0 : (List Int)) => (⟨[some (.fr ((eL D.int) script)), some (.fr (D.int many)), some (.fr ((eL D.int) cells)), some (.fr (D.int each)), some (.ad 100), none, none], [(100, .fl ((zs0).map D.int))]⟩ : Nz.S)) (m_law_numbers_c2 many) (m_law_numbers_w2 many) (cells.foldl (m_law_numbers_l0 each) ([] : List Int)) ((many).toNat) (fun (zs0 : (List Int)) => zs0.length ≤ 100000) (fun (zs0 : (List Int)) => (many - (zs0.length : Int)).toNat) ⟨⟨.inr rfl, .inr rfl, .inr rfl, .inr rfl, .inr rfl, .inl rfl, .inl rfl, trivial⟩, rfl⟩ (by omega) (by walk_at "sd") ?_ ?_ ?_ ?_ PassesOwn.never)
    · intro zs0 zq0 zhc0
      simp only [m_law_numbers_c2, decide_eq_true_eq] at zhc0
      simp only [m_law_numbers_w2, List.length_append, List.length_cons, List.length_nil]
      exact ⟨by omega, by omega⟩
    · intro zs0 zq0
      exact (et_cmp o_lt (ev_len (ln_L (xs := zs0) (enc := D.int) (by exact rfl)) (ev_var 4 rfl (.inl rfl) rfl) (by exact rfl) T.n_len) (ev_var 1 rfl (.inl rfl) rfl) (nomark _))
    · intro zs0 zq0 zhc0
      simp only [m_law_numbers_c2, decide_eq_true_eq] at zhc0
      show Exs _ _ _ ⟨[some (.fr ((eL D.int) script)), some (.fr (D.int many)), some (.fr ((eL D.int) cells)), some (.fr (D.int each)), some (.ad 100), none, none], [(100, .fl ((zs0).map D.int))]⟩ _
      refine exs_one (ex_expr (ev_appendT (n := 100) (enc := D.int) (xs := zs0) (xs0 := zs0) (0 : Int) rfl rfl rfl (by walk_at "sd") (ev_var 4 rfl (.inl rfl) rfl) ev_int) ?_)
      have est : (m_law_numbers_w2 many) zs0 = (zs0 ++ [(0 : Int)]) := by simp only [m_law_numbers_w2, ↓reduceIte]
      show Le _ _ ∧ _
      rw [est]
      exact ⟨⟨⟨.inr rfl, .inr rfl, .inr rfl, .inr rfl, .inr rfl, .inl rfl, .inl rfl, trivial⟩, rfl⟩, trivial⟩
    · intro zq0 zhc0
      show Exs _ _ _ ⟨[some (.fr ((eL D.int) script)), some (.fr (D.int many)), some (.fr ((eL D.int) cells)), some (.fr (D.int each)), some (.ad 100), none, none], [(100, .fl (((iterW (m_law_numbers_c2 many) (m_law_numbers_w2 many) ((many).toNat) (cells.foldl (m_law_numbers_l0 each) ([] : List Int)))).map D.int))]⟩ _
      refine exs_one (ex_ret (ev_sliceT (enc := D.int) (xs := (iterW (m_law_numbers_c2 many) (m_law_numbers_w2 many) ((many).toNat) (cells.foldl (m_law_numbers_l0 each) ([] : List Int)))) (by exact rfl) (ev_var 4 rfl (.inl rfl) rfl) eo_none (eo_some (ev_var 1 rfl (.inl rfl) rfl))) ?_)
      have efin : m_law_numbers script many = (slcD (iterW (m_law_numbers_c2 many) (m_law_numbers_w2 many) ((many).toNat) (cells.foldl (m_law_numbers_l0 each) ([] : List Int))) none (some many)) := by subst zg_each; subst zg_cells; simp only [m_law_numbers, not_true_eq_false, not_false_eq_true, ↓reduceIte]
      rw [efin] at zk
      exact zk _
def m_sums_l0 (zs0 : (List Int)) (zy0 : Int) : (List Int) :=
  (zs0 ++ [((zs0.getLastD default) + zy0)])
def m_sums (table : List Int) : List Int :=
  ((table ++ table).foldl (m_sums_l0) [(0 : Int)])
theorem len_fold1 (xs : List Int) (s : List Int) : (xs.foldl m_sums_l0 s).length = s.length + xs.length := by
  induction xs generalizing s with
  | nil => rfl
  | cons x r ih => rw [List.foldl_cons, ih]; simp only [m_sums_l0, List.length_append, List.length_cons, List.length_nil]; omega
theorem len_sums (t : List Int) : (m_sums t).length = 2 * t.length + 1 := by
  unfold m_sums; rw [len_fold1]; simp only [List.length_append, List.length_cons, List.length_nil]; omega
def per (t : List Int) (n : Nat) : Int := t.getD (n % t.length) default
def Pf (t : List Int) : Nat → Int
  | 0 => 0
  | n + 1 => Pf t n + per t n
theorem per_add (t : List Int) (n : Nat) : per t (n + t.length) = per t n := by unfold per; rw [Nat.add_mod_right]
theorem per_lt {t : List Int} {n : Nat} (h : n < t.length) : per t n = t[n] := by
  unfold per
  rw [Nat.mod_eq_of_lt h, List.getD_eq_getElem?_getD, List.getElem?_eq_getElem h]; rfl
theorem Pf_take (t : List Int) : ∀ n, n ≤ t.length → Pf t n = (t.take n).sum
  | 0, _ => by simp [Pf]
  | n + 1, h => by
    have hn : n < t.length := h
    rw [Pf, Pf_take t n (by omega), per_lt hn, List.take_succ, List.getElem?_eq_getElem hn, List.sum_append]
    simp only [Option.toList_some, List.sum_cons, List.sum_nil, Int.add_zero]
theorem Pf_len (t : List Int) : Pf t t.length = t.sum := by rw [Pf_take t _ (Nat.le_refl _), List.take_length]
theorem Pf_add (t : List Int) : ∀ n, Pf t (n + t.length) = Pf t n + t.sum
  | 0 => by rw [Nat.zero_add, Pf_len]; simp [Pf]
  | n + 1 => by
    rw [show n + 1 + t.length = (n + t.length) + 1 by omega, Pf, Pf_add t n, per_add, Pf]; omega
theorem sums_key : ∀ (xs pre s : List Int), s.length = pre.length + 1 → (∀ i, i ≤ pre.length → s.getD i default = (pre.take i).sum) →
    ∀ i, i ≤ (pre ++ xs).length → (xs.foldl m_sums_l0 s).getD i default = ((pre ++ xs).take i).sum
  | [], pre, s, hl, h, i, hi => by rw [List.append_nil] at hi ⊢; exact h i hi
  | x :: xs, pre, s, hl, h, i, hi => by
    rw [List.foldl_cons]
    have e : pre ++ x :: xs = (pre ++ [x]) ++ xs := by simp
    rw [e] at hi ⊢
    refine sums_key xs (pre ++ [x]) (m_sums_l0 s x) (by simp [m_sums_l0, hl]) (fun j hj => ?_) i hi
    have hlast : s.getLastD default = pre.sum := by
      have := h pre.length (Nat.le_refl _)
      rw [List.take_length] at this
      rw [← this, List.getLastD_eq_getLast?, List.getD_eq_getElem?_getD, List.getLast?_eq_getElem?, hl, Nat.add_sub_cancel]
    by_cases hj2 : j ≤ pre.length
    · unfold m_sums_l0
      rw [List.getD_eq_getElem?_getD, List.getElem?_append_left (by omega), ← List.getD_eq_getElem?_getD, h j hj2, List.take_append_of_le_length hj2]
    · have hj3 : j = pre.length + 1 := by simp at hj; omega
      unfold m_sums_l0
      rw [hj3, List.getD_eq_getElem?_getD, ← hl, List.getElem?_append_right (Nat.le_refl _), Nat.sub_self, List.take_of_length_le (by simp [hl]), hlast]
      simp
theorem sums_at (t : List Int) (i : Nat) (h : i ≤ 2 * t.length) : (m_sums t).getD i default = Pf t i := by
  unfold m_sums
  have := sums_key (t ++ t) [] [0] rfl (fun i hi => by
    have : i = 0 := by simpa using hi
    subst this; rfl) i (by simp; omega)
  rw [this, List.nil_append]
  by_cases hi : i ≤ t.length
  · rw [List.take_append_of_le_length hi, Pf_take t i hi]
  · obtain ⟨j, rfl⟩ : ∃ j, i = j + t.length := ⟨i - t.length, by omega⟩
    rw [Pf_add, Pf_take t j (by omega), List.take_append, List.take_of_length_le (by omega), Nat.add_sub_cancel, List.sum_append]
    omega
theorem sc_sums : FnScope ["table", "sums", "units"] ["table"] (defScope s_sums) := ⟨rfl, rfl, rfl, by decide +kernel, rfl, by decide +kernel, by decide +kernel⟩
def sp_sums : SpN := fun zcs zL zKc => ∃ table : List Int, zcs = [.fr ((eL D.int) table)] ∧ zL = [] ∧ (table.length ≤ 1001) ∧ ∀ zL', zKc (.fr ((eL D.int) (m_sums table))) zL'
theorem ok_sums (T : TX P K mg) : FnOk P w K mg base CX0 1 T.a_sums T.d_sums ["table"] (SpOf K mg sp_sums) := by
  refine T.F_sums.okN sc_sums (fun zcs zL zKc zh => by obtain ⟨table, rfl, _⟩ := zh; rfl) fun zcdv zA zout zst zH zE zB zcs zL zKc zhr zh => ?_
  obtain ⟨table, rfl, rfl, hpre, zk⟩ := zh
  have nd := sc_sums.nd
  have hSL := sizeLine_eq
  show Exs _ _ _ ⟨[some (.fr ((eL D.int) table)), none, none], []⟩ _
  refine exs_cons (ex_set 1 (ev_lstN 100 (enc := D.int) [(0 : Int)] (ea_cons ev_int ea_nil) rfl (by simp only [List.length_cons, List.length_nil]; decide) (by simp [names]) (by decide)) ?_ nd rfl (.inl rfl))
  show Exs _ _ _ ⟨[some (.fr ((eL D.int) table)), some (.ad 100), none], [(100, .fl (([(0 : Int)]).map D.int))]⟩ _
  refine exs_cons (ex_forF (enc := D.int) (fun (zs0 : (List Int)) => (⟨[some (.fr ((eL D.int) table)), some (.ad 100), none], [(100, .fl ((zs0).map D.int))]⟩ : Nz.S)) (m_sums_l0) [(0 : Int)] (fun (zi0 : Nat) (zs0 : (List Int)) => zs0 ≠ [] ∧ zs0.length ≤ zi0 + 1) (src_listT (ev_bin (o_catT (enc := D.int) (xs := table) (ys := table) (by walk_at "sd")) (ev_callTy (ds := [(eL D.int) table]) c_listL (ea_cons (ev_var 0 rfl (.inl rfl) rfl) ea_nil) (by exact rfl) T.n_list (by decide +kernel)) (ev_callTy (ds := [(eL D.int) table]) c_listL (ea_cons (ev_var 0 rfl (.inl rfl) rfl) ea_nil) (by exact rfl) T.n_list (by decide +kernel)))) ⟨⟨.inr rfl, .inr rfl, .inl rfl, trivial⟩, rfl⟩ ⟨by simp, by simp⟩ ?_ ?_ PassesOwn.never rfl)
  · intro zi0 zy0 zs0 zhy0 zq0
    skip
    obtain ⟨zq1, zq2⟩ := zq0
    have hi := (List.getElem?_eq_some_iff.mp zhy0).1
    simp only [List.length_append] at hi
    refine ⟨⟨[some (.fr ((eL D.int) table)), some (.ad 100), some (.fr (D.int zy0))], [(100, .fl ((zs0).map D.int))]⟩, (eg_name 2 nd rfl (.inl rfl)), ?_⟩
    refine exs_one (ex_expr (ev_appendT (n := 100) (enc := D.int) (xs := zs0) (xs0 := zs0) ((zs0.getLastD default) + zy0) rfl rfl rfl (by walk_at "sd") (ev_var 1 rfl (.inl rfl) rfl) (ev_bin o_add (ev_ix (ix_last (xs := zs0) (enc := D.int) (by exact rfl) (by walk_at "ne")) (ev_var 1 rfl (.inl rfl) rfl) (ev_neg ev_int)) (ev_var 2 rfl (.inl rfl) rfl))) ?_)
    have est : (m_sums_l0) zs0 zy0 = (zs0 ++ [((zs0.getLastD default) + zy0)]) := by simp only [m_sums_l0, not_true_eq_false, not_false_eq_true, ↓reduceIte]
    show Le _ _ ∧ _
    try rw [est]
    exact ⟨⟨⟨.inr rfl, .inr rfl, .inl rfl, trivial⟩, rfl⟩, ⟨by simp, by simp; omega⟩⟩
  · intro zq0
    show Exs _ _ _ ⟨[some (.fr ((eL D.int) table)), some (.ad 100), none], [(100, .fl ((((table ++ table).foldl (m_sums_l0) [(0 : Int)])).map D.int))]⟩ _
    refine exs_freezeT 100 (xs := ((table ++ table).foldl (m_sums_l0) [(0 : Int)])) (enc := D.int) (by exact rfl) ?_
    show Exs _ _ _ ⟨[some (.fr ((eL D.int) table)), some (.fr ((eL D.int) ((table ++ table).foldl (m_sums_l0) [(0 : Int)]))), none], []⟩ _
    refine exs_one (ex_ret (ev_var 1 rfl (.inl rfl) rfl) ?_)
    have efin : m_sums table = ((table ++ table).foldl (m_sums_l0) [(0 : Int)]) := by simp only [m_sums, not_true_eq_false, not_false_eq_true, ↓reduceIte]
    rw [efin] at zk
    exact zk _
def m_least_supplies_l0 (slots : Int) (sums : List Int) (zs0 : (List Int)) (zy0 : Nat) : (List Int) :=
  (zs0 ++ [(minL ((List.range (slots).toNat).map (fun zc1 : Nat => ((sums.getD ((((0 : Int) + (zc1 : Int)) + ((0 : Int) + (zy0 : Int)))).toNat default) - (sums.getD (((0 : Int) + (zc1 : Int))).toNat default)))))])
def m_least_supplies_l1 (slots : Int) (sums : List Int) (lo0 : Int) (zs0 : (List Int)) (zy0 : Nat) : (List Int) :=
  (zs0 ++ [((zs0.getD (((lo0 + (zy0 : Int)) - slots)).toNat default) + (sums.getD (slots).toNat default))])
def m_least_supplies (table : List Int) (length : Int) : List Int :=
  ((List.range ((length + (1 : Int)) - (table.length : Int)).toNat).foldl (m_least_supplies_l1 (table.length : Int) (m_sums table) (table.length : Int)) ((List.range ((if (length + (1 : Int)) < (table.length : Int) then (length + (1 : Int)) else (table.length : Int))).toNat).foldl (m_least_supplies_l0 (table.length : Int) (m_sums table)) ([] : List Int)))
def Sup (t : List Int) (n s : Nat) : Int := Pf t (s + n) - Pf t s
def Ws (t : List Int) (n : Nat) : List Int := (List.range t.length).map (Sup t n)
def Mn (t : List Int) (n : Nat) : Int := minL (Ws t n)
theorem Ws_ne {t : List Int} (n : Nat) (ht : 0 < t.length) : Ws t n ≠ [] := fun e => by
  have := congrArg List.length e
  unfold Ws at this
  rw [List.length_map, List.length_range, List.length_nil] at this
  omega
theorem Mn_spec (t : List Int) (n : Nat) (ht : 0 < t.length) : (∃ b, b < t.length ∧ Mn t n = Sup t n b) ∧ ∀ i, i < t.length → Mn t n ≤ Sup t n i := by
  constructor
  · obtain ⟨b, hb, e⟩ := List.mem_map.mp (minL_mem (Ws_ne n ht))
    exact ⟨b, List.mem_range.mp hb, e.symm⟩
  · intro i hi
    exact minL_le (List.mem_map.mpr ⟨i, List.mem_range.mpr hi, rfl⟩)
theorem Mn_eq {t : List Int} {n b : Nat} (hb : b < t.length) (h : ∀ i, i < t.length → Sup t n b ≤ Sup t n i) : Mn t n = Sup t n b := by
  obtain ⟨⟨c, hc, e⟩, g⟩ := Mn_spec t n (by omega)
  have := g b hb
  have := h c hc
  omega
theorem Sup_shift (t : List Int) (n s : Nat) : Sup t (n + t.length) s = Sup t n s + t.sum := by
  unfold Sup
  rw [← Nat.add_assoc, Pf_add]; omega
theorem Mn_shift (t : List Int) (n : Nat) (ht : 0 < t.length) : Mn t (n + t.length) = Mn t n + t.sum := by
  obtain ⟨⟨b, hb, e⟩, g⟩ := Mn_spec t n ht
  rw [Mn_eq (n := n + t.length) hb (fun i hi => by rw [Sup_shift, Sup_shift]; have := g i hi; omega), Sup_shift, e]
theorem ls_fold0 (t : List Int) : ∀ m : Nat, m ≤ t.length → (List.range m).foldl (m_least_supplies_l0 (t.length : Int) (m_sums t)) [] = (List.range m).map (Mn t)
  | 0, _ => rfl
  | m + 1, h => by
    rw [List.range_succ, List.foldl_append, ls_fold0 t m (by omega), List.map_append]
    show _ ++ [_] = _ ++ [_]
    congr 2
    unfold Mn Ws
    rw [Int.toNat_natCast]
    congr 1
    refine List.map_congr_left fun i hi => ?_
    have hi := List.mem_range.mp hi
    rw [Int.zero_add, Int.zero_add, ← Int.natCast_add, Int.toNat_natCast, Int.toNat_natCast, sums_at t _ (by omega), sums_at t _ (by omega)]
    rfl
theorem ls_fold1 (t : List Int) (ht : 0 < t.length) : ∀ k : Nat, (List.range k).foldl (m_least_supplies_l1 (t.length : Int) (m_sums t) (t.length : Int)) ((List.range t.length).map (Mn t)) = (List.range (t.length + k)).map (Mn t)
  | 0 => rfl
  | k + 1 => by
    rw [List.range_succ, List.foldl_append, ls_fold1 t ht k, show t.length + (k + 1) = (t.length + k) + 1 by omega, List.range_succ, List.map_append]
    show _ ++ [_] = _ ++ [_]
    congr 2
    rw [show ((t.length : Int) + (k : Int) - (t.length : Int)).toNat = k by omega, Int.toNat_natCast, sums_at t _ (by omega), Pf_len, List.getD_eq_getElem?_getD, List.getElem?_map, List.getElem?_range (by omega)]
    show Mn t k + t.sum = _
    rw [Nat.add_comm t.length k, Mn_shift t k ht]
theorem least_eq (t : List Int) (n : Nat) (ht : 0 < t.length) : m_least_supplies t (n : Int) = (List.range (n + 1)).map (Mn t) := by
  unfold m_least_supplies
  by_cases h : (n : Int) + 1 < (t.length : Int)
  · rw [if_pos h, show ((n : Int) + 1 - (t.length : Int)).toNat = 0 by omega, show ((n : Int) + 1).toNat = n + 1 by omega, ls_fold0 t _ (by omega)]; rfl
  · rw [if_neg h, Int.toNat_natCast, ls_fold0 t _ (Nat.le_refl _), ls_fold1 t ht]
    congr 2
    omega
theorem sum6 {t : List Int} {n : Nat} (h : 0 < t.length ∧ t.length ≤ n ∧ ∀ x ∈ t, 0 ≤ x ∧ x ≤ 4000000) : 0 ≤ t.sum ∧ t.sum ≤ 4000000 * (n : Int) := by
  obtain ⟨_, h1, h2⟩ := h
  have : ∀ t : List Int, (∀ x ∈ t, 0 ≤ x ∧ x ≤ 4000000) → 0 ≤ t.sum ∧ t.sum ≤ 4000000 * (t.length : Int) := by
    intro t
    induction t with
    | nil => intro _; simp
    | cons x r ih =>
      intro h
      have a := ih fun y hy => h y (List.mem_cons_of_mem _ hy)
      have b := h x List.mem_cons_self
      rw [List.sum_cons, List.length_cons]
      omega
  have := this t h2
  omega
theorem min_len (t : List Int) (n : Nat) (ht : 0 < t.length) : (m_least_supplies t (n : Int)).length = n + 1 := by
  rw [least_eq t n ht, List.length_map, List.length_range]
theorem sc_least_supplies : FnScope ["table", "length", "slots", "sums", "found", "part", "longer", "start"] ["table", "length"] (defScope s_least_supplies) := ⟨rfl, rfl, rfl, by decide +kernel, rfl, by decide +kernel, by decide +kernel⟩
def sp_least_supplies : SpN := fun zcs zL zKc => ∃ table : List Int, ∃ length : Int, zcs = [.fr ((eL D.int) table), .fr (D.int length)] ∧ zL = [] ∧ (0 < table.length ∧ table.length ≤ 1001 ∧ 0 ≤ table.sum ∧ table.sum < 2 ^ 29 ∧ 0 ≤ length ∧ length < 2 ^ 20) ∧ ∀ zL', zKc (.fr ((eL D.int) (m_least_supplies table length))) zL'
theorem ok_least_supplies (T : TX P K mg) : FnOk P w K mg base CX0 2 T.a_least_supplies T.d_least_supplies ["table", "length"] (SpOf K mg sp_least_supplies) := by
  have O_sums := ok_sums (P := P) (w := w) (base := base) T
  refine T.F_least_supplies.okN sc_least_supplies (fun zcs zL zKc zh => by obtain ⟨table, length, rfl, _⟩ := zh; rfl) fun zcdv zA zout zst zH zE zB zcs zL zKc zhr zh => ?_
  obtain ⟨table, length, rfl, rfl, hpre, zk⟩ := zh
  have nd := sc_least_supplies.nd
  have hSL := sizeLine_eq
  have hT : (0 : Int) < (table.length : Int) := by omega
  have e5 := len_sums table
  show Exs _ _ _ ⟨[some (.fr ((eL D.int) table)), some (.fr (D.int length)), none, none, none, none, none, none], []⟩ _
  refine exs_cons (ex_set 2 (ev_len (ln_L (xs := table) (enc := D.int) (by exact rfl)) (ev_var 0 rfl (.inl rfl) rfl) (by exact rfl) T.n_len) ?_ nd rfl (.inl rfl))
  show Exs _ _ _ ⟨[some (.fr ((eL D.int) table)), some (.fr (D.int length)), some (.fr (D.int (table.length : Int))), none, none, none, none, none], []⟩ _
  refine exs_cons (ex_set 3 (ev_call (ds := [(eL D.int) table]) (ds' := []) (dvs := []) (dfs := []) O_sums (zhr.mono (by decide)) T.m_sums T.k_sums T.b_sums .nil (fun _ => .nil) (ea_cons (ev_var 0 rfl (.inl rfl) rfl) ea_nil) (fun _ zkk => ⟨table, rfl, rfl, (by walk_at "pre"), zkk⟩) (by exact rfl)) ?_ nd rfl (.inr rfl))
  show Exs _ _ _ ⟨[some (.fr ((eL D.int) table)), some (.fr (D.int length)), some (.fr (D.int (table.length : Int))), some (.fr ((eL D.int) (m_sums table))), none, none, none, none], []⟩ _
  refine exs_cons (ex_set 4 (ev_lstN 100 (enc := D.int) ([] : List Int) ea_nil rfl (by simp only [List.length_cons, List.length_nil]; decide) (by simp [names]) (by decide)) ?_ nd rfl (.inl rfl))
  show Exs _ _ _ ⟨[some (.fr ((eL D.int) table)), some (.fr (D.int length)), some (.fr (D.int (table.length : Int))), some (.fr ((eL D.int) (m_sums table))), some (.ad 100), none, none, none], [(100, .fl ((([] : List Int)).map D.int))]⟩ _
  refine exs_cons (ex_forF (enc := (fun i : Nat => D.int ((0 : Int) + (i : Int)))) (fun (zs0 : (List Int)) => (⟨[some (.fr ((eL D.int) table)), some (.fr (D.int length)), some (.fr (D.int (table.length : Int))), some (.fr ((eL D.int) (m_sums table))), some (.ad 100), none, none, none], [(100, .fl ((zs0).map D.int))]⟩ : Nz.S)) (m_least_supplies_l0 (table.length : Int) (m_sums table)) ([] : List Int) (fun (zi0 : Nat) (zs0 : (List Int)) => zs0.length = zi0) (src_range1 (ea_cons (ev_callB (ds := [D.int (table.length : Int), D.int (length + (1 : Int))]) (c_min2 rfl) (ea_cons (ev_var 2 rfl (.inl rfl) rfl) (ea_cons (ev_bin o_add (ev_var 1 rfl (.inl rfl) rfl) ev_int) ea_nil)) (by exact rfl) T.n_min (by decide +kernel)) ea_nil) (by exact rfl) T.n_range (by walk_at "sd") (by walk_at "sd")) ⟨⟨.inr rfl, .inr rfl, .inr rfl, .inr rfl, .inr rfl, .inl rfl, .inl rfl, .inl rfl, trivial⟩, rfl⟩ (by simp) ?_ ?_ PassesOwn.never rfl)
  · intro zi0 zy0 zs0 zhy0 zq0
    skip
    have hy0 := seq_range zhy0
    have hi := (List.getElem?_eq_some_iff.mp zhy0).1
    simp only [List.length_range] at hi
    refine ⟨⟨[some (.fr ((eL D.int) table)), some (.fr (D.int length)), some (.fr (D.int (table.length : Int))), some (.fr ((eL D.int) (m_sums table))), some (.ad 100), some (.fr (D.int ((0 : Int) + (zy0 : Int)))), none, none], [(100, .fl ((zs0).map D.int))]⟩, (eg_name 5 nd rfl (.inr rfl)), ?_⟩
    refine exs_one (ex_expr (ev_appendT (n := 100) (enc := D.int) (xs := zs0) (xs0 := zs0) (minL ((List.range ((table.length : Int)).toNat).map (fun zc2 : Nat => (((m_sums table).getD ((((0 : Int) + (zc2 : Int)) + ((0 : Int) + (zy0 : Int)))).toNat default) - ((m_sums table).getD (((0 : Int) + (zc2 : Int))).toNat default))))) rfl rfl rfl (by walk_at "sd") (ev_var 4 rfl (.inl rfl) rfl) (ev_callB (ds := [(eL D.int) ((List.range ((table.length : Int)).toNat).map (fun zc2 : Nat => (((m_sums table).getD ((((0 : Int) + (zc2 : Int)) + ((0 : Int) + (zy0 : Int)))).toNat default) - ((m_sums table).getD (((0 : Int) + (zc2 : Int))).toNat default))))]) (c_minL (ns := ((List.range ((table.length : Int)).toNat).map (fun zc2 : Nat => (((m_sums table).getD ((((0 : Int) + (zc2 : Int)) + ((0 : Int) + (zy0 : Int)))).toNat default) - ((m_sums table).getD (((0 : Int) + (zc2 : Int))).toNat default))))) rfl (by walk_at "ne")) (ea_cons (ev_lcM (enc2 := D.int) 199 (fun zc2 : Nat => (((m_sums table).getD ((((0 : Int) + (zc2 : Int)) + ((0 : Int) + (zy0 : Int)))).toNat default) - ((m_sums table).getD (((0 : Int) + (zc2 : Int))).toNat default))) _ rfl nd (blkOk_by (N := ["table", "length", "slots", "sums", "found", "part", "longer", "start"]) (sc := defScope s_least_supplies) (own := [(("start" : Str), 7)]) (by decide +kernel)) (src_range1 (ea_cons (ev_var 2 rfl (.inl rfl) rfl) ea_nil) (by exact rfl) T.n_range (by walk_at "sd") (by walk_at "sd")) (by simp [names]) (by decide) (by walk_at "sd") (fun _ zc2 _ zhyzc2 _ _ _ _ _ => (eg_nameC 7 nd rfl (.inl rfl) (by decide) (.inr rfl))) (fun _ zc2 _ zhyzc2 _ _ _ _ _ => (ev_bin o_sub (ev_ix (ix_L (xs := (m_sums table)) (enc := D.int) (by exact rfl) (by walk_at "sd") (by walk_at "sd")) (ev_var 3 rfl (.inr (.inl rfl)) rfl) (ev_bin o_add (ev_var 7 rfl (.inl rfl) rfl) (ev_var 5 rfl (.inr (.inl rfl)) rfl))) (ev_ix (ix_L (xs := (m_sums table)) (enc := D.int) (by exact rfl) (by walk_at "sd") (by walk_at "sd")) (ev_var 3 rfl (.inr (.inl rfl)) rfl) (ev_var 7 rfl (.inl rfl) rfl))))) ea_nil) (by exact rfl) T.n_min (by decide +kernel))) ?_)
    have est : (m_least_supplies_l0 (table.length : Int) (m_sums table)) zs0 zy0 = (zs0 ++ [(minL ((List.range ((table.length : Int)).toNat).map (fun zc2 : Nat => (((m_sums table).getD ((((0 : Int) + (zc2 : Int)) + ((0 : Int) + (zy0 : Int)))).toNat default) - ((m_sums table).getD (((0 : Int) + (zc2 : Int))).toNat default)))))]) := by simp only [m_least_supplies_l0, not_true_eq_false, not_false_eq_true, ↓reduceIte]
    show Le _ _ ∧ _
    try rw [est]
    exact ⟨⟨⟨.inr rfl, .inr rfl, .inr rfl, .inr rfl, .inr rfl, .inl rfl, .inl rfl, .inl rfl, trivial⟩, rfl⟩, (by simp; omega)⟩
  · intro zq0
    show Exs _ _ _ ⟨[some (.fr ((eL D.int) table)), some (.fr (D.int length)), some (.fr (D.int (table.length : Int))), some (.fr ((eL D.int) (m_sums table))), some (.ad 100), none, none, none], [(100, .fl ((((List.range ((if (length + (1 : Int)) < (table.length : Int) then (length + (1 : Int)) else (table.length : Int))).toNat).foldl (m_least_supplies_l0 (table.length : Int) (m_sums table)) ([] : List Int))).map D.int))]⟩ _
    refine exs_cons (ex_forF (enc := (fun i : Nat => D.int ((table.length : Int) + (i : Int)))) (fun (zs0 : (List Int)) => (⟨[some (.fr ((eL D.int) table)), some (.fr (D.int length)), some (.fr (D.int (table.length : Int))), some (.fr ((eL D.int) (m_sums table))), some (.ad 100), none, none, none], [(100, .fl ((zs0).map D.int))]⟩ : Nz.S)) (m_least_supplies_l1 (table.length : Int) (m_sums table) (table.length : Int)) ((List.range ((if (length + (1 : Int)) < (table.length : Int) then (length + (1 : Int)) else (table.length : Int))).toNat).foldl (m_least_supplies_l0 (table.length : Int) (m_sums table)) ([] : List Int)) (fun (zi0 : Nat) (zs0 : (List Int)) => (zs0.length : Int) = (if length + 1 < (table.length : Int) then length + 1 else (table.length : Int)) + (zi0 : Int)) (src_range2 (ea_cons (ev_var 2 rfl (.inl rfl) rfl) (ea_cons (ev_bin o_add (ev_var 1 rfl (.inl rfl) rfl) ev_int) ea_nil)) (by exact rfl) T.n_range (by walk_at "sd") (by walk_at "sd") (by walk_at "sd") (by walk_at "sd")) ⟨⟨.inr rfl, .inr rfl, .inr rfl, .inr rfl, .inr rfl, .inl rfl, .inl rfl, .inl rfl, trivial⟩, rfl⟩ (by walk_at "sd") ?_ ?_ PassesOwn.never rfl)
    · intro zi0 zy0 zs0 zhy0 zq0
      skip
      refine ⟨⟨[some (.fr ((eL D.int) table)), some (.fr (D.int length)), some (.fr (D.int (table.length : Int))), some (.fr ((eL D.int) (m_sums table))), some (.ad 100), none, some (.fr (D.int ((table.length : Int) + (zy0 : Int)))), none], [(100, .fl ((zs0).map D.int))]⟩, (eg_name 6 nd rfl (.inl rfl)), ?_⟩
      refine exs_one (ex_expr (ev_appendT (n := 100) (enc := D.int) (xs := zs0) (xs0 := zs0) ((zs0.getD ((((table.length : Int) + (zy0 : Int)) - (table.length : Int))).toNat default) + ((m_sums table).getD ((table.length : Int)).toNat default)) rfl rfl rfl (by walk_at "sd") (ev_var 4 rfl (.inl rfl) rfl) (ev_bin o_add (ev_ix (ix_L (xs := zs0) (enc := D.int) (by exact rfl) (by walk_at "sd") (by walk_at "sd")) (ev_var 4 rfl (.inl rfl) rfl) (ev_bin o_sub (ev_var 6 rfl (.inl rfl) rfl) (ev_var 2 rfl (.inl rfl) rfl))) (ev_ix (ix_L (xs := (m_sums table)) (enc := D.int) (by exact rfl) (by walk_at "sd") (by walk_at "sd")) (ev_var 3 rfl (.inr (.inl rfl)) rfl) (ev_var 2 rfl (.inl rfl) rfl)))) ?_)
      have est : (m_least_supplies_l1 (table.length : Int) (m_sums table) (table.length : Int)) zs0 zy0 = (zs0 ++ [((zs0.getD ((((table.length : Int) + (zy0 : Int)) - (table.length : Int))).toNat default) + ((m_sums table).getD ((table.length : Int)).toNat default))]) := by simp only [m_least_supplies_l1, not_true_eq_false, not_false_eq_true, ↓reduceIte]
      show Le _ _ ∧ _
      try rw [est]
      exact ⟨⟨⟨.inr rfl, .inr rfl, .inr rfl, .inr rfl, .inr rfl, .inl rfl, .inl rfl, .inl rfl, trivial⟩, rfl⟩, (by walk_at "sd")⟩
    · intro zq0
      show Exs _ _ _ ⟨[some (.fr ((eL D.int) table)), some (.fr (D.int length)), some (.fr (D.int (table.length : Int))), some (.fr ((eL D.int) (m_sums table))), some (.ad 100), none, none, none], [(100, .fl ((((List.range ((length + (1 : Int)) - (table.length : Int)).toNat).foldl (m_least_supplies_l1 (table.length : Int) (m_sums table) (table.length : Int)) ((List.range ((if (length + (1 : Int)) < (table.length : Int) then (length + (1 : Int)) else (table.length : Int))).toNat).foldl (m_least_supplies_l0 (table.length : Int) (m_sums table)) ([] : List Int)))).map D.int))]⟩ _
      refine exs_freezeT 100 (xs := ((List.range ((length + (1 : Int)) - (table.length : Int)).toNat).foldl (m_least_supplies_l1 (table.length : Int) (m_sums table) (table.length : Int)) ((List.range ((if (length + (1 : Int)) < (table.length : Int) then (length + (1 : Int)) else (table.length : Int))).toNat).foldl (m_least_supplies_l0 (table.length : Int) (m_sums table)) ([] : List Int)))) (enc := D.int) (by exact rfl) ?_
      show Exs _ _ _ ⟨[some (.fr ((eL D.int) table)), some (.fr (D.int length)), some (.fr (D.int (table.length : Int))), some (.fr ((eL D.int) (m_sums table))), some (.fr ((eL D.int) ((List.range ((length + (1 : Int)) - (table.length : Int)).toNat).foldl (m_least_supplies_l1 (table.length : Int) (m_sums table) (table.length : Int)) ((List.range ((if (length + (1 : Int)) < (table.length : Int) then (length + (1 : Int)) else (table.length : Int))).toNat).foldl (m_least_supplies_l0 (table.length : Int) (m_sums table)) ([] : List Int))))), none, none, none], []⟩ _
      refine exs_one (ex_ret (ev_var 4 rfl (.inl rfl) rfl) ?_)
      have efin : m_least_supplies table length = ((List.range ((length + (1 : Int)) - (table.length : Int)).toNat).foldl (m_least_supplies_l1 (table.length : Int) (m_sums table) (table.length : Int)) ((List.range ((if (length + (1 : Int)) < (table.length : Int) then (length + (1 : Int)) else (table.length : Int))).toNat).foldl (m_least_supplies_l0 (table.length : Int) (m_sums table)) ([] : List Int))) := by simp only [m_least_supplies, not_true_eq_false, not_false_eq_true, ↓reduceIte]
      rw [efin] at zk
      exact zk _
def m_common_length (one : List Int) (other : List Int) : Int :=
  ((Nat.lcm ((one.length : Int)).natAbs ((other.length : Int)).natAbs : Nat) : Int)
theorem common_nat (one other : List Int) : m_common_length one other = ((Nat.lcm one.length other.length : Nat) : Int) := by
  unfold m_common_length
  simp only [Int.natAbs_natCast]
theorem common_le {one other : List Int} {a b : Nat} (h1 : one.length ≤ a) (h2 : other.length ≤ b) (p1 : 0 < one.length) (p2 : 0 < other.length) : Nat.lcm one.length other.length ≤ a * b :=
  Nat.le_trans (Nat.le_of_dvd (Nat.mul_pos p1 p2) (Nat.lcm_dvd (Nat.dvd_mul_right _ _) (Nat.dvd_mul_left _ _))) (Nat.mul_le_mul h1 h2)
set_option hygiene false in
local macro_rules | `(tactic| walk_at "lcm") => `(tactic| first | omega | fail)
theorem sc_common_length : FnScope ["one", "other"] ["one", "other"] (defScope s_common_length) := ⟨rfl, rfl, rfl, by decide +kernel, rfl, by decide +kernel, by decide +kernel⟩
def sp_common_length : SpN := fun zcs zL zKc => ∃ one : List Int, ∃ other : List Int, zcs = [.fr ((eL D.int) one), .fr ((eL D.int) other)] ∧ zL = [] ∧ (0 < one.length ∧ one.length ≤ 1001 ∧ 0 < other.length ∧ other.length ≤ 1001) ∧ ∀ zL', zKc (.fr (D.int (m_common_length one other))) zL'
theorem ok_common_length (T : TX P K mg) : FnOk P w K mg base CX0 1 T.a_common_length T.d_common_length ["one", "other"] (SpOf K mg sp_common_length) := by
  refine T.F_common_length.okN sc_common_length (fun zcs zL zKc zh => by obtain ⟨one, other, rfl, _⟩ := zh; rfl) fun zcdv zA zout zst zH zE zB zcs zL zKc zhr zh => ?_
  obtain ⟨one, other, rfl, rfl, hpre, zk⟩ := zh
  have nd := sc_common_length.nd
  have hSL := sizeLine_eq
  show Exs _ _ _ ⟨[some (.fr ((eL D.int) one)), some (.fr ((eL D.int) other))], []⟩ _
  refine exs_one (ex_ret (ev_callG (ds := [D.int (one.length : Int), D.int (other.length : Int)]) (c_lcm (by walk_at "lcm") (by walk_at "lcm")) (ea_cons (ev_len (ln_L (xs := one) (enc := D.int) (by exact rfl)) (ev_var 0 rfl (.inl rfl) rfl) (by exact rfl) T.n_len) (ea_cons (ev_len (ln_L (xs := other) (enc := D.int) (by exact rfl)) (ev_var 1 rfl (.inl rfl) rfl) (by exact rfl) T.n_len) ea_nil)) (by exact rfl) T.x_lcm) ?_)
  have efin : m_common_length one other = ((Nat.lcm ((one.length : Int)).natAbs ((other.length : Int)).natAbs : Nat) : Int) := by simp only [m_common_length, not_true_eq_false, not_false_eq_true, ↓reduceIte]
  rw [efin] at zk
  exact zk _
def m_first_shortage_l0 (zs0 : Unit) (zy0 : Int × (Int × Int)) : Except (Option Int) (Unit) :=
  if (zy0.2.1 < zy0.2.2) then .error (some zy0.1) else .ok ()
def m_first_shortage (one : List Int) (other : List Int) : Option Int :=
  let slots1 : Int := (m_common_length one other)
  let pairs1 : List (Int × Int) := ((m_least_supplies one slots1).zip (m_least_supplies other slots1))
  match (runE (m_first_shortage_l0) (enL 0 pairs1) ()) with | .error r => r | .ok zs0 => (none : Option Int)
set_option hygiene false in
local macro_rules | `(tactic| walk_at "pre") => `(tactic| first | exact ⟨by omega, by omega, by omega, by omega, by omega, by omega⟩ | fail)
theorem sc_first_shortage : FnScope ["one", "other", "slots", "pairs", "length", "units", "wanted"] ["one", "other"] (defScope s_first_shortage) := ⟨rfl, rfl, rfl, by decide +kernel, rfl, by decide +kernel, by decide +kernel⟩
def sp_first_shortage : SpN := fun zcs zL zKc => ∃ one : List Int, ∃ other : List Int, zcs = [.fr ((eL D.int) one), .fr ((eL D.int) other)] ∧ zL = [] ∧ ((0 < one.length ∧ one.length ≤ 12 ∧ (∀ x ∈ one, 0 ≤ x ∧ x ≤ 4000000)) ∧ 0 < other.length ∧ other.length ≤ 12 ∧ (∀ x ∈ other, 0 ≤ x ∧ x ≤ 4000000)) ∧ ∀ zL', zKc (.fr ((eO D.int) (m_first_shortage one other))) zL'
theorem ok_first_shortage (T : TX P K mg) : FnOk P w K mg base CX0 3 T.a_first_shortage T.d_first_shortage ["one", "other"] (SpOf K mg sp_first_shortage) := by
  have O_common_length := ok_common_length (P := P) (w := w) (base := base) T
  have O_least_supplies := ok_least_supplies (P := P) (w := w) (base := base) T
  refine T.F_first_shortage.okN sc_first_shortage (fun zcs zL zKc zh => by obtain ⟨one, other, rfl, _⟩ := zh; rfl) fun zcdv zA zout zst zH zE zB zcs zL zKc zhr zh => ?_
  obtain ⟨one, other, rfl, rfl, hpre, zk⟩ := zh
  have nd := sc_first_shortage.nd
  have hSL := sizeLine_eq
  have hs1 := sum6 hpre.1
  have hs2 := sum6 hpre.2
  have hcl := common_le (one := one) (other := other) (a := 12) (b := 12) (by omega) (by omega) (by omega) (by omega)
  have hcn := common_nat one other
  show Exs _ _ _ ⟨[some (.fr ((eL D.int) one)), some (.fr ((eL D.int) other)), none, none, none, none, none], []⟩ _
  refine exs_cons (ex_set 2 (ev_call (ds := [(eL D.int) one, (eL D.int) other]) (ds' := []) (dvs := []) (dfs := []) O_common_length (zhr.mono (by decide)) T.m_common_length T.k_common_length T.b_common_length .nil (fun _ => .nil) (ea_cons (ev_var 0 rfl (.inl rfl) rfl) (ea_cons (ev_var 1 rfl (.inl rfl) rfl) ea_nil)) (fun _ zkk => ⟨one, other, rfl, rfl, (by walk_at "pre"), zkk⟩) (by exact rfl)) ?_ nd rfl (.inl rfl))
  show Exs _ _ _ ⟨[some (.fr ((eL D.int) one)), some (.fr ((eL D.int) other)), some (.fr (D.int (m_common_length one other))), none, none, none, none], []⟩ _
  generalize zg_slots : (m_common_length one other) = slots
  show Exs _ _ _ ⟨[some (.fr ((eL D.int) one)), some (.fr ((eL D.int) other)), some (.fr (D.int slots)), none, none, none, none], []⟩ _
  rw [zg_slots] at hcn
  have hl1 := min_len one slots.toNat (by omega)
  have hl2 := min_len other slots.toNat (by omega)
  rw [show ((slots.toNat : Nat) : Int) = slots by omega] at hl1 hl2
  refine exs_cons (ex_set 3 (ev_listZip (enc := D.int) (encB := D.int) (xs := (m_least_supplies one slots)) (ys := (m_least_supplies other slots)) rfl (ea_cons (ev_call (ds := [(eL D.int) one, D.int slots]) (ds' := []) (dvs := []) (dfs := []) O_least_supplies (zhr.mono (by decide)) T.m_least_supplies T.k_least_supplies T.b_least_supplies .nil (fun _ => .nil) (ea_cons (ev_var 0 rfl (.inl rfl) rfl) (ea_cons (ev_var 2 rfl (.inl rfl) rfl) ea_nil)) (fun _ zkk => ⟨one, slots, rfl, rfl, (by walk_at "pre"), zkk⟩) (by exact rfl)) (ea_cons (ev_call (ds := [(eL D.int) other, D.int slots]) (ds' := []) (dvs := []) (dfs := []) O_least_supplies (zhr.mono (by decide)) T.m_least_supplies T.k_least_supplies T.b_least_supplies .nil (fun _ => .nil) (ea_cons (ev_var 1 rfl (.inl rfl) rfl) (ea_cons (ev_var 2 rfl (.inl rfl) rfl) ea_nil)) (fun _ zkk => ⟨other, slots, rfl, rfl, (by walk_at "pre"), zkk⟩) (by exact rfl)) ea_nil)) (by walk_at "sd") (by exact rfl) T.n_list (by exact rfl) T.n_zip) ?_ nd rfl (.inl rfl))
  show Exs _ _ _ ⟨[some (.fr ((eL D.int) one)), some (.fr ((eL D.int) other)), some (.fr (D.int slots)), some (.fr ((eL (eT2 D.int D.int)) ((m_least_supplies one slots).zip (m_least_supplies other slots)))), none, none, none], []⟩ _
  generalize zg_pairs : ((m_least_supplies one slots).zip (m_least_supplies other slots)) = pairs
  show Exs _ _ _ ⟨[some (.fr ((eL D.int) one)), some (.fr ((eL D.int) other)), some (.fr (D.int slots)), some (.fr ((eL (eT2 D.int D.int)) pairs)), none, none, none], []⟩ _
  refine exs_cons (ex_forE (enc := (eT2 D.int (eT2 D.int D.int))) (fun (zs0 : Unit) => (⟨[some (.fr ((eL D.int) one)), some (.fr ((eL D.int) other)), some (.fr (D.int slots)), some (.fr ((eL (eT2 D.int D.int)) pairs)), none, none, none], []⟩ : Nz.S)) (m_first_shortage_l0) () (fun (zi0 : Nat) (zs0 : Unit) => True) (fun r c S' => c = .fr ((eO D.int) r) ∧ True) (src_enumL (enc := (eT2 D.int D.int)) (xs := pairs) (ea_cons (ev_var 3 rfl (.inl rfl) rfl) ea_nil) (by exact rfl) T.n_enumerate) ⟨⟨.inr rfl, .inr rfl, .inr rfl, .inr rfl, .inl rfl, .inl rfl, .inl rfl, trivial⟩, rfl⟩ trivial ?_ ?_ ?_ PassesOwn.never rfl)
  · intro zi0 zy0 zs0 zhy0 zrun0 zq0
    skip
    refine ⟨⟨[some (.fr ((eL D.int) one)), some (.fr ((eL D.int) other)), some (.fr (D.int slots)), some (.fr ((eL (eT2 D.int D.int)) pairs)), some (.fr (D.int zy0.1)), some (.fr (D.int zy0.2.1)), some (.fr (D.int zy0.2.2))], []⟩, (eg_tup rfl (egs_cons (eg_name 4 nd rfl (.inl rfl)) (egs_cons (eg_tup rfl (egs_cons (eg_name 5 nd rfl (.inl rfl)) (egs_cons (eg_name 6 nd rfl (.inl rfl)) egs_nil))) egs_nil))), ?_⟩
    refine exs_one (ex_ifP bd_d (et_cmp o_lt (ev_var 5 rfl (.inl rfl) rfl) (ev_var 6 rfl (.inl rfl) rfl) (nomark _)) (fun (zh1 : (zy0.2.1 < zy0.2.2)) => ?_) (fun (zh1 : ¬ (zy0.2.1 < zy0.2.2)) => ?_))
    · skip
      refine exs_one (ex_ret (ev_var 4 rfl (.inl rfl) rfl) ?_)
      have est : (m_first_shortage_l0) zs0 zy0 = .error (some zy0.1) := by simp only [m_first_shortage_l0, not_true_eq_false, not_false_eq_true, ↓reduceIte, ↓if_pos zh1]
      exact ⟨_, est, rfl, trivial⟩
    · skip
      refine exs_nil ?_
      have est : (m_first_shortage_l0) zs0 zy0 = .ok () := by simp only [m_first_shortage_l0, not_true_eq_false, not_false_eq_true, ↓reduceIte, ↓if_neg zh1]
      exact ⟨_, est, ⟨⟨.inr rfl, .inr rfl, .inr rfl, .inr rfl, .inl rfl, .inl rfl, .inl rfl, trivial⟩, rfl⟩, trivial⟩
  · rintro zr zc zS zrun0 ⟨rfl, zhL⟩
    skip
    have zh2 := zrun0
    have efin : m_first_shortage one other = zr := by subst zg_pairs; subst zg_slots; simp only [m_first_shortage, not_true_eq_false, not_false_eq_true, ↓reduceIte, ↓zh2]
    rw [efin] at zk
    exact zk _
  · intro zs0 zrun0 zq0
    have zh3 := zrun0
    show Exs _ _ _ ⟨[some (.fr ((eL D.int) one)), some (.fr ((eL D.int) other)), some (.fr (D.int slots)), some (.fr ((eL (eT2 D.int D.int)) pairs)), none, none, none], []⟩ _
    refine exs_one (ex_ret ev_non ?_)
    have efin : m_first_shortage one other = (none : Option Int) := by subst zg_pairs; subst zg_slots; simp only [m_first_shortage, not_true_eq_false, not_false_eq_true, ↓reduceIte, ↓zh3]
    rw [efin] at zk
    exact zk _
def m_dominates (one : List Int) (other : List Int) : Bool :=
  ((m_first_shortage one other).isNone)
theorem sc_dominates : FnScope ["one", "other"] ["one", "other"] (defScope s_dominates) := ⟨rfl, rfl, rfl, by decide +kernel, rfl, by decide +kernel, by decide +kernel⟩
def sp_dominates : SpN := fun zcs zL zKc => ∃ one : List Int, ∃ other : List Int, zcs = [.fr ((eL D.int) one), .fr ((eL D.int) other)] ∧ zL = [] ∧ ((0 < one.length ∧ one.length ≤ 12 ∧ (∀ x ∈ one, 0 ≤ x ∧ x ≤ 4000000)) ∧ 0 < other.length ∧ other.length ≤ 12 ∧ (∀ x ∈ other, 0 ≤ x ∧ x ≤ 4000000)) ∧ ∀ zL', zKc (.fr (D.bl (m_dominates one other))) zL'
theorem ok_dominates (T : TX P K mg) : FnOk P w K mg base CX0 4 T.a_dominates T.d_dominates ["one", "other"] (SpOf K mg sp_dominates) := by
  have O_first_shortage := ok_first_shortage (P := P) (w := w) (base := base) T
  refine T.F_dominates.okN sc_dominates (fun zcs zL zKc zh => by obtain ⟨one, other, rfl, _⟩ := zh; rfl) fun zcdv zA zout zst zH zE zB zcs zL zKc zhr zh => ?_
  obtain ⟨one, other, rfl, rfl, hpre, zk⟩ := zh
  have nd := sc_dominates.nd
  have hSL := sizeLine_eq
  show Exs _ _ _ ⟨[some (.fr ((eL D.int) one)), some (.fr ((eL D.int) other))], []⟩ _
  refine exs_one (ex_ret (ev_cmp (o_isO (enc := D.int) (y := (m_first_shortage one other)) (fun _ => rfl)) (ev_call (ds := [(eL D.int) one, (eL D.int) other]) (ds' := []) (dvs := []) (dfs := []) O_first_shortage (zhr.mono (by decide)) T.m_first_shortage T.k_first_shortage T.b_first_shortage .nil (fun _ => .nil) (ea_cons (ev_var 0 rfl (.inl rfl) rfl) (ea_cons (ev_var 1 rfl (.inl rfl) rfl) ea_nil)) (fun _ zkk => ⟨one, other, rfl, rfl, (by walk_at "pre"), zkk⟩) (by exact rfl)) ev_non (by rfl)) ?_)
  have efin : m_dominates one other = ((m_first_shortage one other).isNone) := by simp only [m_dominates, not_true_eq_false, not_false_eq_true, ↓reduceIte]
  rw [efin] at zk
  exact zk _
def m_supply_bound (table : List Int) : Int × Int × Int :=
  let lacks1 : List Int := ((enL 0 (m_least_supplies table (table.length : Int))).map (fun zc2 : Int × Int => ((table.sum * zc2.1) - ((table.length : Int) * zc2.2))))
  (table.sum, (maxL lacks1), (table.length : Int))
theorem enL_len {τ : Type} (xs : List τ) : ∀ k : Nat, (enL k xs).length = xs.length := by
  induction xs with
  | nil => intro k; rfl
  | cons x r ih => intro k; show (enL (k + 1) r).length + 1 = r.length + 1; rw [ih]
set_option hygiene false in
local macro_rules | `(tactic| walk_at "sd") => `(tactic| first | omega | (rw [enL_len, hl1]; omega) | fail)
set_option hygiene false in
local macro_rules | `(tactic| walk_at "pre") => `(tactic| first | exact ⟨by omega, by omega, by omega, by omega, by omega, by omega⟩ | fail)
theorem sc_supply_bound : FnScope ["table", "top", "bottom", "lacks", "length", "units"] ["table"] (defScope s_supply_bound) := ⟨rfl, rfl, rfl, by decide +kernel, rfl, by decide +kernel, by decide +kernel⟩
def sp_supply_bound : SpN := fun zcs zL zKc => ∃ table : List Int, zcs = [.fr ((eL D.int) table)] ∧ zL = [] ∧ (0 < table.length ∧ table.length ≤ 12 ∧ (∀ x ∈ table, 0 ≤ x ∧ x ≤ 4000000)) ∧ ∀ zL', zKc (.fr ((eT3 D.int D.int D.int) (m_supply_bound table))) zL'
theorem ok_supply_bound (T : TX P K mg) : FnOk P w K mg base CX0 3 T.a_supply_bound T.d_supply_bound ["table"] (SpOf K mg sp_supply_bound) := by
  have O_least_supplies := ok_least_supplies (P := P) (w := w) (base := base) T
  refine T.F_supply_bound.okN sc_supply_bound (fun zcs zL zKc zh => by obtain ⟨table, rfl, _⟩ := zh; rfl) fun zcdv zA zout zst zH zE zB zcs zL zKc zhr zh => ?_
  obtain ⟨table, rfl, rfl, hpre, zk⟩ := zh
  have nd := sc_supply_bound.nd
  have hSL := sizeLine_eq
  have hs1 := sum6 hpre
  have hl1 := min_len table table.length (by omega)
  show Exs _ _ _ ⟨[some (.fr ((eL D.int) table)), none, none, none, none, none], []⟩ _
  refine exs_cons (ex_set 1 (ev_callB (ds := [(eL D.int) table]) (c_sumL rfl) (ea_cons (ev_var 0 rfl (.inl rfl) rfl) ea_nil) (by exact rfl) T.n_sum (by decide +kernel)) ?_ nd rfl (.inr rfl))
  show Exs _ _ _ ⟨[some (.fr ((eL D.int) table)), some (.fr (D.int table.sum)), none, none, none, none], []⟩ _
  refine exs_cons (ex_set 2 (ev_len (ln_L (xs := table) (enc := D.int) (by exact rfl)) (ev_var 0 rfl (.inl rfl) rfl) (by exact rfl) T.n_len) ?_ nd rfl (.inr rfl))
  show Exs _ _ _ ⟨[some (.fr ((eL D.int) table)), some (.fr (D.int table.sum)), some (.fr (D.int (table.length : Int))), none, none, none], []⟩ _
  refine exs_cons (ex_setLcM 3 (enc2 := D.int) 199 (fun zc1 : Int × Int => ((table.sum * zc1.1) - ((table.length : Int) * zc1.2))) _ rfl nd rfl rfl (sw_true rfl rfl rfl (by decide +kernel)) (blkOk_by (N := ["table", "top", "bottom", "lacks", "length", "units"]) (sc := defScope s_supply_bound) (own := [(("length" : Str), 4), (("units" : Str), 5)]) (by decide +kernel)) (src_enumL (enc := D.int) (xs := (m_least_supplies table (table.length : Int))) (ea_cons (ev_call (ds := [(eL D.int) table, D.int (table.length : Int)]) (ds' := []) (dvs := []) (dfs := []) O_least_supplies (zhr.mono (by decide)) T.m_least_supplies T.k_least_supplies T.b_least_supplies .nil (fun _ => .nil) (ea_cons (ev_var 0 rfl (.inl rfl) rfl) (ea_cons (ev_var 2 rfl (.inr (.inl rfl)) rfl) ea_nil)) (fun _ zkk => ⟨table, (table.length : Int), rfl, rfl, (by walk_at "pre"), zkk⟩) (by exact rfl)) ea_nil) (by exact rfl) T.n_enumerate) (by simp [names]) (by decide) (by walk_at "sd") (fun _ zc1 _ zhyzc1 _ _ _ _ _ => (eg_tupC rfl (egs_consC (eg_nameC 4 nd rfl (.inl rfl) (by decide) (.inr rfl)) (egs_consC (eg_nameC 5 nd rfl (.inl rfl) (by decide) (.inr rfl)) egs_nilC)))) (fun _ zc1 _ zhyzc1 _ _ _ _ _ => (ev_bin o_sub (ev_bin (o_mul (by walk_at "mul")) (ev_var 1 rfl (.inr (.inl rfl)) rfl) (ev_var 4 rfl (.inl rfl) rfl)) (ev_bin (o_mul (by walk_at "mul")) (ev_var 2 rfl (.inr (.inl rfl)) rfl) (ev_var 5 rfl (.inl rfl) rfl)))) ?_)
  show Exs _ _ _ ⟨[some (.fr ((eL D.int) table)), some (.fr (D.int table.sum)), some (.fr (D.int (table.length : Int))), some (.fr ((eL D.int) ((enL 0 (m_least_supplies table (table.length : Int))).map (fun zc1 : Int × Int => ((table.sum * zc1.1) - ((table.length : Int) * zc1.2)))))), none, none], []⟩ _
  generalize zg_lacks : ((enL 0 (m_least_supplies table (table.length : Int))).map (fun zc1 : Int × Int => ((table.sum * zc1.1) - ((table.length : Int) * zc1.2)))) = lacks
  show Exs _ _ _ ⟨[some (.fr ((eL D.int) table)), some (.fr (D.int table.sum)), some (.fr (D.int (table.length : Int))), some (.fr ((eL D.int) lacks)), none, none], []⟩ _
  have hne : lacks ≠ [] := by rw [← zg_lacks]; intro q; have q2 := congrArg List.length q; simp only [List.length_map] at q2; rw [enL_len] at q2; rw [hl1] at q2; simp at q2
  refine exs_one (ex_ret (ev_tup (ds := [D.int table.sum, D.int (maxL lacks), D.int (table.length : Int)]) (ea_cons (ev_var 1 rfl (.inr (.inl rfl)) rfl) (ea_cons (ev_callB (ds := [(eL D.int) lacks]) (c_maxL (ns := lacks) rfl (by walk_at "ne")) (ea_cons (ev_var 3 rfl (.inl rfl) rfl) ea_nil) (by exact rfl) T.n_max (by decide +kernel)) (ea_cons (ev_var 2 rfl (.inr (.inl rfl)) rfl) ea_nil))) (by simp only [List.length_cons, List.length_nil]; decide)) ?_)
  have efin : m_supply_bound table = (table.sum, (maxL lacks), (table.length : Int)) := by subst zg_lacks; simp only [m_supply_bound, not_true_eq_false, not_false_eq_true, ↓reduceIte]
  rw [efin] at zk
  exact zk _
def m_law_is_integer (actual : Int) : Bool :=
  (true && (!false))
theorem enL_range {τ : Type} (f : Nat → τ) : ∀ n k : Nat, enL k ((List.range' k n).map f) = (List.range' k n).map fun i : Nat => ((i : Int), f i)
  | 0, _ => rfl
  | n + 1, k => by
    rw [List.range'_succ, List.map_cons, List.map_cons]
    show _ :: enL (k + 1) _ = _
    rw [enL_range f n (k + 1)]
theorem lacks_eq {t : List Int} (ht : 0 < t.length) : m_supply_bound t = (t.sum, maxL ((List.range' 0 (t.length + 1)).map fun l : Nat => t.sum * (l : Int) - (t.length : Int) * Mn t l), (t.length : Int)) := by
  unfold m_supply_bound
  dsimp only
  rw [least_eq t _ ht, List.range_eq_range', enL_range, List.map_map]
  rfl
theorem gap_per {t : List Int} (ht : 0 < t.length) (l : Nat) : t.sum * ((l + t.length : Nat) : Int) - (t.length : Int) * Mn t (l + t.length) = t.sum * (l : Int) - (t.length : Int) * Mn t l := by
  rw [Mn_shift t l ht, Int.natCast_add, Int.mul_add, Int.mul_add, Int.mul_comm (t.length : Int) t.sum]
  omega
theorem gap_mod {t : List Int} (ht : 0 < t.length) (l : Nat) : t.sum * (l : Int) - (t.length : Int) * Mn t l = t.sum * ((l % t.length : Nat) : Int) - (t.length : Int) * Mn t (l % t.length) := by
  have key : ∀ q r : Nat, t.sum * ((r + q * t.length : Nat) : Int) - (t.length : Int) * Mn t (r + q * t.length) = t.sum * (r : Int) - (t.length : Int) * Mn t r := by
    intro q r
    induction q with
    | zero => simp
    | succ q ih =>
      rw [show r + (q + 1) * t.length = (r + q * t.length) + t.length by rw [Nat.succ_mul]; omega, gap_per ht, ih]
  have := key (l / t.length) (l % t.length)
  rw [show l % t.length + l / t.length * t.length = l by rw [Nat.mul_comm]; exact Nat.mod_add_div l t.length] at this
  exact this
theorem sc_law_is_integer : FnScope ["actual"] ["actual"] (defScope s_law_is_integer) := ⟨rfl, rfl, rfl, by decide +kernel, rfl, by decide +kernel, by decide +kernel⟩
def sp_law_is_integer : SpN := fun zcs zL zKc => ∃ actual : Int, zcs = [.fr (D.int actual)] ∧ zL = [] ∧ (True) ∧ ∀ zL', zKc (.fr (D.bl (m_law_is_integer actual))) zL'
theorem ok_law_is_integer (T : TX P K mg) : FnOk P w K mg base CX0 1 T.a_law_is_integer T.d_law_is_integer ["actual"] (SpOf K mg sp_law_is_integer) := by
  refine T.F_law_is_integer.okN sc_law_is_integer (fun zcs zL zKc zh => by obtain ⟨actual, rfl, _⟩ := zh; rfl) fun zcdv zA zout zst zH zE zB zcs zL zKc zhr zh => ?_
  obtain ⟨actual, rfl, rfl, hpre, zk⟩ := zh
  have nd := sc_law_is_integer.nd
  have hSL := sizeLine_eq
  show Exs _ _ _ ⟨[some (.fr (D.int actual))], []⟩ _
  refine exs_one (ex_ret (ev_andP Iff.rfl (ev_isi (T := "int") (b := true) (ev_var 0 rfl (.inl rfl) rfl) rfl (by decide) (by exact rfl) T.n_isinstance (by exact rfl) T.n_int (by decide +kernel)) (fun zhp => (ev_one (ev_not (ev_isi (T := "bool") (b := false) (ev_var 0 rfl (.inl rfl) rfl) rfl (by decide) (by exact rfl) T.n_isinstance (by exact rfl) T.n_bool (by decide +kernel)))))) ?_)
  have efin : m_law_is_integer actual = (true && (!false)) := by simp only [m_law_is_integer, not_true_eq_false, not_false_eq_true, ↓reduceIte]
  rw [efin] at zk
  exact zk _
def m_law_is_integero (actual : Option Int) : Bool :=
  ((actual.isSome && true) && (!(actual.isSome && false)))
theorem sc_law_is_integero : FnScope ["actual"] ["actual"] (defScope s_law_is_integero) := ⟨rfl, rfl, rfl, by decide +kernel, rfl, by decide +kernel, by decide +kernel⟩
def sp_law_is_integero : SpN := fun zcs zL zKc => ∃ actual : Option Int, zcs = [.fr ((eO D.int) actual)] ∧ zL = [] ∧ (True) ∧ ∀ zL', zKc (.fr (D.bl (m_law_is_integero actual))) zL'
theorem ok_law_is_integero (T : TX P K mg) : FnOk P w K mg base CX0 1 T.a_law_is_integero T.d_law_is_integero ["actual"] (SpOf K mg sp_law_is_integero) := by
  refine T.F_law_is_integero.okN sc_law_is_integero (fun zcs zL zKc zh => by obtain ⟨actual, rfl, _⟩ := zh; rfl) fun zcdv zA zout zst zH zE zB zcs zL zKc zhr zh => ?_
  obtain ⟨actual, rfl, rfl, hpre, zk⟩ := zh
  have nd := sc_law_is_integero.nd
  have hSL := sizeLine_eq
  show Exs _ _ _ ⟨[some (.fr ((eO D.int) actual))], []⟩ _
  refine exs_one (ex_ret (ev_andP Iff.rfl (ev_isiO (enc := D.int) (y := actual) (T := "int") (b := true) (ev_var 0 rfl (.inl rfl) rfl) (fun _ => rfl) (by decide) (by decide) (by exact rfl) T.n_isinstance (by exact rfl) T.n_int (by decide +kernel)) (fun zhp => (ev_one (ev_not (ev_isiO (enc := D.int) (y := actual) (T := "bool") (b := false) (ev_var 0 rfl (.inl rfl) rfl) (fun _ => rfl) (by decide) (by decide) (by exact rfl) T.n_isinstance (by exact rfl) T.n_bool (by decide +kernel)))))) ?_)
  have efin : m_law_is_integero actual = ((actual.isSome && true) && (!(actual.isSome && false))) := by simp only [m_law_is_integero, not_true_eq_false, not_false_eq_true, ↓reduceIte]
  rw [efin] at zk
  exact zk _
def m_law_slot (table : List Int) (slot : Int) : Int :=
  (table.getD ((slot % (table.length : Int))).toNat default)
theorem sc_law_slot : FnScope ["table", "slot"] ["table", "slot"] (defScope s_law_slot) := ⟨rfl, rfl, rfl, by decide +kernel, rfl, by decide +kernel, by decide +kernel⟩
def sp_law_slot : SpN := fun zcs zL zKc => ∃ table : List Int, ∃ slot : Int, zcs = [.fr ((eL D.int) table), .fr (D.int slot)] ∧ zL = [] ∧ (0 < table.length ∧ table.length ≤ 1001) ∧ ∀ zL', zKc (.fr (D.int (m_law_slot table slot))) zL'
theorem ok_law_slot (T : TX P K mg) : FnOk P w K mg base CX0 1 T.a_law_slot T.d_law_slot ["table", "slot"] (SpOf K mg sp_law_slot) := by
  refine T.F_law_slot.okN sc_law_slot (fun zcs zL zKc zh => by obtain ⟨table, slot, rfl, _⟩ := zh; rfl) fun zcdv zA zout zst zH zE zB zcs zL zKc zhr zh => ?_
  obtain ⟨table, slot, rfl, rfl, hpre, zk⟩ := zh
  have nd := sc_law_slot.nd
  have hSL := sizeLine_eq
  have hT : (0 : Int) < (table.length : Int) := by omega
  have hm1 := Int.emod_nonneg slot (show (table.length : Int) ≠ 0 by omega)
  have hm2 := Int.emod_lt_of_pos slot hT
  show Exs _ _ _ ⟨[some (.fr ((eL D.int) table)), some (.fr (D.int slot))], []⟩ _
  refine exs_one (ex_ret (ev_ix (ix_L (xs := table) (enc := D.int) (by exact rfl) (by walk_at "sd") (by walk_at "sd")) (ev_var 0 rfl (.inl rfl) rfl) (ev_bin (o_mod (by walk_at "sd")) (ev_var 1 rfl (.inl rfl) rfl) (ev_len (ln_L (xs := table) (enc := D.int) (by exact rfl)) (ev_var 0 rfl (.inl rfl) rfl) (by exact rfl) T.n_len))) ?_)
  have efin : m_law_slot table slot = (table.getD ((slot % (table.length : Int))).toNat default) := by simp only [m_law_slot, not_true_eq_false, not_false_eq_true, ↓reduceIte]
  rw [efin] at zk
  exact zk _
def m_law_least_l1 (table : List Int) (lo0 : Int) (zs1 : Int) (zy1 : Nat) : Int :=
  (zs1 + (m_law_slot table (lo0 + (zy1 : Int))))
def m_law_least_l0 (table : List Int) (length : Int) (zs0 : (Option Int)) (zy0 : Nat) : (Option Int) :=
  if ((zs0.isNone = true) ∨ (((List.range ((((0 : Int) + (zy0 : Int)) + length) - ((0 : Int) + (zy0 : Int))).toNat).foldl (m_law_least_l1 table ((0 : Int) + (zy0 : Int))) (0 : Int)) < (zs0.getD default))) then (some ((List.range ((((0 : Int) + (zy0 : Int)) + length) - ((0 : Int) + (zy0 : Int))).toNat).foldl (m_law_least_l1 table ((0 : Int) + (zy0 : Int))) (0 : Int))) else zs0
def m_law_least (table : List Int) (length : Int) : Option Int :=
  ((List.range ((table.length : Int)).toNat).foldl (m_law_least_l0 table length) (none : Option Int))
theorem some_of_not {o : Option Int} (h : ¬ (o.isNone = true)) : o.isSome = true := by
  cases o with
  | none => exact absurd rfl h
  | some v => rfl
set_option hygiene false in
local macro_rules | `(tactic| walk_at "some") => `(tactic| first | exact some_of_not (by first | assumption | (exact (not_or.mp (by assumption)).1)) | fail)
theorem slot_eq81 (t : List Int) (s : Nat) : m_law_slot t (s : Int) = per t s := by
  unfold m_law_slot per
  rw [← Int.natCast_emod, Int.toNat_natCast]
theorem tot_eq81 (t : List Int) (s : Nat) : ∀ n : Nat, (List.range n).foldl (m_law_least_l1 t (s : Int)) 0 = Sup t n s
  | 0 => by unfold Sup; simp
  | n + 1 => by
    rw [List.range_succ, List.foldl_append, tot_eq81 t s n]
    show Sup t n s + m_law_slot t ((s : Int) + (n : Int)) = Sup t (n + 1) s
    rw [← Int.natCast_add, slot_eq81]
    unfold Sup
    show _ = Pf t (s + n) + per t (s + n) - Pf t s
    omega
theorem least_fold81 (t : List Int) (n : Nat) : ∀ m : Nat, 0 < m → ∃ b : Nat, b < m ∧ (List.range m).foldl (m_law_least_l0 t (n : Int)) none = some (Sup t n b) ∧ ∀ i, i < m → Sup t n b ≤ Sup t n i
  | 0, h => absurd h (by omega)
  | m + 1, _ => by
    have st : ∀ o : Option Int, m_law_least_l0 t (n : Int) o m = if (o.isNone = true) ∨ Sup t n m < o.getD default then some (Sup t n m) else o := fun o => by
      unfold m_law_least_l0
      rw [show (((0 : Int) + (m : Int)) + (n : Int) - ((0 : Int) + (m : Int))).toNat = n by omega, Int.zero_add, tot_eq81]
    rw [List.range_succ, List.foldl_append]
    rcases Nat.eq_zero_or_pos m with rfl | hm
    · refine ⟨0, by omega, ?_, fun i hi => by rw [show i = 0 by omega]; exact Int.le_refl _⟩
      show m_law_least_l0 t (n : Int) none 0 = _
      rw [st, if_pos (.inl rfl)]
    · obtain ⟨b, h1, h2, h3⟩ := least_fold81 t n m hm
      rw [h2]
      show ∃ b', b' < m + 1 ∧ m_law_least_l0 t (n : Int) (some (Sup t n b)) m = _ ∧ _
      rw [st]
      by_cases q : Sup t n m < Sup t n b
      · rw [if_pos (.inr q)]
        refine ⟨m, by omega, rfl, fun i hi => ?_⟩
        rcases Nat.lt_or_eq_of_le (Nat.le_of_lt_succ hi) with h | rfl
        · have := h3 i h; omega
        · exact Int.le_refl _
      · rw [if_neg (by intro z; rcases z with z | z; cases z; exact q z)]
        refine ⟨b, by omega, rfl, fun i hi => ?_⟩
        rcases Nat.lt_or_eq_of_le (Nat.le_of_lt_succ hi) with h | rfl
        · exact h3 i h
        · omega
theorem least81 {t : List Int} (ht : 0 < t.length) (n : Nat) : m_law_least t (n : Int) = some (Mn t n) := by
  obtain ⟨b, h1, h2, h3⟩ := least_fold81 t n t.length ht
  unfold m_law_least
  rw [Int.toNat_natCast, h2, Mn_eq h1 h3]
theorem least_get {t : List Int} (ht : 0 < t.length) (n : Nat) : (m_law_least t (n : Int)).getD default = Mn t n := by rw [least81 ht]; rfl
theorem sc_law_least : FnScope ["table", "length", "least", "start", "total", "slot"] ["table", "length"] (defScope s_law_least) := ⟨rfl, rfl, rfl, by decide +kernel, rfl, by decide +kernel, by decide +kernel⟩
def sp_law_least : SpN := fun zcs zL zKc => ∃ table : List Int, ∃ length : Int, zcs = [.fr ((eL D.int) table), .fr (D.int length)] ∧ zL = [] ∧ (0 < table.length ∧ table.length ≤ 1001 ∧ 0 ≤ length ∧ length ≤ 1000) ∧ ∀ zL', zKc (.fr ((eO D.int) (m_law_least table length))) zL'
theorem ok_law_least (T : TX P K mg) : FnOk P w K mg base CX0 2 T.a_law_least T.d_law_least ["table", "length"] (SpOf K mg sp_law_least) := by
  have O_law_slot := ok_law_slot (P := P) (w := w) (base := base) T
  refine T.F_law_least.okN sc_law_least (fun zcs zL zKc zh => by obtain ⟨table, length, rfl, _⟩ := zh; rfl) fun zcdv zA zout zst zH zE zB zcs zL zKc zhr zh => ?_
  obtain ⟨table, length, rfl, rfl, hpre, zk⟩ := zh
  have nd := sc_law_least.nd
  have hSL := sizeLine_eq
  show Exs _ _ _ ⟨[some (.fr ((eL D.int) table)), some (.fr (D.int length)), none, none, none, none], []⟩ _
  refine exs_cons (ex_set 2 ev_non ?_ nd rfl (.inl rfl))
  show Exs _ _ _ ⟨[some (.fr ((eL D.int) table)), some (.fr (D.int length)), some (.fr ((eO D.int) (none : Option Int))), none, none, none], []⟩ _
  refine exs_cons (ex_forF (enc := (fun i : Nat => D.int ((0 : Int) + (i : Int)))) (fun (zs0 : (Option Int)) => (⟨[some (.fr ((eL D.int) table)), some (.fr (D.int length)), some (.fr ((eO D.int) zs0)), none, none, none], []⟩ : Nz.S)) (m_law_least_l0 table length) (none : Option Int) (fun (zi0 : Nat) (zs0 : (Option Int)) => True) (src_range1 (ea_cons (ev_len (ln_L (xs := table) (enc := D.int) (by exact rfl)) (ev_var 0 rfl (.inl rfl) rfl) (by exact rfl) T.n_len) ea_nil) (by exact rfl) T.n_range (by walk_at "sd") (by walk_at "sd")) ⟨⟨.inr rfl, .inr rfl, .inr rfl, .inl rfl, .inl rfl, .inl rfl, trivial⟩, rfl⟩ trivial ?_ ?_ PassesOwn.never rfl)
  · intro zi0 zy0 zs0 zhy0 zq0
    skip
    have hy0 := seq_range zhy0
    have hi := (List.getElem?_eq_some_iff.mp zhy0).1
    simp only [List.length_range] at hi
    refine ⟨⟨[some (.fr ((eL D.int) table)), some (.fr (D.int length)), some (.fr ((eO D.int) zs0)), some (.fr (D.int ((0 : Int) + (zy0 : Int)))), none, none], []⟩, (eg_name 3 nd rfl (.inl rfl)), ?_⟩
    refine exs_cons (ex_set 4 ev_int ?_ nd rfl (.inl rfl))
    show Exs _ _ _ ⟨[some (.fr ((eL D.int) table)), some (.fr (D.int length)), some (.fr ((eO D.int) zs0)), some (.fr (D.int ((0 : Int) + (zy0 : Int)))), some (.fr (D.int (0 : Int))), none], []⟩ _
    refine exs_cons (ex_forF (enc := (fun i : Nat => D.int (((0 : Int) + (zy0 : Int)) + (i : Int)))) (fun (zs1 : Int) => (⟨[some (.fr ((eL D.int) table)), some (.fr (D.int length)), some (.fr ((eO D.int) zs0)), some (.fr (D.int ((0 : Int) + (zy0 : Int)))), some (.fr (D.int zs1)), none], []⟩ : Nz.S)) (m_law_least_l1 table ((0 : Int) + (zy0 : Int))) (0 : Int) (fun (zi1 : Nat) (zs1 : Int) => True) (src_range2 (ea_cons (ev_var 3 rfl (.inl rfl) rfl) (ea_cons (ev_bin o_add (ev_var 3 rfl (.inl rfl) rfl) (ev_var 1 rfl (.inl rfl) rfl)) ea_nil)) (by exact rfl) T.n_range (by walk_at "sd") (by walk_at "sd") (by walk_at "sd") (by walk_at "sd")) ⟨⟨.inr rfl, .inr rfl, .inr rfl, .inr rfl, .inr rfl, .inl rfl, trivial⟩, rfl⟩ trivial ?_ ?_ PassesOwn.never rfl)
    · intro zi1 zy1 zs1 zhy1 zq1
      skip
      have hy1 := seq_range zhy1
      have hi1 := (List.getElem?_eq_some_iff.mp zhy1).1
      simp only [List.length_range] at hi1
      refine ⟨⟨[some (.fr ((eL D.int) table)), some (.fr (D.int length)), some (.fr ((eO D.int) zs0)), some (.fr (D.int ((0 : Int) + (zy0 : Int)))), some (.fr (D.int zs1)), some (.fr (D.int (((0 : Int) + (zy0 : Int)) + (zy1 : Int))))], []⟩, (eg_name 5 nd rfl (.inl rfl)), ?_⟩
      refine exs_one (ex_set 4 (ev_bin o_add (ev_var 4 rfl (.inl rfl) rfl) (ev_call (ds := [(eL D.int) table, D.int (((0 : Int) + (zy0 : Int)) + (zy1 : Int))]) (ds' := []) (dvs := []) (dfs := []) O_law_slot (zhr.mono (by decide)) T.m_law_slot T.k_law_slot T.b_law_slot .nil (fun _ => .nil) (ea_cons (ev_var 0 rfl (.inl rfl) rfl) (ea_cons (ev_var 5 rfl (.inl rfl) rfl) ea_nil)) (fun _ zkk => ⟨table, (((0 : Int) + (zy0 : Int)) + (zy1 : Int)), rfl, rfl, (by walk_at "pre"), zkk⟩) (by exact rfl))) ?_ nd rfl (.inl rfl))
      have est : (m_law_least_l1 table ((0 : Int) + (zy0 : Int))) zs1 zy1 = (zs1 + (m_law_slot table (((0 : Int) + (zy0 : Int)) + (zy1 : Int)))) := by simp only [m_law_least_l1, not_true_eq_false, not_false_eq_true, ↓reduceIte]
      show Le _ _ ∧ _
      try rw [est]
      exact ⟨⟨⟨.inr rfl, .inr rfl, .inr rfl, .inr rfl, .inr rfl, .inl rfl, trivial⟩, rfl⟩, trivial⟩
    · intro zq1
      show Exs _ _ _ ⟨[some (.fr ((eL D.int) table)), some (.fr (D.int length)), some (.fr ((eO D.int) zs0)), some (.fr (D.int ((0 : Int) + (zy0 : Int)))), some (.fr (D.int ((List.range ((((0 : Int) + (zy0 : Int)) + length) - ((0 : Int) + (zy0 : Int))).toNat).foldl (m_law_least_l1 table ((0 : Int) + (zy0 : Int))) (0 : Int)))), none], []⟩ _
      refine exs_one (ex_ifP (bd_or Iff.rfl bd_d) (Ew.et (ew_orP Iff.rfl (et_cmp (o_isO (enc := D.int) (y := zs0) (fun _ => rfl)) (ev_var 2 rfl (.inl rfl) rfl) ev_non (by rfl)) (fun zhp => (ew_or1 (et_cmp o_lt (ev_var 4 rfl (.inl rfl) rfl) (ev_unO (enc := D.int) (y := zs0) (by walk_at "some") (ev_var 2 rfl (.inl rfl) rfl)) (nomark _)))))) (fun (zh1 : ((zs0.isNone = true) ∨ (((List.range ((((0 : Int) + (zy0 : Int)) + length) - ((0 : Int) + (zy0 : Int))).toNat).foldl (m_law_least_l1 table ((0 : Int) + (zy0 : Int))) (0 : Int)) < (zs0.getD default)))) => ?_) (fun (zh1 : ¬ ((zs0.isNone = true) ∨ (((List.range ((((0 : Int) + (zy0 : Int)) + length) - ((0 : Int) + (zy0 : Int))).toNat).foldl (m_law_least_l1 table ((0 : Int) + (zy0 : Int))) (0 : Int)) < (zs0.getD default)))) => ?_))
      · skip
        refine exs_one (ex_set 2 (ev_var 4 rfl (.inl rfl) rfl) ?_ nd rfl (.inl rfl))
        have est : (m_law_least_l0 table length) zs0 zy0 = (some ((List.range ((((0 : Int) + (zy0 : Int)) + length) - ((0 : Int) + (zy0 : Int))).toNat).foldl (m_law_least_l1 table ((0 : Int) + (zy0 : Int))) (0 : Int))) := by simp only [m_law_least_l0, not_true_eq_false, not_false_eq_true, ↓reduceIte, ↓if_pos zh1]
        show Le _ _ ∧ _
        try rw [est]
        exact ⟨⟨⟨.inr rfl, .inr rfl, .inr rfl, .inl rfl, .inl rfl, .inl rfl, trivial⟩, rfl⟩, trivial⟩
      · skip
        refine exs_nil ?_
        have est : (m_law_least_l0 table length) zs0 zy0 = zs0 := by simp only [m_law_least_l0, not_true_eq_false, not_false_eq_true, ↓reduceIte, ↓if_neg zh1]
        show Le _ _ ∧ _
        try rw [est]
        exact ⟨⟨⟨.inr rfl, .inr rfl, .inr rfl, .inl rfl, .inl rfl, .inl rfl, trivial⟩, rfl⟩, trivial⟩
  · intro zq0
    show Exs _ _ _ ⟨[some (.fr ((eL D.int) table)), some (.fr (D.int length)), some (.fr ((eO D.int) ((List.range ((table.length : Int)).toNat).foldl (m_law_least_l0 table length) (none : Option Int)))), none, none, none], []⟩ _
    refine exs_one (ex_ret (ev_var 2 rfl (.inl rfl) rfl) ?_)
    have efin : m_law_least table length = ((List.range ((table.length : Int)).toNat).foldl (m_law_least_l0 table length) (none : Option Int)) := by simp only [m_law_least, not_true_eq_false, not_false_eq_true, ↓reduceIte]
    rw [efin] at zk
    exact zk _
def m_law_tables (numbers : List Int) : (List Int) × (List Int) :=
  let one1 : List Int := ((List.range (((1 : Int) + ((numbers.getD ((0 : Int)).toNat default) % (6 : Int)))).toNat).map (fun zc9 : Nat => ((numbers.getD (((1 : Int) + ((0 : Int) + (zc9 : Int)))).toNat default) % (4 : Int))))
  let other2 : List Int := ((List.range (((1 : Int) + ((numbers.getD ((7 : Int)).toNat default) % (6 : Int)))).toNat).map (fun zc10 : Nat => ((numbers.getD (((8 : Int) + ((0 : Int) + (zc10 : Int)))).toNat default) % (4 : Int))))
  let choice1 : Int := ((numbers.getD ((14 : Int)).toNat default) % (6 : Int))
  if ((3 : Int) ≤ choice1) then let by_1 : Int := ((numbers.getD ((15 : Int)).toNat default) % (one1.length : Int))
  let other2 : List Int := (List.flatten (List.replicate (((1 : Int) + ((numbers.getD ((16 : Int)).toNat default) % (2 : Int)))).toNat ((slcD one1 (some by_1) none) ++ (slcD one1 none (some by_1)))))
  let place1 : Int := ((numbers.getD ((17 : Int)).toNat default) % (other2.length : Int))
  let taken1 : Int := (if ((numbers.getD ((18 : Int)).toNat default) % (2 : Int)) < (other2.getD (place1).toNat default) then ((numbers.getD ((18 : Int)).toNat default) % (2 : Int)) else (other2.getD (place1).toNat default))
  let other2 : List Int := (other2.set (place1).toNat ((other2.getD (place1).toNat default) - taken1))
  if (choice1 = (4 : Int)) then let gets1 : Int := ((numbers.getD ((19 : Int)).toNat default) % (other2.length : Int))
  let other2 : List Int := (other2.set (gets1).toNat ((other2.getD (gets1).toNat default) + taken1))
  let factor3 : Int := ([(1 : Int), (17 : Int), (250000 : Int)].getD ((((numbers.getD ((19 : Int)).toNat default) / (6 : Int)) % (3 : Int))).toNat default)
  ((one1.map (fun zc11 : Int => (zc11 * factor3))), (other2.map (fun zc12 : Int => (zc12 * factor3)))) else let factor3 : Int := ([(1 : Int), (17 : Int), (250000 : Int)].getD ((((numbers.getD ((19 : Int)).toNat default) / (6 : Int)) % (3 : Int))).toNat default)
  ((one1.map (fun zc13 : Int => (zc13 * factor3))), (other2.map (fun zc14 : Int => (zc14 * factor3)))) else let factor3 : Int := ([(1 : Int), (17 : Int), (250000 : Int)].getD ((((numbers.getD ((19 : Int)).toNat default) / (6 : Int)) % (3 : Int))).toNat default)
  ((one1.map (fun zc15 : Int => (zc15 * factor3))), (other2.map (fun zc16 : Int => (zc16 * factor3))))
theorem slc_take {τ : Type} (xs : List τ) {i : Int} (h : 0 ≤ i) : slcD xs none (some i) = xs.take i.toNat := by
  obtain ⟨n, rfl⟩ := Int.eq_ofNat_of_zero_le h
  unfold slcD
  rw [HT.sIx_none, HT.sIx_nat, List.drop_zero, Nat.sub_zero, Int.toNat_natCast, List.take_eq_take_iff]; omega
theorem slc_drop {τ : Type} (xs : List τ) {i : Int} (h : 0 ≤ i) : slcD xs (some i) none = xs.drop i.toNat := by
  obtain ⟨n, rfl⟩ := Int.eq_ofNat_of_zero_le h
  unfold slcD
  rw [HT.sIx_none, HT.sIx_nat, Int.toNat_natCast]
  by_cases q : n ≤ xs.length
  · rw [Nat.min_eq_left q, List.take_of_length_le (by rw [List.length_drop]; exact Nat.le_refl _)]
  · rw [Nat.min_eq_right (by omega), List.drop_eq_nil_of_le (Nat.le_refl _), List.drop_eq_nil_of_le (by omega), List.take_nil]
theorem rot_len (xs : List Int) {b : Int} (h0 : 0 ≤ b) (h1 : b ≤ xs.length) : (slcD xs (some b) none ++ slcD xs none (some b)).length = xs.length := by
  rw [slc_take xs h0, slc_drop xs h0, List.length_append, List.length_drop, List.length_take]
  omega
theorem rep_len (xs : List Int) (n : Nat) : (List.flatten (List.replicate n xs)).length = n * xs.length := by
  induction n with
  | zero => simp
  | succ n ih => rw [List.replicate_succ, List.flatten_cons, List.length_append, ih, Nat.succ_mul]; omega
def Sm (c : Int) (xs : List Int) : Prop := ∀ x ∈ xs, 0 ≤ x ∧ x ≤ c
theorem sm_mod {c : Int} {f : Nat → Int} {xs : List Nat} (h : ∀ i, 0 ≤ f i ∧ f i ≤ c) : Sm c (xs.map f) := fun x hx => by
  obtain ⟨i, _, rfl⟩ := List.mem_map.mp hx
  exact h i
theorem sm_rot {c : Int} {xs : List Int} (h : Sm c xs) {a b : Option Int} : Sm c (slcD xs a none ++ slcD xs none b) := fun x hx => by
  unfold slcD at hx
  rcases List.mem_append.mp hx with q | q
  · exact h x (List.mem_of_mem_drop (List.mem_of_mem_take q))
  · exact h x (List.mem_of_mem_drop (List.mem_of_mem_take q))
theorem sm_rep {c : Int} {xs : List Int} (h : Sm c xs) {n : Nat} : Sm c (List.flatten (List.replicate n xs)) := fun x hx => by
  obtain ⟨ys, h1, h2⟩ := List.mem_flatten.mp hx
  rw [(List.mem_replicate.mp h1).2] at h2
  exact h x h2
theorem sm_set {c : Int} {xs : List Int} (h : Sm c xs) {i : Nat} {v : Int} (hv : 0 ≤ v ∧ v ≤ c) : Sm c (xs.set i v) := fun x hx => by
  rcases List.mem_or_eq_of_mem_set hx with q | q
  · exact h x q
  · rw [q]; exact hv
theorem sm_get {c : Int} {xs : List Int} (h : Sm c xs) {i : Nat} (hi : i < xs.length) : 0 ≤ xs.getD i default ∧ xs.getD i default ≤ c := by
  rw [List.getD_eq_getElem?_getD, List.getElem?_eq_getElem hi]
  exact h _ (List.getElem_mem hi)
theorem sm_mono {c d : Int} {xs : List Int} (h : Sm c xs) (hd : c ≤ d) : Sm d xs := fun x hx => by have := h x hx; omega
theorem fac81 (k : Int) : (([(1 : Int), (17 : Int), (250000 : Int)].getD (k % (3 : Int)).toNat default) = 1) ∨ (([(1 : Int), (17 : Int), (250000 : Int)].getD (k % (3 : Int)).toNat default) = 17) ∨ (([(1 : Int), (17 : Int), (250000 : Int)].getD (k % (3 : Int)).toNat default) = 250000) := by
  have h : (k % 3).toNat = 0 ∨ (k % 3).toNat = 1 ∨ (k % 3).toNat = 2 := by omega
  rcases h with h | h | h <;> rw [h]
  · exact .inl rfl
  · exact .inr (.inl rfl)
  · exact .inr (.inr rfl)
theorem sm_map {xs : List Int} {f : Int} (h : Sm 4 xs) (hf : f = 1 ∨ f = 17 ∨ f = 250000) : Sm 4000000 (xs.map fun x : Int => x * f) := fun x hx => by
  obtain ⟨y, hy, rfl⟩ := List.mem_map.mp hx
  have := h y hy
  rcases hf with rfl | rfl | rfl <;> omega
set_option hygiene false in
local macro_rules | `(tactic| walk_at "rep") => `(tactic| first | (rw [lrt]; omega) | (rw [lrt, Nat.mul_comm]; omega) | fail)
set_option hygiene false in
local macro_rules | `(tactic| walk_at "sd") => `(tactic| first | omega | (simp only [List.length_set]; omega) | fail)
theorem sc_law_tables : FnScope ["numbers", "one", "other", "choice", "by", "place", "taken", "gets", "factor", "k", "capacity"] ["numbers"] (defScope s_law_tables) := ⟨rfl, rfl, rfl, by decide +kernel, rfl, by decide +kernel, by decide +kernel⟩
def sp_law_tables : SpN := fun zcs zL zKc => ∃ numbers : List Int, zcs = [.fr ((eL D.int) numbers)] ∧ zL = [] ∧ (numbers.length = 20 ∧ ∀ x ∈ numbers, 0 ≤ x ∧ x ≤ 1008) ∧ ∀ zL', zKc (.fr ((eT2 (eL D.int) (eL D.int)) (m_law_tables numbers))) zL'
theorem ok_law_tables (T : TX P K mg) : FnOk P w K mg base CX0 1 T.a_law_tables T.d_law_tables ["numbers"] (SpOf K mg sp_law_tables) := by
  refine T.F_law_tables.okN sc_law_tables (fun zcs zL zKc zh => by obtain ⟨numbers, rfl, _⟩ := zh; rfl) fun zcdv zA zout zst zH zE zB zcs zL zKc zhr zh => ?_
  obtain ⟨numbers, rfl, rfl, hpre, zk⟩ := zh
  have nd := sc_law_tables.nd
  have hSL := sizeLine_eq
  show Exs _ _ _ ⟨[some (.fr ((eL D.int) numbers)), none, none, none, none, none, none, none, none, none, none], []⟩ _
  refine exs_cons (ex_setLcM 1 (enc2 := D.int) 199 (fun zc1 : Nat => ((numbers.getD (((1 : Int) + ((0 : Int) + (zc1 : Int)))).toNat default) % (4 : Int))) _ rfl nd rfl rfl (sw_true rfl rfl rfl (by decide +kernel)) (blkOk_by (N := ["numbers", "one", "other", "choice", "by", "place", "taken", "gets", "factor", "k", "capacity"]) (sc := defScope s_law_tables) (own := [(("k" : Str), 9)]) (by decide +kernel)) (src_range1 (ea_cons (ev_bin o_add ev_int (ev_bin (o_mod (by walk_at "sd")) (ev_ix (ix_L (xs := numbers) (enc := D.int) (by exact rfl) (by walk_at "sd") (by walk_at "sd")) (ev_var 0 rfl (.inr (.inl rfl)) rfl) ev_int) ev_int)) ea_nil) (by exact rfl) T.n_range (by walk_at "sd") (by walk_at "sd")) (by simp [names]) (by decide) (by walk_at "sd") (fun _ zc1 _ zhyzc1 _ _ _ _ _ => (eg_nameC 9 nd rfl (.inl rfl) (by decide) (.inr rfl))) (fun _ zc1 _ zhyzc1 _ _ _ _ _ => (ev_bin (o_mod (by walk_at "sd")) (ev_ix (ix_L (xs := numbers) (enc := D.int) (by exact rfl) (by walk_at "sd") (by walk_at "sd")) (ev_var 0 rfl (.inr (.inl rfl)) rfl) (ev_bin o_add ev_int (ev_var 9 rfl (.inl rfl) rfl))) ev_int)) ?_)
  show Exs _ _ _ ⟨[some (.fr ((eL D.int) numbers)), some (.fr ((eL D.int) ((List.range (((1 : Int) + ((numbers.getD ((0 : Int)).toNat default) % (6 : Int)))).toNat).map (fun zc1 : Nat => ((numbers.getD (((1 : Int) + ((0 : Int) + (zc1 : Int)))).toNat default) % (4 : Int)))))), none, none, none, none, none, none, none, none, none], []⟩ _
  generalize zg_one : ((List.range (((1 : Int) + ((numbers.getD ((0 : Int)).toNat default) % (6 : Int)))).toNat).map (fun zc1 : Nat => ((numbers.getD (((1 : Int) + ((0 : Int) + (zc1 : Int)))).toNat default) % (4 : Int)))) = one
  show Exs _ _ _ ⟨[some (.fr ((eL D.int) numbers)), some (.fr ((eL D.int) one)), none, none, none, none, none, none, none, none, none], []⟩ _
  have so : Sm 3 one := by rw [← zg_one]; exact sm_mod fun i => by omega
  have lo : 0 < one.length ∧ one.length ≤ 6 := by rw [← zg_one, List.length_map, List.length_range]; omega
  refine exs_cons (ex_setLcML 2 (enc2 := D.int) 100 (fun zc2 : Nat => ((numbers.getD (((8 : Int) + ((0 : Int) + (zc2 : Int)))).toNat default) % (4 : Int))) _ rfl nd rfl rfl (sw_true rfl rfl rfl (by decide +kernel)) (blkOk_by (N := ["numbers", "one", "other", "choice", "by", "place", "taken", "gets", "factor", "k", "capacity"]) (sc := defScope s_law_tables) (own := [(("k" : Str), 9)]) (by decide +kernel)) (src_range1 (ea_cons (ev_bin o_add ev_int (ev_bin (o_mod (by walk_at "sd")) (ev_ix (ix_L (xs := numbers) (enc := D.int) (by exact rfl) (by walk_at "sd") (by walk_at "sd")) (ev_var 0 rfl (.inr (.inl rfl)) rfl) ev_int) ev_int)) ea_nil) (by exact rfl) T.n_range (by walk_at "sd") (by walk_at "sd")) (by simp [names]) (by decide) (by walk_at "sd") (fun _ zc2 _ zhyzc2 _ _ _ _ _ => (eg_nameC 9 nd rfl (.inl rfl) (by decide) (.inr rfl))) (fun _ zc2 _ zhyzc2 _ _ _ _ _ => (ev_bin (o_mod (by walk_at "sd")) (ev_ix (ix_L (xs := numbers) (enc := D.int) (by exact rfl) (by walk_at "sd") (by walk_at "sd")) (ev_var 0 rfl (.inr (.inl rfl)) rfl) (ev_bin o_add ev_int (ev_var 9 rfl (.inl rfl) rfl))) ev_int)) ?_)
  show Exs _ _ _ ⟨[some (.fr ((eL D.int) numbers)), some (.fr ((eL D.int) one)), some (.ad 100), none, none, none, none, none, none, none, none], [(100, .fl ((((List.range (((1 : Int) + ((numbers.getD ((7 : Int)).toNat default) % (6 : Int)))).toNat).map (fun zc2 : Nat => ((numbers.getD (((8 : Int) + ((0 : Int) + (zc2 : Int)))).toNat default) % (4 : Int))))).map D.int))]⟩ _
  generalize zg_other : ((List.range (((1 : Int) + ((numbers.getD ((7 : Int)).toNat default) % (6 : Int)))).toNat).map (fun zc2 : Nat => ((numbers.getD (((8 : Int) + ((0 : Int) + (zc2 : Int)))).toNat default) % (4 : Int)))) = other
  show Exs _ _ _ ⟨[some (.fr ((eL D.int) numbers)), some (.fr ((eL D.int) one)), some (.ad 100), none, none, none, none, none, none, none, none], [(100, .fl ((other).map D.int))]⟩ _
  have st : Sm 3 other := by rw [← zg_other]; exact sm_mod fun i => by omega
  have lt : 0 < other.length ∧ other.length ≤ 6 := by rw [← zg_other, List.length_map, List.length_range]; omega
  refine exs_cons (ex_set 3 (ev_bin (o_mod (by walk_at "sd")) (ev_ix (ix_L (xs := numbers) (enc := D.int) (by exact rfl) (by walk_at "sd") (by walk_at "sd")) (ev_var 0 rfl (.inr (.inl rfl)) rfl) ev_int) ev_int) ?_ nd rfl (.inl rfl))
  show Exs _ _ _ ⟨[some (.fr ((eL D.int) numbers)), some (.fr ((eL D.int) one)), some (.ad 100), some (.fr (D.int ((numbers.getD ((14 : Int)).toNat default) % (6 : Int)))), none, none, none, none, none, none, none], [(100, .fl ((other).map D.int))]⟩ _
  generalize zg_choice : ((numbers.getD ((14 : Int)).toNat default) % (6 : Int)) = choice
  show Exs _ _ _ ⟨[some (.fr ((eL D.int) numbers)), some (.fr ((eL D.int) one)), some (.ad 100), some (.fr (D.int choice)), none, none, none, none, none, none, none], [(100, .fl ((other).map D.int))]⟩ _
  refine exs_cons (ex_ifP bd_d (et_cmp o_ge (ev_var 3 rfl (.inl rfl) rfl) ev_int (nomark _)) (fun (zh1 : ((3 : Int) ≤ choice)) => ?_) (fun (zh1 : ¬ ((3 : Int) ≤ choice)) => ?_))
  · skip
    refine exs_cons (ex_set 4 (ev_bin (o_mod (by walk_at "sd")) (ev_ix (ix_L (xs := numbers) (enc := D.int) (by exact rfl) (by walk_at "sd") (by walk_at "sd")) (ev_var 0 rfl (.inr (.inl rfl)) rfl) ev_int) (ev_len (ln_L (xs := one) (enc := D.int) (by exact rfl)) (ev_var 1 rfl (.inl rfl) rfl) (by exact rfl) T.n_len)) ?_ nd rfl (.inl rfl))
    show Exs _ _ _ ⟨[some (.fr ((eL D.int) numbers)), some (.fr ((eL D.int) one)), some (.ad 100), some (.fr (D.int choice)), some (.fr (D.int ((numbers.getD ((15 : Int)).toNat default) % (one.length : Int)))), none, none, none, none, none, none], [(100, .fl ((other).map D.int))]⟩ _
    generalize zg_by_ : ((numbers.getD ((15 : Int)).toNat default) % (one.length : Int)) = by_
    show Exs _ _ _ ⟨[some (.fr ((eL D.int) numbers)), some (.fr ((eL D.int) one)), some (.ad 100), some (.fr (D.int choice)), some (.fr (D.int by_)), none, none, none, none, none, none], [(100, .fl ((other).map D.int))]⟩ _
    have b1 := Int.emod_nonneg (numbers.getD ((15 : Int)).toNat default) (show (one.length : Int) ≠ 0 by omega)
    have b2 := Int.emod_lt_of_pos (numbers.getD ((15 : Int)).toNat default) (show (0 : Int) < (one.length : Int) by omega)
    rw [zg_by_] at b1 b2
    have lrt := rot_len one b1 (by omega)
    have lr := rep_len ((slcD one (some by_) none) ++ (slcD one none (some by_))) (((1 : Int) + ((numbers.getD ((16 : Int)).toNat default) % (2 : Int)))).toNat
    rw [lrt] at lr
    have ln2 : (((1 : Int) + ((numbers.getD ((16 : Int)).toNat default) % (2 : Int)))).toNat = 1 ∨ (((1 : Int) + ((numbers.getD ((16 : Int)).toNat default) % (2 : Int)))).toNat = 2 := by omega
    have lr3 : (((1 : Int) + ((numbers.getD ((16 : Int)).toNat default) % (2 : Int)))).toNat * one.length ≤ 12 ∧ 1 ≤ (((1 : Int) + ((numbers.getD ((16 : Int)).toNat default) % (2 : Int)))).toNat * one.length := by rcases ln2 with q | q <;> rw [q] <;> omega
    refine exs_cons (ex_set 2 (ev_repN 101 (enc := D.int) (xs := ((slcD one (some by_) none) ++ (slcD one none (some by_)))) (ev_bin (o_catT (enc := D.int) (xs := (slcD one (some by_) none)) (ys := (slcD one none (some by_))) (by walk_at "sd")) (ev_sliceT (enc := D.int) (xs := one) (by exact rfl) (ev_var 1 rfl (.inl rfl) rfl) (eo_some (ev_var 4 rfl (.inl rfl) rfl)) eo_none) (ev_sliceT (enc := D.int) (xs := one) (by exact rfl) (ev_var 1 rfl (.inl rfl) rfl) eo_none (eo_some (ev_var 4 rfl (.inl rfl) rfl)))) (ev_bin o_add ev_int (ev_bin (o_mod (by walk_at "sd")) (ev_ix (ix_L (xs := numbers) (enc := D.int) (by exact rfl) (by walk_at "sd") (by walk_at "sd")) (ev_var 0 rfl (.inr (.inl rfl)) rfl) ev_int) ev_int)) (by exact rfl) (by walk_at "sd") (by walk_at "sd") (by walk_at "rep") (by simp [names]) (by decide)) ?_ nd rfl (.inl rfl))
    show Exs _ _ _ ⟨[some (.fr ((eL D.int) numbers)), some (.fr ((eL D.int) one)), some (.ad 101), some (.fr (D.int choice)), some (.fr (D.int by_)), none, none, none, none, none, none], [(100, .fl ((other).map D.int)), (101, .fl (((List.flatten (List.replicate (((1 : Int) + ((numbers.getD ((16 : Int)).toNat default) % (2 : Int)))).toNat ((slcD one (some by_) none) ++ (slcD one none (some by_)))))).map D.int))]⟩ _
    refine exs_renumB (L := [(100, .fl ((other).map D.int))]) 101 100 (by simp [names]) (by decide) rfl rfl ?_
    show Exs _ _ _ ⟨[some (.fr ((eL D.int) numbers)), some (.fr ((eL D.int) one)), some (.ad 100), some (.fr (D.int choice)), some (.fr (D.int by_)), none, none, none, none, none, none], [(100, .fl (((List.flatten (List.replicate (((1 : Int) + ((numbers.getD ((16 : Int)).toNat default) % (2 : Int)))).toNat ((slcD one (some by_) none) ++ (slcD one none (some by_)))))).map D.int))]⟩ _
    generalize zg_other1 : (List.flatten (List.replicate (((1 : Int) + ((numbers.getD ((16 : Int)).toNat default) % (2 : Int)))).toNat ((slcD one (some by_) none) ++ (slcD one none (some by_))))) = other1
    show Exs _ _ _ ⟨[some (.fr ((eL D.int) numbers)), some (.fr ((eL D.int) one)), some (.ad 100), some (.fr (D.int choice)), some (.fr (D.int by_)), none, none, none, none, none, none], [(100, .fl ((other1).map D.int))]⟩ _
    rw [zg_other1] at lr
    have sr : Sm 3 other1 := by rw [← zg_other1]; exact sm_rep (sm_rot so)
    refine exs_cons (ex_set 5 (ev_bin (o_mod (by walk_at "sd")) (ev_ix (ix_L (xs := numbers) (enc := D.int) (by exact rfl) (by walk_at "sd") (by walk_at "sd")) (ev_var 0 rfl (.inr (.inl rfl)) rfl) ev_int) (ev_len (ln_L (xs := other1) (enc := D.int) (by exact rfl)) (ev_var 2 rfl (.inl rfl) rfl) (by exact rfl) T.n_len)) ?_ nd rfl (.inl rfl))
    show Exs _ _ _ ⟨[some (.fr ((eL D.int) numbers)), some (.fr ((eL D.int) one)), some (.ad 100), some (.fr (D.int choice)), some (.fr (D.int by_)), some (.fr (D.int ((numbers.getD ((17 : Int)).toNat default) % (other1.length : Int)))), none, none, none, none, none], [(100, .fl ((other1).map D.int))]⟩ _
    generalize zg_place : ((numbers.getD ((17 : Int)).toNat default) % (other1.length : Int)) = place
    show Exs _ _ _ ⟨[some (.fr ((eL D.int) numbers)), some (.fr ((eL D.int) one)), some (.ad 100), some (.fr (D.int choice)), some (.fr (D.int by_)), some (.fr (D.int place)), none, none, none, none, none], [(100, .fl ((other1).map D.int))]⟩ _
    have p1 := Int.emod_nonneg (numbers.getD ((17 : Int)).toNat default) (show (other1.length : Int) ≠ 0 by omega)
    have p2 := Int.emod_lt_of_pos (numbers.getD ((17 : Int)).toNat default) (show (0 : Int) < (other1.length : Int) by omega)
    rw [zg_place] at p1 p2
    have l2 : ∀ v : Int, (other1.set place.toNat v).length = other1.length := fun v => List.length_set
    refine exs_cons (ex_set 6 (ev_callB (ds := [D.int (other1.getD (place).toNat default), D.int ((numbers.getD ((18 : Int)).toNat default) % (2 : Int))]) (c_min2 rfl) (ea_cons (ev_ix (ix_L (xs := other1) (enc := D.int) (by exact rfl) (by walk_at "sd") (by walk_at "sd")) (ev_var 2 rfl (.inl rfl) rfl) (ev_var 5 rfl (.inl rfl) rfl)) (ea_cons (ev_bin (o_mod (by walk_at "sd")) (ev_ix (ix_L (xs := numbers) (enc := D.int) (by exact rfl) (by walk_at "sd") (by walk_at "sd")) (ev_var 0 rfl (.inr (.inl rfl)) rfl) ev_int) ev_int) ea_nil)) (by exact rfl) T.n_min (by decide +kernel)) ?_ nd rfl (.inl rfl))
    show Exs _ _ _ ⟨[some (.fr ((eL D.int) numbers)), some (.fr ((eL D.int) one)), some (.ad 100), some (.fr (D.int choice)), some (.fr (D.int by_)), some (.fr (D.int place)), some (.fr (D.int (if ((numbers.getD ((18 : Int)).toNat default) % (2 : Int)) < (other1.getD (place).toNat default) then ((numbers.getD ((18 : Int)).toNat default) % (2 : Int)) else (other1.getD (place).toNat default)))), none, none, none, none], [(100, .fl ((other1).map D.int))]⟩ _
    generalize zg_taken : (if ((numbers.getD ((18 : Int)).toNat default) % (2 : Int)) < (other1.getD (place).toNat default) then ((numbers.getD ((18 : Int)).toNat default) % (2 : Int)) else (other1.getD (place).toNat default)) = taken
    show Exs _ _ _ ⟨[some (.fr ((eL D.int) numbers)), some (.fr ((eL D.int) one)), some (.ad 100), some (.fr (D.int choice)), some (.fr (D.int by_)), some (.fr (D.int place)), some (.fr (D.int taken)), none, none, none, none], [(100, .fl ((other1).map D.int))]⟩ _
    refine exs_cons (ex_setIT 100 (enc := D.int) (xs := other1) ((other1.getD (place).toNat default) - taken) rfl (by exact rfl) (by walk_at "sd") (by walk_at "sd") (ev_bin o_sub (ev_ix (ix_L (xs := other1) (enc := D.int) (by exact rfl) (by walk_at "sd") (by walk_at "sd")) (ev_var 2 rfl (.inl rfl) rfl) (ev_var 5 rfl (.inl rfl) rfl)) (ev_var 6 rfl (.inl rfl) rfl)) (ev_var 2 rfl (.inl rfl) rfl) (ev_var 5 rfl (.inl rfl) rfl) ?_)
    show Exs _ _ _ ⟨[some (.fr ((eL D.int) numbers)), some (.fr ((eL D.int) one)), some (.ad 100), some (.fr (D.int choice)), some (.fr (D.int by_)), some (.fr (D.int place)), some (.fr (D.int taken)), none, none, none, none], [(100, .fl (((other1.set (place).toNat ((other1.getD (place).toNat default) - taken))).map D.int))]⟩ _
    refine exs_one (ex_ifP bd_d (et_cmp o_eqi (ev_var 3 rfl (.inl rfl) rfl) ev_int (nomark _)) (fun (zh2 : (choice = (4 : Int))) => ?_) (fun (zh2 : ¬ (choice = (4 : Int))) => ?_))
    · skip
      refine exs_cons (ex_set 7 (ev_bin (o_mod (by walk_at "sd")) (ev_ix (ix_L (xs := numbers) (enc := D.int) (by exact rfl) (by walk_at "sd") (by walk_at "sd")) (ev_var 0 rfl (.inr (.inl rfl)) rfl) ev_int) (ev_len (ln_L (xs := (other1.set (place).toNat ((other1.getD (place).toNat default) - taken))) (enc := D.int) (by exact rfl)) (ev_var 2 rfl (.inl rfl) rfl) (by exact rfl) T.n_len)) ?_ nd rfl (.inl rfl))
      show Exs _ _ _ ⟨[some (.fr ((eL D.int) numbers)), some (.fr ((eL D.int) one)), some (.ad 100), some (.fr (D.int choice)), some (.fr (D.int by_)), some (.fr (D.int place)), some (.fr (D.int taken)), some (.fr (D.int ((numbers.getD ((19 : Int)).toNat default) % ((other1.set (place).toNat ((other1.getD (place).toNat default) - taken)).length : Int)))), none, none, none], [(100, .fl (((other1.set (place).toNat ((other1.getD (place).toNat default) - taken))).map D.int))]⟩ _
      generalize zg_gets : ((numbers.getD ((19 : Int)).toNat default) % ((other1.set (place).toNat ((other1.getD (place).toNat default) - taken)).length : Int)) = gets
      show Exs _ _ _ ⟨[some (.fr ((eL D.int) numbers)), some (.fr ((eL D.int) one)), some (.ad 100), some (.fr (D.int choice)), some (.fr (D.int by_)), some (.fr (D.int place)), some (.fr (D.int taken)), some (.fr (D.int gets)), none, none, none], [(100, .fl (((other1.set (place).toNat ((other1.getD (place).toNat default) - taken))).map D.int))]⟩ _
      have hl9 := l2 ((other1.getD (place).toNat default) - taken)
      have q1 := Int.emod_nonneg (numbers.getD ((19 : Int)).toNat default) (show ((other1.set (place).toNat ((other1.getD (place).toNat default) - taken)).length : Int) ≠ 0 by omega)
      have q2 := Int.emod_lt_of_pos (numbers.getD ((19 : Int)).toNat default) (show (0 : Int) < ((other1.set (place).toNat ((other1.getD (place).toNat default) - taken)).length : Int) by omega)
      rw [zg_gets] at q1 q2
      refine exs_one (ex_setIT 100 (enc := D.int) (xs := (other1.set (place).toNat ((other1.getD (place).toNat default) - taken))) (((other1.set (place).toNat ((other1.getD (place).toNat default) - taken)).getD (gets).toNat default) + taken) rfl (by exact rfl) (by walk_at "sd") (by walk_at "sd") (ev_bin o_add (ev_ix (ix_L (xs := (other1.set (place).toNat ((other1.getD (place).toNat default) - taken))) (enc := D.int) (by exact rfl) (by walk_at "sd") (by walk_at "sd")) (ev_var 2 rfl (.inl rfl) rfl) (ev_var 7 rfl (.inl rfl) rfl)) (ev_var 6 rfl (.inl rfl) rfl)) (ev_var 2 rfl (.inl rfl) rfl) (ev_var 7 rfl (.inl rfl) rfl) ?_)
      show Exs _ _ _ ⟨[some (.fr ((eL D.int) numbers)), some (.fr ((eL D.int) one)), some (.ad 100), some (.fr (D.int choice)), some (.fr (D.int by_)), some (.fr (D.int place)), some (.fr (D.int taken)), some (.fr (D.int gets)), none, none, none], [(100, .fl ((((other1.set (place).toNat ((other1.getD (place).toNat default) - taken)).set (gets).toNat (((other1.set (place).toNat ((other1.getD (place).toNat default) - taken)).getD (gets).toNat default) + taken))).map D.int))]⟩ _
      refine exs_cons (ex_set 8 (ev_ix (ix_L (xs := [(1 : Int), (17 : Int), (250000 : Int)]) (enc := D.int) (by exact rfl) (by walk_at "sd") (by walk_at "sd")) (ev_lstF (enc := D.int) [(1 : Int), (17 : Int), (250000 : Int)] (ea_cons ev_int (ea_cons ev_int (ea_cons ev_int ea_nil))) rfl (by simp only [List.length_cons, List.length_nil]; decide)) (ev_bin (o_mod (by walk_at "sd")) (ev_bin (o_div (by walk_at "sd") (by walk_at "sd")) (ev_ix (ix_L (xs := numbers) (enc := D.int) (by exact rfl) (by walk_at "sd") (by walk_at "sd")) (ev_var 0 rfl (.inr (.inl rfl)) rfl) ev_int) ev_int) ev_int)) ?_ nd rfl (.inr rfl))
      show Exs _ _ _ ⟨[some (.fr ((eL D.int) numbers)), some (.fr ((eL D.int) one)), some (.ad 100), some (.fr (D.int choice)), some (.fr (D.int by_)), some (.fr (D.int place)), some (.fr (D.int taken)), some (.fr (D.int gets)), some (.fr (D.int ([(1 : Int), (17 : Int), (250000 : Int)].getD ((((numbers.getD ((19 : Int)).toNat default) / (6 : Int)) % (3 : Int))).toNat default))), none, none], [(100, .fl ((((other1.set (place).toNat ((other1.getD (place).toNat default) - taken)).set (gets).toNat (((other1.set (place).toNat ((other1.getD (place).toNat default) - taken)).getD (gets).toNat default) + taken))).map D.int))]⟩ _
      generalize zg_factor : ([(1 : Int), (17 : Int), (250000 : Int)].getD ((((numbers.getD ((19 : Int)).toNat default) / (6 : Int)) % (3 : Int))).toNat default) = factor
      show Exs _ _ _ ⟨[some (.fr ((eL D.int) numbers)), some (.fr ((eL D.int) one)), some (.ad 100), some (.fr (D.int choice)), some (.fr (D.int by_)), some (.fr (D.int place)), some (.fr (D.int taken)), some (.fr (D.int gets)), some (.fr (D.int factor)), none, none], [(100, .fl ((((other1.set (place).toNat ((other1.getD (place).toNat default) - taken)).set (gets).toNat (((other1.set (place).toNat ((other1.getD (place).toNat default) - taken)).getD (gets).toNat default) + taken))).map D.int))]⟩ _
      have hfffactor := fac81 (numbers.getD ((19 : Int)).toNat default / (6 : Int))
      rw [zg_factor] at hfffactor
      refine exs_freezeT 100 (xs := ((other1.set (place).toNat ((other1.getD (place).toNat default) - taken)).set (gets).toNat (((other1.set (place).toNat ((other1.getD (place).toNat default) - taken)).getD (gets).toNat default) + taken))) (enc := D.int) (by exact rfl) ?_
      show Exs _ _ _ ⟨[some (.fr ((eL D.int) numbers)), some (.fr ((eL D.int) one)), some (.fr ((eL D.int) ((other1.set (place).toNat ((other1.getD (place).toNat default) - taken)).set (gets).toNat (((other1.set (place).toNat ((other1.getD (place).toNat default) - taken)).getD (gets).toNat default) + taken)))), some (.fr (D.int choice)), some (.fr (D.int by_)), some (.fr (D.int place)), some (.fr (D.int taken)), some (.fr (D.int gets)), some (.fr (D.int factor)), none, none], []⟩ _
      refine exs_one (ex_ret (ev_tup (ds := [(eL D.int) (one.map (fun zc3 : Int => (zc3 * factor))), (eL D.int) (((other1.set (place).toNat ((other1.getD (place).toNat default) - taken)).set (gets).toNat (((other1.set (place).toNat ((other1.getD (place).toNat default) - taken)).getD (gets).toNat default) + taken)).map (fun zc4 : Int => (zc4 * factor)))]) (ea_cons (ev_lcM (enc2 := D.int) 199 (fun zc3 : Int => (zc3 * factor)) _ rfl nd (blkOk_by (N := ["numbers", "one", "other", "choice", "by", "place", "taken", "gets", "factor", "k", "capacity"]) (sc := defScope s_law_tables) (own := [(("capacity" : Str), 10)]) (by decide +kernel)) (src_listT (ev_var 1 rfl (.inl rfl) rfl)) (by simp [names]) (by decide) (by walk_at "sd") (fun _ zc3 _ zhyzc3 _ _ _ _ _ => (eg_nameC 10 nd rfl (.inl rfl) (by decide) (.inr rfl))) (fun _ zc3 _ zhyzc3 _ _ _ _ _ => (ev_bin (o_mul (by walk_at "mul")) (ev_var 10 rfl (.inl rfl) rfl) (ev_var 8 rfl (.inr (.inl rfl)) rfl)))) (ea_cons (ev_lcM (enc2 := D.int) 199 (fun zc4 : Int => (zc4 * factor)) _ rfl nd (blkOk_by (N := ["numbers", "one", "other", "choice", "by", "place", "taken", "gets", "factor", "k", "capacity"]) (sc := defScope s_law_tables) (own := [(("capacity" : Str), 10)]) (by decide +kernel)) (src_listT (ev_var 2 rfl (.inl rfl) rfl)) (by simp [names]) (by decide) (by walk_at "sd") (fun _ zc4 _ zhyzc4 _ _ _ _ _ => (eg_nameC 10 nd rfl (.inl rfl) (by decide) (.inr rfl))) (fun _ zc4 _ zhyzc4 _ _ _ _ _ => (ev_bin (o_mul (by walk_at "mul")) (ev_var 10 rfl (.inl rfl) rfl) (ev_var 8 rfl (.inr (.inl rfl)) rfl)))) ea_nil)) (by simp only [List.length_cons, List.length_nil]; decide)) ?_)
      have efin : m_law_tables numbers = ((one.map (fun zc3 : Int => (zc3 * factor))), (((other1.set (place).toNat ((other1.getD (place).toNat default) - taken)).set (gets).toNat (((other1.set (place).toNat ((other1.getD (place).toNat default) - taken)).getD (gets).toNat default) + taken)).map (fun zc4 : Int => (zc4 * factor)))) := by subst zg_factor; subst zg_gets; subst zg_taken; subst zg_place; subst zg_other1; subst zg_by_; subst zg_choice; subst zg_other; subst zg_one; simp only [m_law_tables, not_true_eq_false, not_false_eq_true, ↓reduceIte, ↓if_pos zh1, ↓if_pos zh2]
      rw [efin] at zk
      exact zk _
    · skip
      refine exs_nil ?_
      show Exs _ _ _ ⟨[some (.fr ((eL D.int) numbers)), some (.fr ((eL D.int) one)), some (.ad 100), some (.fr (D.int choice)), some (.fr (D.int by_)), some (.fr (D.int place)), some (.fr (D.int taken)), none, none, none, none], [(100, .fl (((other1.set (place).toNat ((other1.getD (place).toNat default) - taken))).map D.int))]⟩ _
      refine exs_cons (ex_set 8 (ev_ix (ix_L (xs := [(1 : Int), (17 : Int), (250000 : Int)]) (enc := D.int) (by exact rfl) (by walk_at "sd") (by walk_at "sd")) (ev_lstF (enc := D.int) [(1 : Int), (17 : Int), (250000 : Int)] (ea_cons ev_int (ea_cons ev_int (ea_cons ev_int ea_nil))) rfl (by simp only [List.length_cons, List.length_nil]; decide)) (ev_bin (o_mod (by walk_at "sd")) (ev_bin (o_div (by walk_at "sd") (by walk_at "sd")) (ev_ix (ix_L (xs := numbers) (enc := D.int) (by exact rfl) (by walk_at "sd") (by walk_at "sd")) (ev_var 0 rfl (.inr (.inl rfl)) rfl) ev_int) ev_int) ev_int)) ?_ nd rfl (.inr rfl))
      show Exs _ _ _ ⟨[some (.fr ((eL D.int) numbers)), some (.fr ((eL D.int) one)), some (.ad 100), some (.fr (D.int choice)), some (.fr (D.int by_)), some (.fr (D.int place)), some (.fr (D.int taken)), none, some (.fr (D.int ([(1 : Int), (17 : Int), (250000 : Int)].getD ((((numbers.getD ((19 : Int)).toNat default) / (6 : Int)) % (3 : Int))).toNat default))), none, none], [(100, .fl (((other1.set (place).toNat ((other1.getD (place).toNat default) - taken))).map D.int))]⟩ _
      generalize zg_factor1 : ([(1 : Int), (17 : Int), (250000 : Int)].getD ((((numbers.getD ((19 : Int)).toNat default) / (6 : Int)) % (3 : Int))).toNat default) = factor1
      show Exs _ _ _ ⟨[some (.fr ((eL D.int) numbers)), some (.fr ((eL D.int) one)), some (.ad 100), some (.fr (D.int choice)), some (.fr (D.int by_)), some (.fr (D.int place)), some (.fr (D.int taken)), none, some (.fr (D.int factor1)), none, none], [(100, .fl (((other1.set (place).toNat ((other1.getD (place).toNat default) - taken))).map D.int))]⟩ _
      have hfffactor1 := fac81 (numbers.getD ((19 : Int)).toNat default / (6 : Int))
      rw [zg_factor1] at hfffactor1
      refine exs_freezeT 100 (xs := (other1.set (place).toNat ((other1.getD (place).toNat default) - taken))) (enc := D.int) (by exact rfl) ?_
      show Exs _ _ _ ⟨[some (.fr ((eL D.int) numbers)), some (.fr ((eL D.int) one)), some (.fr ((eL D.int) (other1.set (place).toNat ((other1.getD (place).toNat default) - taken)))), some (.fr (D.int choice)), some (.fr (D.int by_)), some (.fr (D.int place)), some (.fr (D.int taken)), none, some (.fr (D.int factor1)), none, none], []⟩ _
      refine exs_one (ex_ret (ev_tup (ds := [(eL D.int) (one.map (fun zc5 : Int => (zc5 * factor1))), (eL D.int) ((other1.set (place).toNat ((other1.getD (place).toNat default) - taken)).map (fun zc6 : Int => (zc6 * factor1)))]) (ea_cons (ev_lcM (enc2 := D.int) 199 (fun zc5 : Int => (zc5 * factor1)) _ rfl nd (blkOk_by (N := ["numbers", "one", "other", "choice", "by", "place", "taken", "gets", "factor", "k", "capacity"]) (sc := defScope s_law_tables) (own := [(("capacity" : Str), 10)]) (by decide +kernel)) (src_listT (ev_var 1 rfl (.inl rfl) rfl)) (by simp [names]) (by decide) (by walk_at "sd") (fun _ zc5 _ zhyzc5 _ _ _ _ _ => (eg_nameC 10 nd rfl (.inl rfl) (by decide) (.inr rfl))) (fun _ zc5 _ zhyzc5 _ _ _ _ _ => (ev_bin (o_mul (by walk_at "mul")) (ev_var 10 rfl (.inl rfl) rfl) (ev_var 8 rfl (.inr (.inl rfl)) rfl)))) (ea_cons (ev_lcM (enc2 := D.int) 199 (fun zc6 : Int => (zc6 * factor1)) _ rfl nd (blkOk_by (N := ["numbers", "one", "other", "choice", "by", "place", "taken", "gets", "factor", "k", "capacity"]) (sc := defScope s_law_tables) (own := [(("capacity" : Str), 10)]) (by decide +kernel)) (src_listT (ev_var 2 rfl (.inl rfl) rfl)) (by simp [names]) (by decide) (by walk_at "sd") (fun _ zc6 _ zhyzc6 _ _ _ _ _ => (eg_nameC 10 nd rfl (.inl rfl) (by decide) (.inr rfl))) (fun _ zc6 _ zhyzc6 _ _ _ _ _ => (ev_bin (o_mul (by walk_at "mul")) (ev_var 10 rfl (.inl rfl) rfl) (ev_var 8 rfl (.inr (.inl rfl)) rfl)))) ea_nil)) (by simp only [List.length_cons, List.length_nil]; decide)) ?_)
      have efin : m_law_tables numbers = ((one.map (fun zc5 : Int => (zc5 * factor1))), ((other1.set (place).toNat ((other1.getD (place).toNat default) - taken)).map (fun zc6 : Int => (zc6 * factor1)))) := by subst zg_factor1; subst zg_taken; subst zg_place; subst zg_other1; subst zg_by_; subst zg_choice; subst zg_other; subst zg_one; simp only [m_law_tables, not_true_eq_false, not_false_eq_true, ↓reduceIte, ↓if_pos zh1, ↓if_neg zh2]
      rw [efin] at zk
      exact zk _
  · skip
    refine exs_nil ?_
    show Exs _ _ _ ⟨[some (.fr ((eL D.int) numbers)), some (.fr ((eL D.int) one)), some (.ad 100), some (.fr (D.int choice)), none, none, none, none, none, none, none], [(100, .fl ((other).map D.int))]⟩ _
    refine exs_cons (ex_set 8 (ev_ix (ix_L (xs := [(1 : Int), (17 : Int), (250000 : Int)]) (enc := D.int) (by exact rfl) (by walk_at "sd") (by walk_at "sd")) (ev_lstF (enc := D.int) [(1 : Int), (17 : Int), (250000 : Int)] (ea_cons ev_int (ea_cons ev_int (ea_cons ev_int ea_nil))) rfl (by simp only [List.length_cons, List.length_nil]; decide)) (ev_bin (o_mod (by walk_at "sd")) (ev_bin (o_div (by walk_at "sd") (by walk_at "sd")) (ev_ix (ix_L (xs := numbers) (enc := D.int) (by exact rfl) (by walk_at "sd") (by walk_at "sd")) (ev_var 0 rfl (.inr (.inl rfl)) rfl) ev_int) ev_int) ev_int)) ?_ nd rfl (.inr rfl))
    show Exs _ _ _ ⟨[some (.fr ((eL D.int) numbers)), some (.fr ((eL D.int) one)), some (.ad 100), some (.fr (D.int choice)), none, none, none, none, some (.fr (D.int ([(1 : Int), (17 : Int), (250000 : Int)].getD ((((numbers.getD ((19 : Int)).toNat default) / (6 : Int)) % (3 : Int))).toNat default))), none, none], [(100, .fl ((other).map D.int))]⟩ _
    generalize zg_factor2 : ([(1 : Int), (17 : Int), (250000 : Int)].getD ((((numbers.getD ((19 : Int)).toNat default) / (6 : Int)) % (3 : Int))).toNat default) = factor2
    show Exs _ _ _ ⟨[some (.fr ((eL D.int) numbers)), some (.fr ((eL D.int) one)), some (.ad 100), some (.fr (D.int choice)), none, none, none, none, some (.fr (D.int factor2)), none, none], [(100, .fl ((other).map D.int))]⟩ _
    have hfffactor2 := fac81 (numbers.getD ((19 : Int)).toNat default / (6 : Int))
    rw [zg_factor2] at hfffactor2
    refine exs_freezeT 100 (xs := other) (enc := D.int) (by exact rfl) ?_
    show Exs _ _ _ ⟨[some (.fr ((eL D.int) numbers)), some (.fr ((eL D.int) one)), some (.fr ((eL D.int) other)), some (.fr (D.int choice)), none, none, none, none, some (.fr (D.int factor2)), none, none], []⟩ _
    refine exs_one (ex_ret (ev_tup (ds := [(eL D.int) (one.map (fun zc7 : Int => (zc7 * factor2))), (eL D.int) (other.map (fun zc8 : Int => (zc8 * factor2)))]) (ea_cons (ev_lcM (enc2 := D.int) 199 (fun zc7 : Int => (zc7 * factor2)) _ rfl nd (blkOk_by (N := ["numbers", "one", "other", "choice", "by", "place", "taken", "gets", "factor", "k", "capacity"]) (sc := defScope s_law_tables) (own := [(("capacity" : Str), 10)]) (by decide +kernel)) (src_listT (ev_var 1 rfl (.inl rfl) rfl)) (by simp [names]) (by decide) (by walk_at "sd") (fun _ zc7 _ zhyzc7 _ _ _ _ _ => (eg_nameC 10 nd rfl (.inl rfl) (by decide) (.inr rfl))) (fun _ zc7 _ zhyzc7 _ _ _ _ _ => (ev_bin (o_mul (by walk_at "mul")) (ev_var 10 rfl (.inl rfl) rfl) (ev_var 8 rfl (.inr (.inl rfl)) rfl)))) (ea_cons (ev_lcM (enc2 := D.int) 199 (fun zc8 : Int => (zc8 * factor2)) _ rfl nd (blkOk_by (N := ["numbers", "one", "other", "choice", "by", "place", "taken", "gets", "factor", "k", "capacity"]) (sc := defScope s_law_tables) (own := [(("capacity" : Str), 10)]) (by decide +kernel)) (src_listT (ev_var 2 rfl (.inl rfl) rfl)) (by simp [names]) (by decide) (by walk_at "sd") (fun _ zc8 _ zhyzc8 _ _ _ _ _ => (eg_nameC 10 nd rfl (.inl rfl) (by decide) (.inr rfl))) (fun _ zc8 _ zhyzc8 _ _ _ _ _ => (ev_bin (o_mul (by walk_at "mul")) (ev_var 10 rfl (.inl rfl) rfl) (ev_var 8 rfl (.inr (.inl rfl)) rfl)))) ea_nil)) (by simp only [List.length_cons, List.length_nil]; decide)) ?_)
    have efin : m_law_tables numbers = ((one.map (fun zc7 : Int => (zc7 * factor2))), (other.map (fun zc8 : Int => (zc8 * factor2)))) := by subst zg_factor2; subst zg_choice; subst zg_other; subst zg_one; simp only [m_law_tables, not_true_eq_false, not_false_eq_true, ↓reduceIte, ↓if_neg zh1]
    rw [efin] at zk
    exact zk _
def m_law_bound_l0 (table : List Int) (top : Int) (lack : Int) (bottom : Int) (zs0 : Bool) (zy0 : Nat) : Except Bool (Bool) :=
  let spare : Int := (((((m_law_least table ((0 : Int) + (zy0 : Int))).getD default) * bottom) - (top * ((0 : Int) + (zy0 : Int)))) + lack)
  if (spare < (0 : Int)) then .error false else .ok (zs0 || (decide (spare = (0 : Int))))
def m_law_bound (table : List Int) : Bool :=
  if ((¬ (true = true)) ∨ (¬ ((3 : Int) = (3 : Int)))) then false else if ((¬ ((m_supply_bound table).1 = table.sum)) ∨ ((¬ ((m_supply_bound table).2.2 = (table.length : Int))) ∨ ((¬ ((m_law_is_integer ((m_supply_bound table).2.1)) = true)) ∨ ((m_supply_bound table).2.1 < (0 : Int))))) then false else let reached1 : Bool := (decide ((m_supply_bound table).2.1 = (0 : Int)))
  match (runE (m_law_bound_l0 table ((m_supply_bound table).1) ((m_supply_bound table).2.1) ((m_supply_bound table).2.2)) (List.range ((((3 : Int) * (table.length : Int)) + (1 : Int))).toNat) reached1) with | .error r => r | .ok zs0 => zs0
theorem some81 {o : Option Int} {v : Int} (h : o = some v) : o.isSome = true := by rw [h]; rfl
set_option hygiene false in
local macro_rules | `(tactic| walk_at "some") => `(tactic| first | exact some81 hlg | fail)
set_option hygiene false in
local macro_rules | `(tactic| walk_at "mul") => `(tactic| first | exact Or.inr ⟨by omega, by omega⟩ | (rw [hlk]; dsimp only; exact Or.inr ⟨by omega, by omega⟩) | fail)
set_option hygiene false in
local macro_rules | `(tactic| walk_at "pre") => `(tactic| first | exact ⟨by omega, by omega, by omega, by omega, by omega, by omega⟩ | fail)
theorem sc_law_bound : FnScope ["table", "actual", "top", "lack", "bottom", "reached", "length", "spare"] ["table"] (defScope s_law_bound) := ⟨rfl, rfl, rfl, by decide +kernel, rfl, by decide +kernel, by decide +kernel⟩
def sp_law_bound : SpN := fun zcs zL zKc => ∃ table : List Int, zcs = [.fr ((eL D.int) table)] ∧ zL = [] ∧ (0 < table.length ∧ table.length ≤ 12 ∧ (∀ x ∈ table, 0 ≤ x ∧ x ≤ 4000000)) ∧ ∀ zL', zKc (.fr (D.bl (m_law_bound table))) zL'
theorem ok_law_bound (T : TX P K mg) : FnOk P w K mg base CX0 4 T.a_law_bound T.d_law_bound ["table"] (SpOf K mg sp_law_bound) := by
  have O_law_is_integer := ok_law_is_integer (P := P) (w := w) (base := base) T
  have O_law_least := ok_law_least (P := P) (w := w) (base := base) T
  have O_supply_bound := ok_supply_bound (P := P) (w := w) (base := base) T
  refine T.F_law_bound.okN sc_law_bound (fun zcs zL zKc zh => by obtain ⟨table, rfl, _⟩ := zh; rfl) fun zcdv zA zout zst zH zE zB zcs zL zKc zhr zh => ?_
  obtain ⟨table, rfl, rfl, hpre, zk⟩ := zh
  have nd := sc_law_bound.nd
  have hSL := sizeLine_eq
  have hsm := sum6 hpre
  have hlk := lacks_eq hpre.1
  show Exs _ _ _ ⟨[some (.fr ((eL D.int) table)), none, none, none, none, none, none, none], []⟩ _
  refine exs_cons (ex_set 1 (ev_call (ds := [(eL D.int) table]) (ds' := []) (dvs := []) (dfs := []) O_supply_bound (zhr.mono (by decide)) T.m_supply_bound T.k_supply_bound T.b_supply_bound .nil (fun _ => .nil) (ea_cons (ev_callTy (ds := [(eL D.int) table]) c_listL (ea_cons (ev_var 0 rfl (.inl rfl) rfl) ea_nil) (by exact rfl) T.n_list (by decide +kernel)) ea_nil) (fun _ zkk => ⟨table, rfl, rfl, (by walk_at "pre"), zkk⟩) (by exact rfl)) ?_ nd rfl (.inl rfl))
  show Exs _ _ _ ⟨[some (.fr ((eL D.int) table)), some (.fr ((eT3 D.int D.int D.int) (m_supply_bound table))), none, none, none, none, none, none], []⟩ _
  refine exs_cons (ex_ifP (bd_or (bd_not Iff.rfl) bd_n) (Ew.et (ew_orP (bd_not Iff.rfl) (et_not (et_val (ev_isi (T := "tuple") (b := true) (ev_var 1 rfl (.inl rfl) rfl) rfl (by decide) (by exact rfl) T.n_isinstance (by exact rfl) T.n_tuple (by decide +kernel)))) (fun zhp => (ew_or1 (et_cmp o_nei (ev_len .t (ev_var 1 rfl (.inl rfl) rfl) (by exact rfl) T.n_len) ev_int (nomark _)))))) (fun (zh1 : ((¬ (true = true)) ∨ (¬ ((3 : Int) = (3 : Int))))) => ?_) (fun (zh1 : ¬ ((¬ (true = true)) ∨ (¬ ((3 : Int) = (3 : Int))))) => ?_))
  · skip
    refine exs_one (ex_ret ev_bl ?_)
    have efin : m_law_bound table = false := by simp only [m_law_bound, not_true_eq_false, not_false_eq_true, ↓reduceIte, ↓if_pos zh1]
    rw [efin] at zk
    exact zk _
  · skip
    refine exs_nil ?_
    show Exs _ _ _ ⟨[some (.fr ((eL D.int) table)), some (.fr ((eT3 D.int D.int D.int) (m_supply_bound table))), none, none, none, none, none, none], []⟩ _
    refine exs_cons (ex_asg (ev_var 1 rfl (.inl rfl) rfl) (eg_tup rfl (egs_cons (eg_name 2 nd rfl (.inl rfl)) (egs_cons (eg_name 3 nd rfl (.inl rfl)) (egs_cons (eg_name 4 nd rfl (.inl rfl)) egs_nil)))) ?_)
    show Exs _ _ _ ⟨[some (.fr ((eL D.int) table)), some (.fr ((eT3 D.int D.int D.int) (m_supply_bound table))), some (.fr (D.int ((m_supply_bound table).1))), some (.fr (D.int ((m_supply_bound table).2.1))), some (.fr (D.int ((m_supply_bound table).2.2))), none, none, none], []⟩ _
    refine exs_cons (ex_ifP (bd_or bd_n (bd_or bd_n (bd_or (bd_not Iff.rfl) bd_d))) (Ew.et (ew_orP bd_n (et_cmp o_nei (ev_var 2 rfl (.inl rfl) rfl) (ev_callB (ds := [(eL D.int) table]) (c_sumL rfl) (ea_cons (ev_var 0 rfl (.inl rfl) rfl) ea_nil) (by exact rfl) T.n_sum (by decide +kernel)) (nomark _)) (fun zhp => (ew_orP bd_n (et_cmp o_nei (ev_var 4 rfl (.inl rfl) rfl) (ev_len (ln_L (xs := table) (enc := D.int) (by exact rfl)) (ev_var 0 rfl (.inl rfl) rfl) (by exact rfl) T.n_len) (nomark _)) (fun zhp => (ew_orP (bd_not Iff.rfl) (et_not (et_val (ev_call (ds := [D.int ((m_supply_bound table).2.1)]) (ds' := []) (dvs := []) (dfs := []) O_law_is_integer (zhr.mono (by decide)) T.m_law_is_integer T.k_law_is_integer T.b_law_is_integer .nil (fun _ => .nil) (ea_cons (ev_var 3 rfl (.inl rfl) rfl) ea_nil) (fun _ zkk => ⟨(m_supply_bound table).2.1, rfl, rfl, trivial, zkk⟩) (by exact rfl)))) (fun zhp => (ew_or1 (et_cmp o_lt (ev_var 3 rfl (.inl rfl) rfl) ev_int (nomark _)))))))))) (fun (zh2 : ((¬ ((m_supply_bound table).1 = table.sum)) ∨ ((¬ ((m_supply_bound table).2.2 = (table.length : Int))) ∨ ((¬ ((m_law_is_integer ((m_supply_bound table).2.1)) = true)) ∨ ((m_supply_bound table).2.1 < (0 : Int)))))) => ?_) (fun (zh2 : ¬ ((¬ ((m_supply_bound table).1 = table.sum)) ∨ ((¬ ((m_supply_bound table).2.2 = (table.length : Int))) ∨ ((¬ ((m_law_is_integer ((m_supply_bound table).2.1)) = true)) ∨ ((m_supply_bound table).2.1 < (0 : Int)))))) => ?_))
    · skip
      refine exs_one (ex_ret ev_bl ?_)
      have efin : m_law_bound table = false := by simp only [m_law_bound, not_true_eq_false, not_false_eq_true, ↓reduceIte, ↓if_neg zh1, ↓if_pos zh2]
      rw [efin] at zk
      exact zk _
    · skip
      refine exs_nil ?_
      show Exs _ _ _ ⟨[some (.fr ((eL D.int) table)), some (.fr ((eT3 D.int D.int D.int) (m_supply_bound table))), some (.fr (D.int ((m_supply_bound table).1))), some (.fr (D.int ((m_supply_bound table).2.1))), some (.fr (D.int ((m_supply_bound table).2.2))), none, none, none], []⟩ _
      refine exs_cons (ex_set 5 (ev_cmp o_eqi (ev_var 3 rfl (.inl rfl) rfl) ev_int (nomark _)) ?_ nd rfl (.inl rfl))
      show Exs _ _ _ ⟨[some (.fr ((eL D.int) table)), some (.fr ((eT3 D.int D.int D.int) (m_supply_bound table))), some (.fr (D.int ((m_supply_bound table).1))), some (.fr (D.int ((m_supply_bound table).2.1))), some (.fr (D.int ((m_supply_bound table).2.2))), some (.fr (D.bl (decide ((m_supply_bound table).2.1 = (0 : Int))))), none, none], []⟩ _
      generalize zg_reached : (decide ((m_supply_bound table).2.1 = (0 : Int))) = reached
      show Exs _ _ _ ⟨[some (.fr ((eL D.int) table)), some (.fr ((eT3 D.int D.int D.int) (m_supply_bound table))), some (.fr (D.int ((m_supply_bound table).1))), some (.fr (D.int ((m_supply_bound table).2.1))), some (.fr (D.int ((m_supply_bound table).2.2))), some (.fr (D.bl reached)), none, none], []⟩ _
      refine exs_cons (ex_forE (enc := (fun i : Nat => D.int ((0 : Int) + (i : Int)))) (fun (zs0 : Bool) => (⟨[some (.fr ((eL D.int) table)), some (.fr ((eT3 D.int D.int D.int) (m_supply_bound table))), some (.fr (D.int ((m_supply_bound table).1))), some (.fr (D.int ((m_supply_bound table).2.1))), some (.fr (D.int ((m_supply_bound table).2.2))), some (.fr (D.bl zs0)), none, none], []⟩ : Nz.S)) (m_law_bound_l0 table ((m_supply_bound table).1) ((m_supply_bound table).2.1) ((m_supply_bound table).2.2)) reached (fun (zi0 : Nat) (zs0 : Bool) => True) (fun r c S' => c = .fr (D.bl r) ∧ True) (src_range1 (ea_cons (ev_bin o_add (ev_bin (o_mul (by walk_at "mul")) ev_int (ev_len (ln_L (xs := table) (enc := D.int) (by exact rfl)) (ev_var 0 rfl (.inl rfl) rfl) (by exact rfl) T.n_len)) ev_int) ea_nil) (by exact rfl) T.n_range (by walk_at "sd") (by walk_at "sd")) ⟨⟨.inr rfl, .inr rfl, .inr rfl, .inr rfl, .inr rfl, .inr rfl, .inl rfl, .inl rfl, trivial⟩, rfl⟩ trivial ?_ ?_ ?_ PassesOwn.never rfl)
      · intro zi0 zy0 zs0 zhy0 zrun0 zq0
        skip
        have hy0 := seq_range zhy0
        have hi := (List.getElem?_eq_some_iff.mp zhy0).1
        simp only [List.length_range] at hi
        have hlg := least81 hpre.1 zy0
        rw [show ((zy0 : Nat) : Int) = (0 : Int) + (zy0 : Int) by omega] at hlg
        refine ⟨⟨[some (.fr ((eL D.int) table)), some (.fr ((eT3 D.int D.int D.int) (m_supply_bound table))), some (.fr (D.int ((m_supply_bound table).1))), some (.fr (D.int ((m_supply_bound table).2.1))), some (.fr (D.int ((m_supply_bound table).2.2))), some (.fr (D.bl zs0)), some (.fr (D.int ((0 : Int) + (zy0 : Int)))), none], []⟩, (eg_name 6 nd rfl (.inl rfl)), ?_⟩
        refine exs_cons (ex_set 7 (ev_bin o_add (ev_bin o_sub (ev_bin (o_mul (by walk_at "mul")) (ev_unO (enc := D.int) (y := (m_law_least table ((0 : Int) + (zy0 : Int)))) (by walk_at "some") (ev_call (ds := [(eL D.int) table, D.int ((0 : Int) + (zy0 : Int))]) (ds' := []) (dvs := []) (dfs := []) O_law_least (zhr.mono (by decide)) T.m_law_least T.k_law_least T.b_law_least .nil (fun _ => .nil) (ea_cons (ev_var 0 rfl (.inl rfl) rfl) (ea_cons (ev_var 6 rfl (.inl rfl) rfl) ea_nil)) (fun _ zkk => ⟨table, ((0 : Int) + (zy0 : Int)), rfl, rfl, (by walk_at "pre"), zkk⟩) (by exact rfl))) (ev_var 4 rfl (.inl rfl) rfl)) (ev_bin (o_mul (by walk_at "mul")) (ev_var 2 rfl (.inl rfl) rfl) (ev_var 6 rfl (.inl rfl) rfl))) (ev_var 3 rfl (.inl rfl) rfl)) ?_ nd rfl (.inl rfl))
        show Exs _ _ _ ⟨[some (.fr ((eL D.int) table)), some (.fr ((eT3 D.int D.int D.int) (m_supply_bound table))), some (.fr (D.int ((m_supply_bound table).1))), some (.fr (D.int ((m_supply_bound table).2.1))), some (.fr (D.int ((m_supply_bound table).2.2))), some (.fr (D.bl zs0)), some (.fr (D.int ((0 : Int) + (zy0 : Int)))), some (.fr (D.int (((((m_law_least table ((0 : Int) + (zy0 : Int))).getD default) * (m_supply_bound table).2.2) - ((m_supply_bound table).1 * ((0 : Int) + (zy0 : Int)))) + (m_supply_bound table).2.1)))], []⟩ _
        generalize zg_spare : (((((m_law_least table ((0 : Int) + (zy0 : Int))).getD default) * (m_supply_bound table).2.2) - ((m_supply_bound table).1 * ((0 : Int) + (zy0 : Int)))) + (m_supply_bound table).2.1) = spare
        show Exs _ _ _ ⟨[some (.fr ((eL D.int) table)), some (.fr ((eT3 D.int D.int D.int) (m_supply_bound table))), some (.fr (D.int ((m_supply_bound table).1))), some (.fr (D.int ((m_supply_bound table).2.1))), some (.fr (D.int ((m_supply_bound table).2.2))), some (.fr (D.bl zs0)), some (.fr (D.int ((0 : Int) + (zy0 : Int)))), some (.fr (D.int spare))], []⟩ _
        refine exs_cons (ex_ifP bd_d (et_cmp o_lt (ev_var 7 rfl (.inl rfl) rfl) ev_int (nomark _)) (fun (zh3 : (spare < (0 : Int))) => ?_) (fun (zh3 : ¬ (spare < (0 : Int))) => ?_))
        · skip
          refine exs_one (ex_ret ev_bl ?_)
          have est : (m_law_bound_l0 table ((m_supply_bound table).1) ((m_supply_bound table).2.1) ((m_supply_bound table).2.2)) zs0 zy0 = .error false := by subst zg_spare; simp only [m_law_bound_l0, not_true_eq_false, not_false_eq_true, ↓reduceIte, ↓if_pos zh3]
          exact ⟨_, est, rfl, trivial⟩
        · skip
          refine exs_nil ?_
          show Exs _ _ _ ⟨[some (.fr ((eL D.int) table)), some (.fr ((eT3 D.int D.int D.int) (m_supply_bound table))), some (.fr (D.int ((m_supply_bound table).1))), some (.fr (D.int ((m_supply_bound table).2.1))), some (.fr (D.int ((m_supply_bound table).2.2))), some (.fr (D.bl zs0)), some (.fr (D.int ((0 : Int) + (zy0 : Int)))), some (.fr (D.int spare))], []⟩ _
          refine exs_one (ex_set 5 (ev_orP Iff.rfl (ev_var 5 rfl (.inl rfl) rfl) (fun zhp => (ev_one (ev_cmp o_eqi (ev_var 7 rfl (.inl rfl) rfl) ev_int (nomark _))))) ?_ nd rfl (.inl rfl))
          have est : (m_law_bound_l0 table ((m_supply_bound table).1) ((m_supply_bound table).2.1) ((m_supply_bound table).2.2)) zs0 zy0 = .ok (zs0 || (decide (spare = (0 : Int)))) := by subst zg_spare; simp only [m_law_bound_l0, not_true_eq_false, not_false_eq_true, ↓reduceIte, ↓if_neg zh3]
          exact ⟨_, est, ⟨⟨.inr rfl, .inr rfl, .inr rfl, .inr rfl, .inr rfl, .inr rfl, .inl rfl, .inl rfl, trivial⟩, rfl⟩, trivial⟩
      · rintro zr zc zS zrun0 ⟨rfl, zhL⟩
        skip
        have zh4 := zrun0
        have efin : m_law_bound table = zr := by subst zg_reached; simp only [m_law_bound, not_true_eq_false, not_false_eq_true, ↓reduceIte, ↓if_neg zh1, ↓if_neg zh2, ↓zh4]
        rw [efin] at zk
        exact zk _
      · intro zs0 zrun0 zq0
        have zh5 := zrun0
        show Exs _ _ _ ⟨[some (.fr ((eL D.int) table)), some (.fr ((eT3 D.int D.int D.int) (m_supply_bound table))), some (.fr (D.int ((m_supply_bound table).1))), some (.fr (D.int ((m_supply_bound table).2.1))), some (.fr (D.int ((m_supply_bound table).2.2))), some (.fr (D.bl zs0)), none, none], []⟩ _
        refine exs_one (ex_ret (ev_var 5 rfl (.inl rfl) rfl) ?_)
        have efin : m_law_bound table = zs0 := by subst zg_reached; simp only [m_law_bound, not_true_eq_false, not_false_eq_true, ↓reduceIte, ↓if_neg zh1, ↓if_neg zh2, ↓zh5]
        rw [efin] at zk
        exact zk _
def m_law_c0 (one : List Int) (other : List Int) (zs0 : Int) : Bool := ((!decide ((zs0 % (one.length : Int)) = (0 : Int))) || (!decide ((zs0 % (other.length : Int)) = (0 : Int))))
def m_law_w0 (one : List Int) (other : List Int) (zs0 : Int) : Int :=
  (zs0 + (1 : Int))
def m_law_l1 (one : List Int) (other : List Int) (lo0 : Int) (zs0 : (Option Int)) (zy0 : Nat) : (Option Int) :=
  if ((zs0.isNone = true) ∧ (((m_law_least one (lo0 + (zy0 : Int))).getD default) < ((m_law_least other (lo0 + (zy0 : Int))).getD default))) then (some (lo0 + (zy0 : Int))) else zs0
def m_law (script : List Int) : Bool :=
  let numbers1 : List Int := (m_law_numbers script (20 : Int))
  let first : List Int := (m_law_tables numbers1).1
  let second : List Int := (m_law_tables numbers1).2
  let actual1 : Option Int := (m_first_shortage first second)
  if ((¬ (first = (m_law_tables numbers1).1)) ∨ (¬ (second = (m_law_tables numbers1).2))) then false else if ((((List.range (((iterW (m_law_c0 ((m_law_tables numbers1).1) ((m_law_tables numbers1).2)) (m_law_w0 ((m_law_tables numbers1).1) ((m_law_tables numbers1).2)) 144 (1 : Int)) + (1 : Int)) - (1 : Int)).toNat).foldl (m_law_l1 ((m_law_tables numbers1).1) ((m_law_tables numbers1).2) (1 : Int)) (none : Option Int)).isNone = true) ∧ (¬ (actual1.isNone = true))) then false else if ((¬ (((List.range (((iterW (m_law_c0 ((m_law_tables numbers1).1) ((m_law_tables numbers1).2)) (m_law_w0 ((m_law_tables numbers1).1) ((m_law_tables numbers1).2)) 144 (1 : Int)) + (1 : Int)) - (1 : Int)).toNat).foldl (m_law_l1 ((m_law_tables numbers1).1) ((m_law_tables numbers1).2) (1 : Int)) (none : Option Int)).isNone = true)) ∧ ((¬ ((m_law_is_integero actual1) = true)) ∨ (¬ (actual1 = ((List.range (((iterW (m_law_c0 ((m_law_tables numbers1).1) ((m_law_tables numbers1).2)) (m_law_w0 ((m_law_tables numbers1).1) ((m_law_tables numbers1).2)) 144 (1 : Int)) + (1 : Int)) - (1 : Int)).toNat).foldl (m_law_l1 ((m_law_tables numbers1).1) ((m_law_tables numbers1).2) (1 : Int)) (none : Option Int)))))) then false else let answer1 : Bool := (m_dominates first second)
  if ((¬ (true = true)) ∨ (¬ (answer1 = (((List.range (((iterW (m_law_c0 ((m_law_tables numbers1).1) ((m_law_tables numbers1).2)) (m_law_w0 ((m_law_tables numbers1).1) ((m_law_tables numbers1).2)) 144 (1 : Int)) + (1 : Int)) - (1 : Int)).toNat).foldl (m_law_l1 ((m_law_tables numbers1).1) ((m_law_tables numbers1).2) (1 : Int)) (none : Option Int)).isNone)))) then false else ((m_law_bound ((m_law_tables numbers1).1)) && ((m_law_bound ((m_law_tables numbers1).2)) && (m_dominates first first)))
theorem tables_ok {numbers : List Int} (h : numbers.length = 20 ∧ ∀ x ∈ numbers, 0 ≤ x ∧ x ≤ 1008) : (0 < (m_law_tables numbers).1.length ∧ (m_law_tables numbers).1.length ≤ 12 ∧ ∀ x ∈ (m_law_tables numbers).1, 0 ≤ x ∧ x ≤ 4000000) ∧ (0 < (m_law_tables numbers).2.length ∧ (m_law_tables numbers).2.length ≤ 12 ∧ ∀ x ∈ (m_law_tables numbers).2, 0 ≤ x ∧ x ≤ 4000000) := by
  unfold m_law_tables
  dsimp only
  have hf := fac81 (numbers.getD ((19 : Int)).toNat default / (6 : Int))
  generalize ([(1 : Int), (17 : Int), (250000 : Int)].getD ((((numbers.getD ((19 : Int)).toNat default) / (6 : Int)) % (3 : Int))).toNat default) = f at hf
  have so : Sm 3 ((List.range (((1 : Int) + ((numbers.getD ((0 : Int)).toNat default) % (6 : Int)))).toNat).map (fun i : Nat => ((numbers.getD (((1 : Int) + ((0 : Int) + (i : Int)))).toNat default) % (4 : Int)))) := sm_mod fun i => by omega
  have lo : 0 < ((List.range (((1 : Int) + ((numbers.getD ((0 : Int)).toNat default) % (6 : Int)))).toNat).map (fun i : Nat => ((numbers.getD (((1 : Int) + ((0 : Int) + (i : Int)))).toNat default) % (4 : Int)))).length ∧ ((List.range (((1 : Int) + ((numbers.getD ((0 : Int)).toNat default) % (6 : Int)))).toNat).map (fun i : Nat => ((numbers.getD (((1 : Int) + ((0 : Int) + (i : Int)))).toNat default) % (4 : Int)))).length ≤ 6 := by
    rw [List.length_map, List.length_range]; omega
  have st : Sm 3 ((List.range (((1 : Int) + ((numbers.getD ((7 : Int)).toNat default) % (6 : Int)))).toNat).map (fun i : Nat => ((numbers.getD (((8 : Int) + ((0 : Int) + (i : Int)))).toNat default) % (4 : Int)))) := sm_mod fun i => by omega
  have lt : 0 < ((List.range (((1 : Int) + ((numbers.getD ((7 : Int)).toNat default) % (6 : Int)))).toNat).map (fun i : Nat => ((numbers.getD (((8 : Int) + ((0 : Int) + (i : Int)))).toNat default) % (4 : Int)))).length ∧ ((List.range (((1 : Int) + ((numbers.getD ((7 : Int)).toNat default) % (6 : Int)))).toNat).map (fun i : Nat => ((numbers.getD (((8 : Int) + ((0 : Int) + (i : Int)))).toNat default) % (4 : Int)))).length ≤ 6 := by
    rw [List.length_map, List.length_range]; omega
  generalize ((List.range (((1 : Int) + ((numbers.getD ((0 : Int)).toNat default) % (6 : Int)))).toNat).map (fun i : Nat => ((numbers.getD (((1 : Int) + ((0 : Int) + (i : Int)))).toNat default) % (4 : Int)))) = one at so lo
  generalize ((List.range (((1 : Int) + ((numbers.getD ((7 : Int)).toNat default) % (6 : Int)))).toNat).map (fun i : Nat => ((numbers.getD (((8 : Int) + ((0 : Int) + (i : Int)))).toNat default) % (4 : Int)))) = two at st lt
  have b1 := Int.emod_nonneg (numbers.getD ((15 : Int)).toNat default) (show (one.length : Int) ≠ 0 by omega)
  have b2 := Int.emod_lt_of_pos (numbers.getD ((15 : Int)).toNat default) (show (0 : Int) < (one.length : Int) by omega)
  generalize numbers.getD ((15 : Int)).toNat default % (one.length : Int) = by_ at b1 b2
  have sr : Sm 3 (List.flatten (List.replicate (((1 : Int) + ((numbers.getD ((16 : Int)).toNat default) % (2 : Int)))).toNat ((slcD one (some by_) none) ++ (slcD one none (some by_))))) := sm_rep (sm_rot so)
  have lr := rep_len ((slcD one (some by_) none) ++ (slcD one none (some by_))) (((1 : Int) + ((numbers.getD ((16 : Int)).toNat default) % (2 : Int)))).toNat
  rw [rot_len one b1 (by omega)] at lr
  have lr2 : 0 < (List.flatten (List.replicate (((1 : Int) + ((numbers.getD ((16 : Int)).toNat default) % (2 : Int)))).toNat ((slcD one (some by_) none) ++ (slcD one none (some by_))))).length ∧ (List.flatten (List.replicate (((1 : Int) + ((numbers.getD ((16 : Int)).toNat default) % (2 : Int)))).toNat ((slcD one (some by_) none) ++ (slcD one none (some by_))))).length ≤ 12 := by
    rw [lr]
    have : (((1 : Int) + ((numbers.getD ((16 : Int)).toNat default) % (2 : Int)))).toNat = 1 ∨ (((1 : Int) + ((numbers.getD ((16 : Int)).toNat default) % (2 : Int)))).toNat = 2 := by omega
    rcases this with q | q <;> rw [q] <;> omega
  generalize (List.flatten (List.replicate (((1 : Int) + ((numbers.getD ((16 : Int)).toNat default) % (2 : Int)))).toNat ((slcD one (some by_) none) ++ (slcD one none (some by_))))) = rot at sr lr lr2
  have p1 := Int.emod_nonneg (numbers.getD ((17 : Int)).toNat default) (show (rot.length : Int) ≠ 0 by omega)
  have p2 := Int.emod_lt_of_pos (numbers.getD ((17 : Int)).toNat default) (show (0 : Int) < (rot.length : Int) by omega)
  generalize numbers.getD ((17 : Int)).toNat default % (rot.length : Int) = p at p1 p2
  have g1 := sm_get sr (i := p.toNat) (by omega)
  generalize hv : rot.getD p.toNat default = v at g1
  have tk : 0 ≤ (if ((numbers.getD ((18 : Int)).toNat default) % (2 : Int)) < v then ((numbers.getD ((18 : Int)).toNat default) % (2 : Int)) else v) ∧ (if ((numbers.getD ((18 : Int)).toNat default) % (2 : Int)) < v then ((numbers.getD ((18 : Int)).toNat default) % (2 : Int)) else v) ≤ v ∧ (if ((numbers.getD ((18 : Int)).toNat default) % (2 : Int)) < v then ((numbers.getD ((18 : Int)).toNat default) % (2 : Int)) else v) ≤ 1 := by
    split <;> omega
  generalize (if ((numbers.getD ((18 : Int)).toNat default) % (2 : Int)) < v then ((numbers.getD ((18 : Int)).toNat default) % (2 : Int)) else v) = tk1 at tk
  have s2 : Sm 3 (rot.set p.toNat (v - tk1)) := sm_set sr (by omega)
  have l2 : (rot.set p.toNat (v - tk1)).length = rot.length := List.length_set
  generalize rot.set p.toNat (v - tk1) = r2 at s2 l2
  have q1 := Int.emod_nonneg (numbers.getD ((19 : Int)).toNat default) (show (r2.length : Int) ≠ 0 by omega)
  have q2 := Int.emod_lt_of_pos (numbers.getD ((19 : Int)).toNat default) (show (0 : Int) < (r2.length : Int) by omega)
  generalize numbers.getD ((19 : Int)).toNat default % (r2.length : Int) = q at q1 q2
  have g2 := sm_get s2 (i := q.toNat) (by omega)
  have s3 : Sm 4 (r2.set q.toNat (r2.getD q.toNat default + tk1)) := sm_set (sm_mono s2 (by omega)) (by omega)
  have l3 : (r2.set q.toNat (r2.getD q.toNat default + tk1)).length = r2.length := List.length_set
  have one_ok : 0 < (one.map fun x : Int => x * f).length ∧ (one.map fun x : Int => x * f).length ≤ 12 ∧ ∀ x ∈ (one.map fun x : Int => x * f), 0 ≤ x ∧ x ≤ 4000000 := ⟨by rw [List.length_map]; omega, by rw [List.length_map]; omega, sm_map (sm_mono so (by omega)) hf⟩
  split
  · split
    · exact ⟨one_ok, by rw [List.length_map]; omega, by rw [List.length_map]; omega, sm_map s3 hf⟩
    · exact ⟨one_ok, by rw [List.length_map]; omega, by rw [List.length_map]; omega, sm_map (sm_mono s2 (by omega)) hf⟩
  · exact ⟨one_ok, by rw [List.length_map]; omega, by rw [List.length_map]; omega, sm_map (sm_mono st (by omega)) hf⟩
theorem least_some {t : List Int} (ht : 0 < t.length) {l : Int} (h : 0 ≤ l) : (m_law_least t l).isSome = true := by
  obtain ⟨n, rfl⟩ := Int.eq_ofNat_of_zero_le h
  rw [least81 ht]; rfl
set_option hygiene false in
local macro_rules | `(tactic| walk_at "some") => `(tactic| first | exact hlo | exact hlt | exact some_of_not (by first | assumption | (exact (not_or.mp (by assumption)).1)) | fail)
set_option hygiene false in
local macro_rules | `(tactic| walk_at "pre") => `(tactic| first | exact hnf | exact htk.1 | exact htk.2 | exact ⟨htk.1, htk.2⟩ | exact ⟨htk.1, htk.1⟩ | exact ⟨by omega, by omega, by omega, by omega⟩ | fail)
theorem sc_law : FnScope ["script", "numbers", "one", "other", "common", "due", "length", "first", "second", "actual", "answer"] ["script"] (defScope s_law) := ⟨rfl, rfl, rfl, by decide +kernel, rfl, by decide +kernel, by decide +kernel⟩
def sp_law : SpN := fun zcs zL zKc => ∃ script : List Int, zcs = [.fr ((eL D.int) script)] ∧ zL = [] ∧ (script.length ≤ 63) ∧ ∀ zL', zKc (.fr (D.bl (m_law script))) zL'
theorem ok_law (T : TX P K mg) : FnOk P w K mg base CX0 5 T.a_law T.d_law ["script"] (SpOf K mg sp_law) := by
  have O_law_bound := ok_law_bound (P := P) (w := w) (base := base) T
  have O_law_is_integero := ok_law_is_integero (P := P) (w := w) (base := base) T
  have O_law_least := ok_law_least (P := P) (w := w) (base := base) T
  have O_law_numbers := ok_law_numbers (P := P) (w := w) (base := base) T
  have O_law_tables := ok_law_tables (P := P) (w := w) (base := base) T
  have O_dominates := ok_dominates (P := P) (w := w) (base := base) T
  have O_first_shortage := ok_first_shortage (P := P) (w := w) (base := base) T
  refine T.F_law.okN sc_law (fun zcs zL zKc zh => by obtain ⟨script, rfl, _⟩ := zh; rfl) fun zcdv zA zout zst zH zE zB zcs zL zKc zhr zh => ?_
  obtain ⟨script, rfl, rfl, hpre, zk⟩ := zh
  have nd := sc_law.nd
  have hSL := sizeLine_eq
  show Exs _ _ _ ⟨[some (.fr ((eL D.int) script)), none, none, none, none, none, none, none, none, none, none], []⟩ _
  refine exs_cons (ex_set 1 (ev_call (ds := [(eL D.int) script, D.int (20 : Int)]) (ds' := []) (dvs := []) (dfs := []) O_law_numbers (zhr.mono (by decide)) T.m_law_numbers T.k_law_numbers T.b_law_numbers .nil (fun _ => .nil) (ea_cons (ev_var 0 rfl (.inl rfl) rfl) (ea_cons ev_int ea_nil)) (fun _ zkk => ⟨script, (20 : Int), rfl, rfl, (by walk_at "pre"), zkk⟩) (by exact rfl)) ?_ nd rfl (.inl rfl))
  show Exs _ _ _ ⟨[some (.fr ((eL D.int) script)), some (.fr ((eL D.int) (m_law_numbers script (20 : Int)))), none, none, none, none, none, none, none, none, none], []⟩ _
  generalize zg_numbers : (m_law_numbers script (20 : Int)) = numbers
  show Exs _ _ _ ⟨[some (.fr ((eL D.int) script)), some (.fr ((eL D.int) numbers)), none, none, none, none, none, none, none, none, none], []⟩ _
  have hnf := numbers_facts script (20 : Int) (by decide)
  rw [zg_numbers] at hnf
  have htk := tables_ok hnf
  have ht1 := htk.1.1
  have ht2 := htk.1.2.1
  have ht3 := htk.2.1
  have ht4 := htk.2.2.1
  have hlcm := common_le ht2 ht4 ht1 ht3
  have hl0 := Nat.lcm_pos ht1 ht3
  refine exs_cons (ex_asg (ev_call (ds := [(eL D.int) numbers]) (ds' := []) (dvs := []) (dfs := []) O_law_tables (zhr.mono (by decide)) T.m_law_tables T.k_law_tables T.b_law_tables .nil (fun _ => .nil) (ea_cons (ev_var 1 rfl (.inl rfl) rfl) ea_nil) (fun _ zkk => ⟨numbers, rfl, rfl, (by walk_at "pre"), zkk⟩) (by exact rfl)) (eg_tup rfl (egs_cons (eg_name 2 nd rfl (.inl rfl)) (egs_cons (eg_name 3 nd rfl (.inl rfl)) egs_nil))) ?_)
  show Exs _ _ _ ⟨[some (.fr ((eL D.int) script)), some (.fr ((eL D.int) numbers)), some (.fr ((eL D.int) ((m_law_tables numbers).1))), some (.fr ((eL D.int) ((m_law_tables numbers).2))), none, none, none, none, none, none, none], []⟩ _
  refine exs_cons (ex_set 4 ev_int ?_ nd rfl (.inl rfl))
  show Exs _ _ _ ⟨[some (.fr ((eL D.int) script)), some (.fr ((eL D.int) numbers)), some (.fr ((eL D.int) ((m_law_tables numbers).1))), some (.fr ((eL D.int) ((m_law_tables numbers).2))), some (.fr (D.int (1 : Int))), none, none, none, none, none, none], []⟩ _
  refine exs_cons (ex_whileF (fun (zs0 : Int) => (⟨[some (.fr ((eL D.int) script)), some (.fr ((eL D.int) numbers)), some (.fr ((eL D.int) ((m_law_tables numbers).1))), some (.fr ((eL D.int) ((m_law_tables numbers).2))), some (.fr (D.int zs0)), none, none, none, none, none, none], []⟩ : Nz.S)) (m_law_c0 ((m_law_tables numbers).1) ((m_law_tables numbers).2)) (m_law_w0 ((m_law_tables numbers).1) ((m_law_tables numbers).2)) (1 : Int) 144 (fun (zs0 : Int) => 1 ≤ zs0 ∧ zs0 ≤ ((Nat.lcm (m_law_tables numbers).1.length (m_law_tables numbers).2.length : Nat) : Int)) (fun (zs0 : Int) => ((144 : Int) - zs0).toNat) ⟨⟨.inr rfl, .inr rfl, .inr rfl, .inr rfl, .inr rfl, .inl rfl, .inl rfl, .inl rfl, .inl rfl, .inl rfl, .inl rfl, trivial⟩, rfl⟩ ⟨by omega, by omega⟩ (by walk_at "sd") ?_ ?_ ?_ ?_ PassesOwn.never)
  · intro zs0 zq0 zhc0
    simp only [m_law_c0, decide_eq_true_eq] at zhc0
    have hne : zs0 ≠ ((Nat.lcm (m_law_tables numbers).1.length (m_law_tables numbers).2.length : Nat) : Int) := by
      intro q
      rw [q, ← Int.natCast_emod, ← Int.natCast_emod, Nat.mod_eq_zero_of_dvd (Nat.dvd_lcm_left _ _), Nat.mod_eq_zero_of_dvd (Nat.dvd_lcm_right _ _)] at zhc0
      simp at zhc0
    simp only [m_law_w0]
    exact ⟨⟨by omega, by omega⟩, by omega⟩
  · intro zs0 zq0
    skip
    exact (Ew.et (ew_orP bd_n (et_cmp o_nei (ev_bin (o_mod (by walk_at "sd")) (ev_var 4 rfl (.inl rfl) rfl) (ev_len (ln_L (xs := (m_law_tables numbers).1) (enc := D.int) (by exact rfl)) (ev_var 2 rfl (.inl rfl) rfl) (by exact rfl) T.n_len)) ev_int (nomark _)) (fun zhp => (ew_or1 (et_cmp o_nei (ev_bin (o_mod (by walk_at "sd")) (ev_var 4 rfl (.inl rfl) rfl) (ev_len (ln_L (xs := (m_law_tables numbers).2) (enc := D.int) (by exact rfl)) (ev_var 3 rfl (.inl rfl) rfl) (by exact rfl) T.n_len)) ev_int (nomark _))))))
  · intro zs0 zq0 zhc0
    simp only [m_law_c0, decide_eq_true_eq] at zhc0
    skip
    show Exs _ _ _ ⟨[some (.fr ((eL D.int) script)), some (.fr ((eL D.int) numbers)), some (.fr ((eL D.int) ((m_law_tables numbers).1))), some (.fr ((eL D.int) ((m_law_tables numbers).2))), some (.fr (D.int zs0)), none, none, none, none, none, none], []⟩ _
    refine exs_one (ex_set 4 (ev_bin o_add (ev_var 4 rfl (.inl rfl) rfl) ev_int) ?_ nd rfl (.inl rfl))
    have est : (m_law_w0 ((m_law_tables numbers).1) ((m_law_tables numbers).2)) zs0 = (zs0 + (1 : Int)) := by simp only [m_law_w0, ↓reduceIte]
    show Le _ _ ∧ _
    rw [est]
    exact ⟨⟨⟨.inr rfl, .inr rfl, .inr rfl, .inr rfl, .inr rfl, .inl rfl, .inl rfl, .inl rfl, .inl rfl, .inl rfl, .inl rfl, trivial⟩, rfl⟩, trivial⟩
  · intro zq0 zhc0
    have hcm0 := zq0
    show Exs _ _ _ ⟨[some (.fr ((eL D.int) script)), some (.fr ((eL D.int) numbers)), some (.fr ((eL D.int) ((m_law_tables numbers).1))), some (.fr ((eL D.int) ((m_law_tables numbers).2))), some (.fr (D.int (iterW (m_law_c0 ((m_law_tables numbers).1) ((m_law_tables numbers).2)) (m_law_w0 ((m_law_tables numbers).1) ((m_law_tables numbers).2)) 144 (1 : Int)))), none, none, none, none, none, none], []⟩ _
    refine exs_cons (ex_set 5 ev_non ?_ nd rfl (.inl rfl))
    show Exs _ _ _ ⟨[some (.fr ((eL D.int) script)), some (.fr ((eL D.int) numbers)), some (.fr ((eL D.int) ((m_law_tables numbers).1))), some (.fr ((eL D.int) ((m_law_tables numbers).2))), some (.fr (D.int (iterW (m_law_c0 ((m_law_tables numbers).1) ((m_law_tables numbers).2)) (m_law_w0 ((m_law_tables numbers).1) ((m_law_tables numbers).2)) 144 (1 : Int)))), some (.fr ((eO D.int) (none : Option Int))), none, none, none, none, none], []⟩ _
    refine exs_cons (ex_forF (enc := (fun i : Nat => D.int ((1 : Int) + (i : Int)))) (fun (zs0 : (Option Int)) => (⟨[some (.fr ((eL D.int) script)), some (.fr ((eL D.int) numbers)), some (.fr ((eL D.int) ((m_law_tables numbers).1))), some (.fr ((eL D.int) ((m_law_tables numbers).2))), some (.fr (D.int (iterW (m_law_c0 ((m_law_tables numbers).1) ((m_law_tables numbers).2)) (m_law_w0 ((m_law_tables numbers).1) ((m_law_tables numbers).2)) 144 (1 : Int)))), some (.fr ((eO D.int) zs0)), none, none, none, none, none], []⟩ : Nz.S)) (m_law_l1 ((m_law_tables numbers).1) ((m_law_tables numbers).2) (1 : Int)) (none : Option Int) (fun (zi0 : Nat) (zs0 : (Option Int)) => True) (src_range2 (ea_cons ev_int (ea_cons (ev_bin o_add (ev_var 4 rfl (.inl rfl) rfl) ev_int) ea_nil)) (by exact rfl) T.n_range (by walk_at "sd") (by walk_at "sd") (by walk_at "sd") (by walk_at "sd")) ⟨⟨.inr rfl, .inr rfl, .inr rfl, .inr rfl, .inr rfl, .inr rfl, .inl rfl, .inl rfl, .inl rfl, .inl rfl, .inl rfl, trivial⟩, rfl⟩ trivial ?_ ?_ PassesOwn.never rfl)
    · intro zi0 zy0 zs0 zhy0 zq0
      skip
      have hy0 := seq_range zhy0
      have hi := (List.getElem?_eq_some_iff.mp zhy0).1
      simp only [List.length_range] at hi
      have hlo := least_some htk.1.1 (l := (1 : Int) + (zy0 : Int)) (by omega)
      have hlt := least_some htk.2.1 (l := (1 : Int) + (zy0 : Int)) (by omega)
      refine ⟨⟨[some (.fr ((eL D.int) script)), some (.fr ((eL D.int) numbers)), some (.fr ((eL D.int) ((m_law_tables numbers).1))), some (.fr ((eL D.int) ((m_law_tables numbers).2))), some (.fr (D.int (iterW (m_law_c0 ((m_law_tables numbers).1) ((m_law_tables numbers).2)) (m_law_w0 ((m_law_tables numbers).1) ((m_law_tables numbers).2)) 144 (1 : Int)))), some (.fr ((eO D.int) zs0)), some (.fr (D.int ((1 : Int) + (zy0 : Int)))), none, none, none, none], []⟩, (eg_name 6 nd rfl (.inl rfl)), ?_⟩
      refine exs_one (ex_ifP (bd_and Iff.rfl bd_d) (Ew.et (ew_andP Iff.rfl (et_cmp (o_isO (enc := D.int) (y := zs0) (fun _ => rfl)) (ev_var 5 rfl (.inl rfl) rfl) ev_non (by rfl)) (fun zhp => (ew_and1 (et_cmp o_lt (ev_unO (enc := D.int) (y := (m_law_least ((m_law_tables numbers).1) ((1 : Int) + (zy0 : Int)))) (by walk_at "some") (ev_call (ds := [(eL D.int) ((m_law_tables numbers).1), D.int ((1 : Int) + (zy0 : Int))]) (ds' := []) (dvs := []) (dfs := []) O_law_least (zhr.mono (by decide)) T.m_law_least T.k_law_least T.b_law_least .nil (fun _ => .nil) (ea_cons (ev_var 2 rfl (.inl rfl) rfl) (ea_cons (ev_var 6 rfl (.inl rfl) rfl) ea_nil)) (fun _ zkk => ⟨(m_law_tables numbers).1, ((1 : Int) + (zy0 : Int)), rfl, rfl, (by walk_at "pre"), zkk⟩) (by exact rfl))) (ev_unO (enc := D.int) (y := (m_law_least ((m_law_tables numbers).2) ((1 : Int) + (zy0 : Int)))) (by walk_at "some") (ev_call (ds := [(eL D.int) ((m_law_tables numbers).2), D.int ((1 : Int) + (zy0 : Int))]) (ds' := []) (dvs := []) (dfs := []) O_law_least (zhr.mono (by decide)) T.m_law_least T.k_law_least T.b_law_least .nil (fun _ => .nil) (ea_cons (ev_var 3 rfl (.inl rfl) rfl) (ea_cons (ev_var 6 rfl (.inl rfl) rfl) ea_nil)) (fun _ zkk => ⟨(m_law_tables numbers).2, ((1 : Int) + (zy0 : Int)), rfl, rfl, (by walk_at "pre"), zkk⟩) (by exact rfl))) (nomark _)))))) (fun (zh1 : ((zs0.isNone = true) ∧ (((m_law_least ((m_law_tables numbers).1) ((1 : Int) + (zy0 : Int))).getD default) < ((m_law_least ((m_law_tables numbers).2) ((1 : Int) + (zy0 : Int))).getD default)))) => ?_) (fun (zh1 : ¬ ((zs0.isNone = true) ∧ (((m_law_least ((m_law_tables numbers).1) ((1 : Int) + (zy0 : Int))).getD default) < ((m_law_least ((m_law_tables numbers).2) ((1 : Int) + (zy0 : Int))).getD default)))) => ?_))
      · skip
        refine exs_one (ex_set 5 (ev_var 6 rfl (.inl rfl) rfl) ?_ nd rfl (.inl rfl))
        have est : (m_law_l1 ((m_law_tables numbers).1) ((m_law_tables numbers).2) (1 : Int)) zs0 zy0 = (some ((1 : Int) + (zy0 : Int))) := by simp only [m_law_l1, not_true_eq_false, not_false_eq_true, ↓reduceIte, ↓if_pos zh1]
        show Le _ _ ∧ _
        try rw [est]
        exact ⟨⟨⟨.inr rfl, .inr rfl, .inr rfl, .inr rfl, .inr rfl, .inr rfl, .inl rfl, .inl rfl, .inl rfl, .inl rfl, .inl rfl, trivial⟩, rfl⟩, trivial⟩
      · skip
        refine exs_nil ?_
        have est : (m_law_l1 ((m_law_tables numbers).1) ((m_law_tables numbers).2) (1 : Int)) zs0 zy0 = zs0 := by simp only [m_law_l1, not_true_eq_false, not_false_eq_true, ↓reduceIte, ↓if_neg zh1]
        show Le _ _ ∧ _
        try rw [est]
        exact ⟨⟨⟨.inr rfl, .inr rfl, .inr rfl, .inr rfl, .inr rfl, .inr rfl, .inl rfl, .inl rfl, .inl rfl, .inl rfl, .inl rfl, trivial⟩, rfl⟩, trivial⟩
    · intro zq0
      show Exs _ _ _ ⟨[some (.fr ((eL D.int) script)), some (.fr ((eL D.int) numbers)), some (.fr ((eL D.int) ((m_law_tables numbers).1))), some (.fr ((eL D.int) ((m_law_tables numbers).2))), some (.fr (D.int (iterW (m_law_c0 ((m_law_tables numbers).1) ((m_law_tables numbers).2)) (m_law_w0 ((m_law_tables numbers).1) ((m_law_tables numbers).2)) 144 (1 : Int)))), some (.fr ((eO D.int) ((List.range (((iterW (m_law_c0 ((m_law_tables numbers).1) ((m_law_tables numbers).2)) (m_law_w0 ((m_law_tables numbers).1) ((m_law_tables numbers).2)) 144 (1 : Int)) + (1 : Int)) - (1 : Int)).toNat).foldl (m_law_l1 ((m_law_tables numbers).1) ((m_law_tables numbers).2) (1 : Int)) (none : Option Int)))), none, none, none, none, none], []⟩ _
      refine exs_cons (ex_set 7 (ev_callTy (ds := [(eL D.int) ((m_law_tables numbers).1)]) c_listL (ea_cons (ev_var 2 rfl (.inl rfl) rfl) ea_nil) (by exact rfl) T.n_list (by decide +kernel)) ?_ nd rfl (.inl rfl))
      show Exs _ _ _ ⟨[some (.fr ((eL D.int) script)), some (.fr ((eL D.int) numbers)), some (.fr ((eL D.int) ((m_law_tables numbers).1))), some (.fr ((eL D.int) ((m_law_tables numbers).2))), some (.fr (D.int (iterW (m_law_c0 ((m_law_tables numbers).1) ((m_law_tables numbers).2)) (m_law_w0 ((m_law_tables numbers).1) ((m_law_tables numbers).2)) 144 (1 : Int)))), some (.fr ((eO D.int) ((List.range (((iterW (m_law_c0 ((m_law_tables numbers).1) ((m_law_tables numbers).2)) (m_law_w0 ((m_law_tables numbers).1) ((m_law_tables numbers).2)) 144 (1 : Int)) + (1 : Int)) - (1 : Int)).toNat).foldl (m_law_l1 ((m_law_tables numbers).1) ((m_law_tables numbers).2) (1 : Int)) (none : Option Int)))), none, some (.fr ((eL D.int) ((m_law_tables numbers).1))), none, none, none], []⟩ _
      refine exs_cons (ex_set 8 (ev_callTy (ds := [(eL D.int) ((m_law_tables numbers).2)]) c_listL (ea_cons (ev_var 3 rfl (.inl rfl) rfl) ea_nil) (by exact rfl) T.n_list (by decide +kernel)) ?_ nd rfl (.inl rfl))
      show Exs _ _ _ ⟨[some (.fr ((eL D.int) script)), some (.fr ((eL D.int) numbers)), some (.fr ((eL D.int) ((m_law_tables numbers).1))), some (.fr ((eL D.int) ((m_law_tables numbers).2))), some (.fr (D.int (iterW (m_law_c0 ((m_law_tables numbers).1) ((m_law_tables numbers).2)) (m_law_w0 ((m_law_tables numbers).1) ((m_law_tables numbers).2)) 144 (1 : Int)))), some (.fr ((eO D.int) ((List.range (((iterW (m_law_c0 ((m_law_tables numbers).1) ((m_law_tables numbers).2)) (m_law_w0 ((m_law_tables numbers).1) ((m_law_tables numbers).2)) 144 (1 : Int)) + (1 : Int)) - (1 : Int)).toNat).foldl (m_law_l1 ((m_law_tables numbers).1) ((m_law_tables numbers).2) (1 : Int)) (none : Option Int)))), none, some (.fr ((eL D.int) ((m_law_tables numbers).1))), some (.fr ((eL D.int) ((m_law_tables numbers).2))), none, none], []⟩ _
      refine exs_cons (ex_set 9 (ev_call (ds := [(eL D.int) ((m_law_tables numbers).1), (eL D.int) ((m_law_tables numbers).2)]) (ds' := []) (dvs := []) (dfs := []) O_first_shortage (zhr.mono (by decide)) T.m_first_shortage T.k_first_shortage T.b_first_shortage .nil (fun _ => .nil) (ea_cons (ev_var 7 rfl (.inl rfl) rfl) (ea_cons (ev_var 8 rfl (.inl rfl) rfl) ea_nil)) (fun _ zkk => ⟨(m_law_tables numbers).1, (m_law_tables numbers).2, rfl, rfl, (by walk_at "pre"), zkk⟩) (by exact rfl)) ?_ nd rfl (.inl rfl))
      show Exs _ _ _ ⟨[some (.fr ((eL D.int) script)), some (.fr ((eL D.int) numbers)), some (.fr ((eL D.int) ((m_law_tables numbers).1))), some (.fr ((eL D.int) ((m_law_tables numbers).2))), some (.fr (D.int (iterW (m_law_c0 ((m_law_tables numbers).1) ((m_law_tables numbers).2)) (m_law_w0 ((m_law_tables numbers).1) ((m_law_tables numbers).2)) 144 (1 : Int)))), some (.fr ((eO D.int) ((List.range (((iterW (m_law_c0 ((m_law_tables numbers).1) ((m_law_tables numbers).2)) (m_law_w0 ((m_law_tables numbers).1) ((m_law_tables numbers).2)) 144 (1 : Int)) + (1 : Int)) - (1 : Int)).toNat).foldl (m_law_l1 ((m_law_tables numbers).1) ((m_law_tables numbers).2) (1 : Int)) (none : Option Int)))), none, some (.fr ((eL D.int) ((m_law_tables numbers).1))), some (.fr ((eL D.int) ((m_law_tables numbers).2))), some (.fr ((eO D.int) (m_first_shortage ((m_law_tables numbers).1) ((m_law_tables numbers).2)))), none], []⟩ _
      generalize zg_actual : (m_first_shortage ((m_law_tables numbers).1) ((m_law_tables numbers).2)) = actual
      show Exs _ _ _ ⟨[some (.fr ((eL D.int) script)), some (.fr ((eL D.int) numbers)), some (.fr ((eL D.int) ((m_law_tables numbers).1))), some (.fr ((eL D.int) ((m_law_tables numbers).2))), some (.fr (D.int (iterW (m_law_c0 ((m_law_tables numbers).1) ((m_law_tables numbers).2)) (m_law_w0 ((m_law_tables numbers).1) ((m_law_tables numbers).2)) 144 (1 : Int)))), some (.fr ((eO D.int) ((List.range (((iterW (m_law_c0 ((m_law_tables numbers).1) ((m_law_tables numbers).2)) (m_law_w0 ((m_law_tables numbers).1) ((m_law_tables numbers).2)) 144 (1 : Int)) + (1 : Int)) - (1 : Int)).toNat).foldl (m_law_l1 ((m_law_tables numbers).1) ((m_law_tables numbers).2) (1 : Int)) (none : Option Int)))), none, some (.fr ((eL D.int) ((m_law_tables numbers).1))), some (.fr ((eL D.int) ((m_law_tables numbers).2))), some (.fr ((eO D.int) actual)), none], []⟩ _
      refine exs_cons (ex_ifP (bd_or bd_n bd_n) (Ew.et (ew_orP bd_n (et_cmp (o_neD (e := (eL D.int)) (x := (m_law_tables numbers).1) (y := (m_law_tables numbers).1) zhr.units (ee_L ee_int)) (ev_var 7 rfl (.inl rfl) rfl) (ev_var 2 rfl (.inl rfl) rfl) (nomark _)) (fun zhp => (ew_or1 (et_cmp (o_neD (e := (eL D.int)) (x := (m_law_tables numbers).2) (y := (m_law_tables numbers).2) zhr.units (ee_L ee_int)) (ev_var 8 rfl (.inl rfl) rfl) (ev_var 3 rfl (.inl rfl) rfl) (nomark _)))))) (fun (zh2 : ((¬ ((m_law_tables numbers).1 = (m_law_tables numbers).1)) ∨ (¬ ((m_law_tables numbers).2 = (m_law_tables numbers).2)))) => ?_) (fun (zh2 : ¬ ((¬ ((m_law_tables numbers).1 = (m_law_tables numbers).1)) ∨ (¬ ((m_law_tables numbers).2 = (m_law_tables numbers).2)))) => ?_))
      · skip
        refine exs_one (ex_ret ev_bl ?_)
        have efin : m_law script = false := by subst zg_actual; subst zg_numbers; simp only [m_law, not_true_eq_false, not_false_eq_true, ↓reduceIte, ↓if_pos zh2]
        rw [efin] at zk
        exact zk _
      · skip
        refine exs_nil ?_
        show Exs _ _ _ ⟨[some (.fr ((eL D.int) script)), some (.fr ((eL D.int) numbers)), some (.fr ((eL D.int) ((m_law_tables numbers).1))), some (.fr ((eL D.int) ((m_law_tables numbers).2))), some (.fr (D.int (iterW (m_law_c0 ((m_law_tables numbers).1) ((m_law_tables numbers).2)) (m_law_w0 ((m_law_tables numbers).1) ((m_law_tables numbers).2)) 144 (1 : Int)))), some (.fr ((eO D.int) ((List.range (((iterW (m_law_c0 ((m_law_tables numbers).1) ((m_law_tables numbers).2)) (m_law_w0 ((m_law_tables numbers).1) ((m_law_tables numbers).2)) 144 (1 : Int)) + (1 : Int)) - (1 : Int)).toNat).foldl (m_law_l1 ((m_law_tables numbers).1) ((m_law_tables numbers).2) (1 : Int)) (none : Option Int)))), none, some (.fr ((eL D.int) ((m_law_tables numbers).1))), some (.fr ((eL D.int) ((m_law_tables numbers).2))), some (.fr ((eO D.int) actual)), none], []⟩ _
        refine exs_cons (ex_ifP (bd_and Iff.rfl (bd_not Iff.rfl)) (Ew.et (ew_andP Iff.rfl (et_cmp (o_isO (enc := D.int) (y := ((List.range (((iterW (m_law_c0 ((m_law_tables numbers).1) ((m_law_tables numbers).2)) (m_law_w0 ((m_law_tables numbers).1) ((m_law_tables numbers).2)) 144 (1 : Int)) + (1 : Int)) - (1 : Int)).toNat).foldl (m_law_l1 ((m_law_tables numbers).1) ((m_law_tables numbers).2) (1 : Int)) (none : Option Int))) (fun _ => rfl)) (ev_var 5 rfl (.inl rfl) rfl) ev_non (by rfl)) (fun zhp => (ew_and1 (et_cmp (o_nisO (enc := D.int) (y := actual) (fun _ => rfl)) (ev_var 9 rfl (.inl rfl) rfl) ev_non (by rfl)))))) (fun (zh3 : ((((List.range (((iterW (m_law_c0 ((m_law_tables numbers).1) ((m_law_tables numbers).2)) (m_law_w0 ((m_law_tables numbers).1) ((m_law_tables numbers).2)) 144 (1 : Int)) + (1 : Int)) - (1 : Int)).toNat).foldl (m_law_l1 ((m_law_tables numbers).1) ((m_law_tables numbers).2) (1 : Int)) (none : Option Int)).isNone = true) ∧ (¬ (actual.isNone = true)))) => ?_) (fun (zh3 : ¬ ((((List.range (((iterW (m_law_c0 ((m_law_tables numbers).1) ((m_law_tables numbers).2)) (m_law_w0 ((m_law_tables numbers).1) ((m_law_tables numbers).2)) 144 (1 : Int)) + (1 : Int)) - (1 : Int)).toNat).foldl (m_law_l1 ((m_law_tables numbers).1) ((m_law_tables numbers).2) (1 : Int)) (none : Option Int)).isNone = true) ∧ (¬ (actual.isNone = true)))) => ?_))
        · skip
          refine exs_one (ex_ret ev_bl ?_)
          have efin : m_law script = false := by subst zg_actual; subst zg_numbers; simp only [m_law, not_true_eq_false, not_false_eq_true, ↓reduceIte, ↓if_neg zh2, ↓if_pos zh3]
          rw [efin] at zk
          exact zk _
        · skip
          refine exs_nil ?_
          show Exs _ _ _ ⟨[some (.fr ((eL D.int) script)), some (.fr ((eL D.int) numbers)), some (.fr ((eL D.int) ((m_law_tables numbers).1))), some (.fr ((eL D.int) ((m_law_tables numbers).2))), some (.fr (D.int (iterW (m_law_c0 ((m_law_tables numbers).1) ((m_law_tables numbers).2)) (m_law_w0 ((m_law_tables numbers).1) ((m_law_tables numbers).2)) 144 (1 : Int)))), some (.fr ((eO D.int) ((List.range (((iterW (m_law_c0 ((m_law_tables numbers).1) ((m_law_tables numbers).2)) (m_law_w0 ((m_law_tables numbers).1) ((m_law_tables numbers).2)) 144 (1 : Int)) + (1 : Int)) - (1 : Int)).toNat).foldl (m_law_l1 ((m_law_tables numbers).1) ((m_law_tables numbers).2) (1 : Int)) (none : Option Int)))), none, some (.fr ((eL D.int) ((m_law_tables numbers).1))), some (.fr ((eL D.int) ((m_law_tables numbers).2))), some (.fr ((eO D.int) actual)), none], []⟩ _
          refine exs_cons (ex_ifP (bd_and (bd_not Iff.rfl) (bd_or (bd_not Iff.rfl) bd_n)) (Ew.et (ew_andP (bd_not Iff.rfl) (et_cmp (o_nisO (enc := D.int) (y := ((List.range (((iterW (m_law_c0 ((m_law_tables numbers).1) ((m_law_tables numbers).2)) (m_law_w0 ((m_law_tables numbers).1) ((m_law_tables numbers).2)) 144 (1 : Int)) + (1 : Int)) - (1 : Int)).toNat).foldl (m_law_l1 ((m_law_tables numbers).1) ((m_law_tables numbers).2) (1 : Int)) (none : Option Int))) (fun _ => rfl)) (ev_var 5 rfl (.inl rfl) rfl) ev_non (by rfl)) (fun zhp => (ew_and1 (Ew.et (ew_orP (bd_not Iff.rfl) (et_not (et_val (ev_call (ds := [(eO D.int) actual]) (ds' := []) (dvs := []) (dfs := []) O_law_is_integero (zhr.mono (by decide)) T.m_law_is_integero T.k_law_is_integero T.b_law_is_integero .nil (fun _ => .nil) (ea_cons (ev_var 9 rfl (.inl rfl) rfl) ea_nil) (fun _ zkk => ⟨actual, rfl, rfl, trivial, zkk⟩) (by exact rfl)))) (fun zhp => (ew_or1 (et_cmp (o_neD (e := (eO D.int)) (x := actual) (y := ((List.range (((iterW (m_law_c0 ((m_law_tables numbers).1) ((m_law_tables numbers).2)) (m_law_w0 ((m_law_tables numbers).1) ((m_law_tables numbers).2)) 144 (1 : Int)) + (1 : Int)) - (1 : Int)).toNat).foldl (m_law_l1 ((m_law_tables numbers).1) ((m_law_tables numbers).2) (1 : Int)) (none : Option Int))) zhr.units (ee_O ee_int nn_int)) (ev_var 9 rfl (.inl rfl) rfl) (ev_var 5 rfl (.inl rfl) rfl) (nomark _)))))))))) (fun (zh4 : ((¬ (((List.range (((iterW (m_law_c0 ((m_law_tables numbers).1) ((m_law_tables numbers).2)) (m_law_w0 ((m_law_tables numbers).1) ((m_law_tables numbers).2)) 144 (1 : Int)) + (1 : Int)) - (1 : Int)).toNat).foldl (m_law_l1 ((m_law_tables numbers).1) ((m_law_tables numbers).2) (1 : Int)) (none : Option Int)).isNone = true)) ∧ ((¬ ((m_law_is_integero actual) = true)) ∨ (¬ (actual = ((List.range (((iterW (m_law_c0 ((m_law_tables numbers).1) ((m_law_tables numbers).2)) (m_law_w0 ((m_law_tables numbers).1) ((m_law_tables numbers).2)) 144 (1 : Int)) + (1 : Int)) - (1 : Int)).toNat).foldl (m_law_l1 ((m_law_tables numbers).1) ((m_law_tables numbers).2) (1 : Int)) (none : Option Int))))))) => ?_) (fun (zh4 : ¬ ((¬ (((List.range (((iterW (m_law_c0 ((m_law_tables numbers).1) ((m_law_tables numbers).2)) (m_law_w0 ((m_law_tables numbers).1) ((m_law_tables numbers).2)) 144 (1 : Int)) + (1 : Int)) - (1 : Int)).toNat).foldl (m_law_l1 ((m_law_tables numbers).1) ((m_law_tables numbers).2) (1 : Int)) (none : Option Int)).isNone = true)) ∧ ((¬ ((m_law_is_integero actual) = true)) ∨ (¬ (actual = ((List.range (((iterW (m_law_c0 ((m_law_tables numbers).1) ((m_law_tables numbers).2)) (m_law_w0 ((m_law_tables numbers).1) ((m_law_tables numbers).2)) 144 (1 : Int)) + (1 : Int)) - (1 : Int)).toNat).foldl (m_law_l1 ((m_law_tables numbers).1) ((m_law_tables numbers).2) (1 : Int)) (none : Option Int))))))) => ?_))
          · skip
            refine exs_one (ex_ret ev_bl ?_)
            have efin : m_law script = false := by subst zg_actual; subst zg_numbers; simp only [m_law, not_true_eq_false, not_false_eq_true, ↓reduceIte, ↓if_neg zh2, ↓if_neg zh3, ↓if_pos zh4]
            rw [efin] at zk
            exact zk _
          · skip
            refine exs_nil ?_
            show Exs _ _ _ ⟨[some (.fr ((eL D.int) script)), some (.fr ((eL D.int) numbers)), some (.fr ((eL D.int) ((m_law_tables numbers).1))), some (.fr ((eL D.int) ((m_law_tables numbers).2))), some (.fr (D.int (iterW (m_law_c0 ((m_law_tables numbers).1) ((m_law_tables numbers).2)) (m_law_w0 ((m_law_tables numbers).1) ((m_law_tables numbers).2)) 144 (1 : Int)))), some (.fr ((eO D.int) ((List.range (((iterW (m_law_c0 ((m_law_tables numbers).1) ((m_law_tables numbers).2)) (m_law_w0 ((m_law_tables numbers).1) ((m_law_tables numbers).2)) 144 (1 : Int)) + (1 : Int)) - (1 : Int)).toNat).foldl (m_law_l1 ((m_law_tables numbers).1) ((m_law_tables numbers).2) (1 : Int)) (none : Option Int)))), none, some (.fr ((eL D.int) ((m_law_tables numbers).1))), some (.fr ((eL D.int) ((m_law_tables numbers).2))), some (.fr ((eO D.int) actual)), none], []⟩ _
            refine exs_cons (ex_set 10 (ev_call (ds := [(eL D.int) ((m_law_tables numbers).1), (eL D.int) ((m_law_tables numbers).2)]) (ds' := []) (dvs := []) (dfs := []) O_dominates (zhr.mono (by decide)) T.m_dominates T.k_dominates T.b_dominates .nil (fun _ => .nil) (ea_cons (ev_var 7 rfl (.inl rfl) rfl) (ea_cons (ev_var 8 rfl (.inl rfl) rfl) ea_nil)) (fun _ zkk => ⟨(m_law_tables numbers).1, (m_law_tables numbers).2, rfl, rfl, (by walk_at "pre"), zkk⟩) (by exact rfl)) ?_ nd rfl (.inl rfl))
            show Exs _ _ _ ⟨[some (.fr ((eL D.int) script)), some (.fr ((eL D.int) numbers)), some (.fr ((eL D.int) ((m_law_tables numbers).1))), some (.fr ((eL D.int) ((m_law_tables numbers).2))), some (.fr (D.int (iterW (m_law_c0 ((m_law_tables numbers).1) ((m_law_tables numbers).2)) (m_law_w0 ((m_law_tables numbers).1) ((m_law_tables numbers).2)) 144 (1 : Int)))), some (.fr ((eO D.int) ((List.range (((iterW (m_law_c0 ((m_law_tables numbers).1) ((m_law_tables numbers).2)) (m_law_w0 ((m_law_tables numbers).1) ((m_law_tables numbers).2)) 144 (1 : Int)) + (1 : Int)) - (1 : Int)).toNat).foldl (m_law_l1 ((m_law_tables numbers).1) ((m_law_tables numbers).2) (1 : Int)) (none : Option Int)))), none, some (.fr ((eL D.int) ((m_law_tables numbers).1))), some (.fr ((eL D.int) ((m_law_tables numbers).2))), some (.fr ((eO D.int) actual)), some (.fr (D.bl (m_dominates ((m_law_tables numbers).1) ((m_law_tables numbers).2))))], []⟩ _
            generalize zg_answer : (m_dominates ((m_law_tables numbers).1) ((m_law_tables numbers).2)) = answer
            show Exs _ _ _ ⟨[some (.fr ((eL D.int) script)), some (.fr ((eL D.int) numbers)), some (.fr ((eL D.int) ((m_law_tables numbers).1))), some (.fr ((eL D.int) ((m_law_tables numbers).2))), some (.fr (D.int (iterW (m_law_c0 ((m_law_tables numbers).1) ((m_law_tables numbers).2)) (m_law_w0 ((m_law_tables numbers).1) ((m_law_tables numbers).2)) 144 (1 : Int)))), some (.fr ((eO D.int) ((List.range (((iterW (m_law_c0 ((m_law_tables numbers).1) ((m_law_tables numbers).2)) (m_law_w0 ((m_law_tables numbers).1) ((m_law_tables numbers).2)) 144 (1 : Int)) + (1 : Int)) - (1 : Int)).toNat).foldl (m_law_l1 ((m_law_tables numbers).1) ((m_law_tables numbers).2) (1 : Int)) (none : Option Int)))), none, some (.fr ((eL D.int) ((m_law_tables numbers).1))), some (.fr ((eL D.int) ((m_law_tables numbers).2))), some (.fr ((eO D.int) actual)), some (.fr (D.bl answer))], []⟩ _
            refine exs_cons (ex_ifP (bd_or (bd_not Iff.rfl) bd_n) (Ew.et (ew_orP (bd_not Iff.rfl) (et_not (et_val (ev_isi (T := "bool") (b := true) (ev_var 10 rfl (.inl rfl) rfl) rfl (by decide) (by exact rfl) T.n_isinstance (by exact rfl) T.n_bool (by decide +kernel)))) (fun zhp => (ew_or1 (et_cmp o_neb (ev_var 10 rfl (.inl rfl) rfl) (ev_cmp (o_isO (enc := D.int) (y := ((List.range (((iterW (m_law_c0 ((m_law_tables numbers).1) ((m_law_tables numbers).2)) (m_law_w0 ((m_law_tables numbers).1) ((m_law_tables numbers).2)) 144 (1 : Int)) + (1 : Int)) - (1 : Int)).toNat).foldl (m_law_l1 ((m_law_tables numbers).1) ((m_law_tables numbers).2) (1 : Int)) (none : Option Int))) (fun _ => rfl)) (ev_var 5 rfl (.inl rfl) rfl) ev_non (by rfl)) (nomark _)))))) (fun (zh5 : ((¬ (true = true)) ∨ (¬ (answer = (((List.range (((iterW (m_law_c0 ((m_law_tables numbers).1) ((m_law_tables numbers).2)) (m_law_w0 ((m_law_tables numbers).1) ((m_law_tables numbers).2)) 144 (1 : Int)) + (1 : Int)) - (1 : Int)).toNat).foldl (m_law_l1 ((m_law_tables numbers).1) ((m_law_tables numbers).2) (1 : Int)) (none : Option Int)).isNone))))) => ?_) (fun (zh5 : ¬ ((¬ (true = true)) ∨ (¬ (answer = (((List.range (((iterW (m_law_c0 ((m_law_tables numbers).1) ((m_law_tables numbers).2)) (m_law_w0 ((m_law_tables numbers).1) ((m_law_tables numbers).2)) 144 (1 : Int)) + (1 : Int)) - (1 : Int)).toNat).foldl (m_law_l1 ((m_law_tables numbers).1) ((m_law_tables numbers).2) (1 : Int)) (none : Option Int)).isNone))))) => ?_))
            · skip
              refine exs_one (ex_ret ev_bl ?_)
              have efin : m_law script = false := by subst zg_answer; subst zg_actual; subst zg_numbers; simp only [m_law, not_true_eq_false, not_false_eq_true, ↓reduceIte, ↓if_neg zh2, ↓if_neg zh3, ↓if_neg zh4, ↓if_pos zh5]
              rw [efin] at zk
              exact zk _
            · skip
              refine exs_nil ?_
              show Exs _ _ _ ⟨[some (.fr ((eL D.int) script)), some (.fr ((eL D.int) numbers)), some (.fr ((eL D.int) ((m_law_tables numbers).1))), some (.fr ((eL D.int) ((m_law_tables numbers).2))), some (.fr (D.int (iterW (m_law_c0 ((m_law_tables numbers).1) ((m_law_tables numbers).2)) (m_law_w0 ((m_law_tables numbers).1) ((m_law_tables numbers).2)) 144 (1 : Int)))), some (.fr ((eO D.int) ((List.range (((iterW (m_law_c0 ((m_law_tables numbers).1) ((m_law_tables numbers).2)) (m_law_w0 ((m_law_tables numbers).1) ((m_law_tables numbers).2)) 144 (1 : Int)) + (1 : Int)) - (1 : Int)).toNat).foldl (m_law_l1 ((m_law_tables numbers).1) ((m_law_tables numbers).2) (1 : Int)) (none : Option Int)))), none, some (.fr ((eL D.int) ((m_law_tables numbers).1))), some (.fr ((eL D.int) ((m_law_tables numbers).2))), some (.fr ((eO D.int) actual)), some (.fr (D.bl answer))], []⟩ _
              refine exs_one (ex_ret (ev_andP Iff.rfl (ev_call (ds := [(eL D.int) ((m_law_tables numbers).1)]) (ds' := []) (dvs := []) (dfs := []) O_law_bound (zhr.mono (by decide)) T.m_law_bound T.k_law_bound T.b_law_bound .nil (fun _ => .nil) (ea_cons (ev_var 2 rfl (.inl rfl) rfl) ea_nil) (fun _ zkk => ⟨(m_law_tables numbers).1, rfl, rfl, (by walk_at "pre"), zkk⟩) (by exact rfl)) (fun zhp => (ev_andP Iff.rfl (ev_call (ds := [(eL D.int) ((m_law_tables numbers).2)]) (ds' := []) (dvs := []) (dfs := []) O_law_bound (zhr.mono (by decide)) T.m_law_bound T.k_law_bound T.b_law_bound .nil (fun _ => .nil) (ea_cons (ev_var 3 rfl (.inl rfl) rfl) ea_nil) (fun _ zkk => ⟨(m_law_tables numbers).2, rfl, rfl, (by walk_at "pre"), zkk⟩) (by exact rfl)) (fun zhp => (ev_one (ev_call (ds := [(eL D.int) ((m_law_tables numbers).1), (eL D.int) ((m_law_tables numbers).1)]) (ds' := []) (dvs := []) (dfs := []) O_dominates (zhr.mono (by decide)) T.m_dominates T.k_dominates T.b_dominates .nil (fun _ => .nil) (ea_cons (ev_var 7 rfl (.inl rfl) rfl) (ea_cons (ev_var 7 rfl (.inl rfl) rfl) ea_nil)) (fun _ zkk => ⟨(m_law_tables numbers).1, (m_law_tables numbers).1, rfl, rfl, (by walk_at "pre"), zkk⟩) (by exact rfl))))))) ?_)
              have efin : m_law script = ((m_law_bound ((m_law_tables numbers).1)) && ((m_law_bound ((m_law_tables numbers).2)) && (m_dominates ((m_law_tables numbers).1) ((m_law_tables numbers).1)))) := by subst zg_answer; subst zg_actual; subst zg_numbers; simp only [m_law, not_true_eq_false, not_false_eq_true, ↓reduceIte, ↓if_neg zh2, ↓if_neg zh3, ↓if_neg zh4, ↓if_neg zh5]
              rw [efin] at zk
              exact zk _
def FS (f g : Nat → Int) (N : Nat) : Option Int → Prop
  | none => ∀ l : Nat, l ≤ N → ¬ f l < g l
  | some r => ∃ l : Nat, r = (l : Int) ∧ l ≤ N ∧ f l < g l ∧ ∀ l' : Nat, l' < l → ¬ f l' < g l'
theorem FS.one {f g : Nat → Int} {N : Nat} : ∀ {a b : Option Int}, FS f g N a → FS f g N b → a = b
  | none, none, _, _ => rfl
  | none, some r, h, ⟨l, _, h2, h3, _⟩ => absurd h3 (h l h2)
  | some r, none, ⟨l, _, h2, h3, _⟩, h => absurd h3 (h l h2)
  | some r, some q, ⟨l, e, h2, h3, h4⟩, ⟨m, e', g2, g3, g4⟩ => by
    rcases Nat.lt_trichotomy l m with z | z | z
    · exact absurd h3 (g4 l z)
    · rw [e, e', z]
    · exact absurd g3 (h4 m z)
theorem fs_run (f g : Nat → Int) : ∀ n k : Nat, match runE m_first_shortage_l0 ((List.range' k n).map fun i : Nat => ((i : Int), (f i, g i))) () with
    | .error r => ∃ l : Nat, r = some (l : Int) ∧ k ≤ l ∧ l < k + n ∧ f l < g l ∧ ∀ l', k ≤ l' → l' < l → ¬ f l' < g l'
    | .ok _ => ∀ l, k ≤ l → l < k + n → ¬ f l < g l
  | 0, k => by
    show ∀ l, k ≤ l → l < k + 0 → ¬ f l < g l
    intro l h1 h2; omega
  | n + 1, k => by
    rw [List.range'_succ, List.map_cons, runE_cons]
    by_cases q : f k < g k
    · have e : m_first_shortage_l0 () ((k : Int), (f k, g k)) = .error (some (k : Int)) := by unfold m_first_shortage_l0; exact if_pos q
      rw [e]
      exact ⟨k, rfl, Nat.le_refl _, by omega, q, fun l' h1 h2 => by omega⟩
    · have e : m_first_shortage_l0 () ((k : Int), (f k, g k)) = .ok () := by unfold m_first_shortage_l0; exact if_neg q
      rw [e]
      have := fs_run f g n (k + 1)
      show match runE m_first_shortage_l0 ((List.range' (k + 1) n).map fun i : Nat => ((i : Int), (f i, g i))) () with
        | .error r => ∃ l : Nat, r = some (l : Int) ∧ k ≤ l ∧ l < k + (n + 1) ∧ f l < g l ∧ ∀ l', k ≤ l' → l' < l → ¬ f l' < g l'
        | .ok _ => ∀ l, k ≤ l → l < k + (n + 1) → ¬ f l < g l
      cases hr : runE m_first_shortage_l0 ((List.range' (k + 1) n).map fun i : Nat => ((i : Int), (f i, g i))) () with
      | error r =>
        rw [hr] at this
        obtain ⟨l, e1, e2, e3, e4, e5⟩ := this
        refine ⟨l, e1, by omega, by omega, e4, fun l' h1 h2 => ?_⟩
        rcases Nat.lt_or_eq_of_le h1 with z | z
        · exact e5 l' (by omega) h2
        · rw [← z]; exact q
      | ok u =>
        rw [hr] at this
        intro l h1 h2
        rcases Nat.lt_or_eq_of_le h1 with z | z
        · exact this l (by omega) (by omega)
        · rw [← z]; exact q
theorem zip_maps {τ μ : Type} (f : Nat → τ) (g : Nat → μ) : ∀ xs : List Nat, (xs.map f).zip (xs.map g) = xs.map fun i => (f i, g i)
  | [] => rfl
  | x :: xs => by rw [List.map_cons, List.map_cons, List.zip_cons_cons, zip_maps f g xs]; rfl
theorem shortage_FS {one other : List Int} (h1 : 0 < one.length) (h2 : 0 < other.length) : FS (Mn one) (Mn other) (Nat.lcm one.length other.length) (m_first_shortage one other) := by
  unfold m_first_shortage
  dsimp only
  rw [common_nat, least_eq one _ h1, least_eq other _ h2, zip_maps, List.range_eq_range', enL_range]
  have := fs_run (Mn one) (Mn other) (Nat.lcm one.length other.length + 1) 0
  cases hr : runE m_first_shortage_l0 ((List.range' 0 (Nat.lcm one.length other.length + 1)).map fun i : Nat => ((i : Int), (Mn one i, Mn other i))) () with
  | error r =>
    rw [hr] at this
    obtain ⟨l, e1, e2, e3, e4, e5⟩ := this
    show FS _ _ _ r
    rw [e1]
    exact ⟨l, rfl, by omega, e4, fun l' h => e5 l' (Nat.zero_le _) h⟩
  | ok u =>
    rw [hr] at this
    exact fun l h => this l (Nat.zero_le _) (by omega)
theorem law_due {one other : List Int} (h1 : 0 < one.length) (h2 : 0 < other.length) : ∀ n : Nat, FS (Mn one) (Mn other) n ((List.range n).foldl (m_law_l1 one other 1) none)
  | 0 => fun l hl => by
    have e : l = 0 := by omega
    subst e
    have z : ∀ t : List Int, 0 < t.length → Mn t 0 = 0 := fun t ht => by
      obtain ⟨⟨b, _, e⟩, _⟩ := Mn_spec t 0 ht
      rw [e]; unfold Sup; simp
    rw [z one h1, z other h2]; omega
  | n + 1 => by
    have ih := law_due h1 h2 n
    have st : ∀ o : Option Int, m_law_l1 one other 1 o n = if (o.isNone = true) ∧ (Mn one (n + 1) < Mn other (n + 1)) then some ((n + 1 : Nat) : Int) else o := fun o => by
      unfold m_law_l1
      rw [show (1 : Int) + (n : Int) = ((n + 1 : Nat) : Int) by omega, least_get h1, least_get h2]
    rw [List.range_succ, List.foldl_append]
    show FS _ _ _ (m_law_l1 one other 1 _ n)
    rw [st]
    generalize (List.range n).foldl (m_law_l1 one other 1) none = o at ih
    cases o with
    | none =>
      by_cases q : Mn one (n + 1) < Mn other (n + 1)
      · rw [if_pos ⟨rfl, q⟩]
        exact ⟨n + 1, rfl, Nat.le_refl _, q, fun l' h => ih l' (by omega)⟩
      · rw [if_neg (fun z => q z.2)]
        intro l hl
        rcases Nat.lt_or_eq_of_le hl with z | z
        · exact ih l (by omega)
        · rw [z]; exact q
    | some r =>
      rw [if_neg (fun z => by cases z.1)]
      obtain ⟨l, e1, e2, e3, e4⟩ := ih
      exact ⟨l, e1, by omega, e3, e4⟩
theorem comm_key {one other : List Int} (h1 : 0 < one.length) (h2 : 0 < other.length) : ∀ n x : Nat, 1 ≤ x → x ≤ Nat.lcm one.length other.length → Nat.lcm one.length other.length - x ≤ n → iterW (m_law_c0 one other) (m_law_w0 one other) n (x : Int) = ((Nat.lcm one.length other.length : Nat) : Int)
  | 0, x, _, g2, g3 => by
    have : x = Nat.lcm one.length other.length := by omega
    rw [← this]; rfl
  | n + 1, x, g1, g2, g3 => by
    unfold iterW
    by_cases q : x = Nat.lcm one.length other.length
    · rw [if_neg]
      · rw [q]
      · unfold m_law_c0
        rw [← Int.natCast_emod, ← Int.natCast_emod, q, Nat.mod_eq_zero_of_dvd (Nat.dvd_lcm_left _ _), Nat.mod_eq_zero_of_dvd (Nat.dvd_lcm_right _ _)]
        decide
    · rw [if_pos]
      · show iterW _ _ n ((x : Int) + 1) = _
        rw [show (x : Int) + 1 = ((x + 1 : Nat) : Int) by omega]
        exact comm_key h1 h2 n (x + 1) (by omega) (by omega) (by omega)
      · unfold m_law_c0
        rw [← Int.natCast_emod, ← Int.natCast_emod]
        rw [Bool.or_eq_true]
        by_cases a : x % one.length = 0
        · right
          have b : x % other.length ≠ 0 := fun b => q (Nat.le_antisymm g2 (Nat.le_of_dvd g1 (Nat.lcm_dvd (Nat.dvd_of_mod_eq_zero a) (Nat.dvd_of_mod_eq_zero b))))
          simp only [Bool.not_eq_true', decide_eq_false_iff_not]
          omega
        · left
          simp only [Bool.not_eq_true', decide_eq_false_iff_not]
          omega
theorem bound_run (t : List Int) (top lack bottom : Int) (ok : ∀ l : Nat, 0 ≤ (m_law_least t (l : Int)).getD default * bottom - top * (l : Int) + lack) : ∀ (n : Nat) (b : Bool), ∃ b', runE (m_law_bound_l0 t top lack bottom) (List.range n) b = .ok b' ∧ (b = true → b' = true) ∧ ∀ l, l < n → (m_law_least t (l : Int)).getD default * bottom - top * (l : Int) + lack = 0 → b' = true
  | 0, b => ⟨b, rfl, id, fun l h => by omega⟩
  | n + 1, b => by
    obtain ⟨b1, e1, e2, e3⟩ := bound_run t top lack bottom ok n b
    rw [List.range_succ, runE_append, e1]
    show ∃ b', runE (m_law_bound_l0 t top lack bottom) [n] b1 = _ ∧ _
    rw [runE_cons]
    have st : m_law_bound_l0 t top lack bottom b1 n = .ok (b1 || decide ((m_law_least t (n : Int)).getD default * bottom - top * (n : Int) + lack = 0)) := by
      unfold m_law_bound_l0
      dsimp only
      rw [Int.zero_add, if_neg (by have := ok n; omega)]
    rw [st]
    refine ⟨_, rfl, fun h => by rw [e2 h]; rfl, fun l hl z => ?_⟩
    rcases Nat.lt_or_eq_of_le (Nat.le_of_lt_succ hl) with h | rfl
    · rw [e3 l h z]; rfl
    · rw [Bool.or_eq_true]; right; exact decide_eq_true z
theorem bound_true {t : List Int} (ht : 0 < t.length) : m_law_bound t = true := by
  have hm := maxL_mem (ns := (List.range' 0 (t.length + 1)).map fun l : Nat => t.sum * (l : Int) - (t.length : Int) * Mn t l) (fun e => by have := congrArg List.length e; simp at this)
  have hle : ∀ l : Nat, t.sum * (l : Int) - (t.length : Int) * Mn t l ≤ maxL ((List.range' 0 (t.length + 1)).map fun l : Nat => t.sum * (l : Int) - (t.length : Int) * Mn t l) := fun l => by
    rw [gap_mod ht]
    refine maxL_le (List.mem_map.mpr ⟨l % t.length, ?_, rfl⟩)
    rw [← List.range_eq_range']
    exact List.mem_range.mpr (by have := Nat.mod_lt l ht; omega)
  unfold m_law_bound
  rw [lacks_eq ht]
  dsimp only
  generalize hM : maxL ((List.range' 0 (t.length + 1)).map fun l : Nat => t.sum * (l : Int) - (t.length : Int) * Mn t l) = M at hm hle
  obtain ⟨l0, hl0, e0⟩ := List.mem_map.mp hm
  rw [← List.range_eq_range'] at hl0
  have hl0 := List.mem_range.mp hl0
  have z0 : Mn t 0 = 0 := by
    obtain ⟨⟨b, _, e⟩, _⟩ := Mn_spec t 0 ht
    rw [e]; unfold Sup; simp
  have hM0 : 0 ≤ M := by have := hle 0; rw [z0] at this; simpa using this
  rw [if_neg (by simp), if_neg (by intro z; rcases z with z | z | z | z; exact z rfl; exact z rfl; exact z rfl; omega)]
  obtain ⟨b', e1, _, e3⟩ := bound_run t t.sum M (t.length : Int) (fun l => by rw [least_get ht]; have := hle l; rw [Int.mul_comm (Mn t l)]; omega) ((3 * (t.length : Int) + 1).toNat) (decide (M = 0))
  rw [e1]
  exact e3 l0 (by omega) (by rw [least_get ht, Int.mul_comm (Mn t l0)]; omega)
theorem dom_self {t : List Int} (ht : 0 < t.length) : m_dominates t t = true := by
  unfold m_dominates
  have := shortage_FS ht ht
  cases hr : m_first_shortage t t with
  | none => rfl
  | some r =>
    rw [hr] at this
    obtain ⟨l, _, _, h, _⟩ := this
    omega
theorem law_true : ∀ ns : List Int, ns.length ≤ 63 → m_law ns = true := by
  intro ns _
  unfold m_law
  dsimp only
  have hnf := numbers_facts ns (20 : Int) (by decide)
  have htk := tables_ok hnf
  generalize m_law_numbers ns (20 : Int) = N at hnf htk
  generalize (m_law_tables N).1 = one at htk
  generalize (m_law_tables N).2 = other at htk
  obtain ⟨h1, h2⟩ := htk
  have e := comm_key h1.1 h2.1 144 1 (Nat.le_refl _) (Nat.lcm_pos h1.1 h2.1) (by have := common_le (one := one) (other := other) h1.2.1 h2.2.1 h1.1 h2.1; omega)
  rw [show (((1 : Nat) : Int)) = 1 from rfl] at e
  rw [e, show (((Nat.lcm one.length other.length : Nat) : Int) + 1 - 1).toNat = Nat.lcm one.length other.length by omega]
  have e2 := (shortage_FS h1.1 h2.1).one (law_due h1.1 h2.1 _)
  rw [← e2]
  rw [bound_true h1.1, bound_true h2.1, dom_self h1.1]
  have e3 : m_dominates one other = (m_first_shortage one other).isNone := rfl
  rw [e3]
  generalize m_first_shortage one other = o
  cases o with
  | none => simp
  | some r => simp [m_law_is_integero]
end
section
theorem all_mk {l : PySem.W.OpenLaw} {w : World} {K : Frag} {h : Heap} {mg : Mg} {fa : Addr} (X : K.In h) (G : h.Ns mainGlobals mg) (hfa : mg "law" = some (.ref fa))
    (z_abs : PySem.W.nsIn K mainGlobals "abs" = some none)
    (z_bool : PySem.W.nsIn K mainGlobals "bool" = some none)
    (z_enumerate : PySem.W.nsIn K mainGlobals "enumerate" = some none)
    (z_int : PySem.W.nsIn K mainGlobals "int" = some none)
    (z_isinstance : PySem.W.nsIn K mainGlobals "isinstance" = some none)
    (z_len : PySem.W.nsIn K mainGlobals "len" = some none)
    (z_list : PySem.W.nsIn K mainGlobals "list" = some none)
    (z_max : PySem.W.nsIn K mainGlobals "max" = some none)
    (z_min : PySem.W.nsIn K mainGlobals "min" = some none)
    (z_range : PySem.W.nsIn K mainGlobals "range" = some none)
    (z_sum : PySem.W.nsIn K mainGlobals "sum" = some none)
    (z_tuple : PySem.W.nsIn K mainGlobals "tuple" = some none)
    (z_zip : PySem.W.nsIn K mainGlobals "zip" = some none)
    (z_lcm : PySem.W.nsIn K mainGlobals "lcm" = some (some (.builtin "math.lcm")))
    {f_law_row : Addr} {od_law_row an_law_row : Option Addr} {sl_law_row : Array (Option Value)} {oc_law_row dc_law_row pm_law_row cd_law_row ct_law_row : Value} {kV_law_row : Value}
    (g_law_row : PySem.W.nsIn K mainGlobals "_law_row" = some (some (.ref f_law_row)))
    (l_law_row : K.lookup f_law_row = some ⟨oc_law_row, od_law_row, .func (PySem.W.fnOf "_law_row" "_law_row" (defArgs s_law_row) (defBody s_law_row) (defScope s_law_row) .none kV_law_row dc_law_row pm_law_row an_law_row cd_law_row ct_law_row), sl_law_row⟩)
    (c_law_row : PySem.W.codeIn K cd_law_row "_law_row" = true) (k_law_row : PySem.W.keepIn K (.ref f_law_row) = true)
    {f_law_numbers : Addr} {od_law_numbers an_law_numbers : Option Addr} {sl_law_numbers : Array (Option Value)} {oc_law_numbers dc_law_numbers pm_law_numbers cd_law_numbers ct_law_numbers : Value} {kV_law_numbers : Value}
    (g_law_numbers : PySem.W.nsIn K mainGlobals "_law_numbers" = some (some (.ref f_law_numbers)))
    (l_law_numbers : K.lookup f_law_numbers = some ⟨oc_law_numbers, od_law_numbers, .func (PySem.W.fnOf "_law_numbers" "_law_numbers" (defArgs s_law_numbers) (defBody s_law_numbers) (defScope s_law_numbers) .none kV_law_numbers dc_law_numbers pm_law_numbers an_law_numbers cd_law_numbers ct_law_numbers), sl_law_numbers⟩)
    (c_law_numbers : PySem.W.codeIn K cd_law_numbers "_law_numbers" = true) (k_law_numbers : PySem.W.keepIn K (.ref f_law_numbers) = true)
    {f_sums : Addr} {od_sums an_sums : Option Addr} {sl_sums : Array (Option Value)} {oc_sums dc_sums pm_sums cd_sums ct_sums : Value} {kV_sums : Value}
    (g_sums : PySem.W.nsIn K mainGlobals "_sums" = some (some (.ref f_sums)))
    (l_sums : K.lookup f_sums = some ⟨oc_sums, od_sums, .func (PySem.W.fnOf "_sums" "_sums" (defArgs s_sums) (defBody s_sums) (defScope s_sums) .none kV_sums dc_sums pm_sums an_sums cd_sums ct_sums), sl_sums⟩)
    (c_sums : PySem.W.codeIn K cd_sums "_sums" = true) (k_sums : PySem.W.keepIn K (.ref f_sums) = true)
    {f_least_supplies : Addr} {od_least_supplies an_least_supplies : Option Addr} {sl_least_supplies : Array (Option Value)} {oc_least_supplies dc_least_supplies pm_least_supplies cd_least_supplies ct_least_supplies : Value} {kV_least_supplies : Value}
    (g_least_supplies : PySem.W.nsIn K mainGlobals "least_supplies" = some (some (.ref f_least_supplies)))
    (l_least_supplies : K.lookup f_least_supplies = some ⟨oc_least_supplies, od_least_supplies, .func (PySem.W.fnOf "least_supplies" "least_supplies" (defArgs s_least_supplies) (defBody s_least_supplies) (defScope s_least_supplies) .none kV_least_supplies dc_least_supplies pm_least_supplies an_least_supplies cd_least_supplies ct_least_supplies), sl_least_supplies⟩)
    (c_least_supplies : PySem.W.codeIn K cd_least_supplies "least_supplies" = true) (k_least_supplies : PySem.W.keepIn K (.ref f_least_supplies) = true)
    {f_common_length : Addr} {od_common_length an_common_length : Option Addr} {sl_common_length : Array (Option Value)} {oc_common_length dc_common_length pm_common_length cd_common_length ct_common_length : Value} {kV_common_length : Value}
    (g_common_length : PySem.W.nsIn K mainGlobals "common_length" = some (some (.ref f_common_length)))
    (l_common_length : K.lookup f_common_length = some ⟨oc_common_length, od_common_length, .func (PySem.W.fnOf "common_length" "common_length" (defArgs s_common_length) (defBody s_common_length) (defScope s_common_length) .none kV_common_length dc_common_length pm_common_length an_common_length cd_common_length ct_common_length), sl_common_length⟩)
    (c_common_length : PySem.W.codeIn K cd_common_length "common_length" = true) (k_common_length : PySem.W.keepIn K (.ref f_common_length) = true)
    {f_first_shortage : Addr} {od_first_shortage an_first_shortage : Option Addr} {sl_first_shortage : Array (Option Value)} {oc_first_shortage dc_first_shortage pm_first_shortage cd_first_shortage ct_first_shortage : Value} {kV_first_shortage : Value}
    (g_first_shortage : PySem.W.nsIn K mainGlobals "first_shortage" = some (some (.ref f_first_shortage)))
    (l_first_shortage : K.lookup f_first_shortage = some ⟨oc_first_shortage, od_first_shortage, .func (PySem.W.fnOf "first_shortage" "first_shortage" (defArgs s_first_shortage) (defBody s_first_shortage) (defScope s_first_shortage) .none kV_first_shortage dc_first_shortage pm_first_shortage an_first_shortage cd_first_shortage ct_first_shortage), sl_first_shortage⟩)
    (c_first_shortage : PySem.W.codeIn K cd_first_shortage "first_shortage" = true) (k_first_shortage : PySem.W.keepIn K (.ref f_first_shortage) = true)
    {f_dominates : Addr} {od_dominates an_dominates : Option Addr} {sl_dominates : Array (Option Value)} {oc_dominates dc_dominates pm_dominates cd_dominates ct_dominates : Value} {kV_dominates : Value}
    (g_dominates : PySem.W.nsIn K mainGlobals "dominates" = some (some (.ref f_dominates)))
    (l_dominates : K.lookup f_dominates = some ⟨oc_dominates, od_dominates, .func (PySem.W.fnOf "dominates" "dominates" (defArgs s_dominates) (defBody s_dominates) (defScope s_dominates) .none kV_dominates dc_dominates pm_dominates an_dominates cd_dominates ct_dominates), sl_dominates⟩)
    (c_dominates : PySem.W.codeIn K cd_dominates "dominates" = true) (k_dominates : PySem.W.keepIn K (.ref f_dominates) = true)
    {f_supply_bound : Addr} {od_supply_bound an_supply_bound : Option Addr} {sl_supply_bound : Array (Option Value)} {oc_supply_bound dc_supply_bound pm_supply_bound cd_supply_bound ct_supply_bound : Value} {kV_supply_bound : Value}
    (g_supply_bound : PySem.W.nsIn K mainGlobals "supply_bound" = some (some (.ref f_supply_bound)))
    (l_supply_bound : K.lookup f_supply_bound = some ⟨oc_supply_bound, od_supply_bound, .func (PySem.W.fnOf "supply_bound" "supply_bound" (defArgs s_supply_bound) (defBody s_supply_bound) (defScope s_supply_bound) .none kV_supply_bound dc_supply_bound pm_supply_bound an_supply_bound cd_supply_bound ct_supply_bound), sl_supply_bound⟩)
    (c_supply_bound : PySem.W.codeIn K cd_supply_bound "supply_bound" = true) (k_supply_bound : PySem.W.keepIn K (.ref f_supply_bound) = true)
    {f_law_is_integer : Addr} {od_law_is_integer an_law_is_integer : Option Addr} {sl_law_is_integer : Array (Option Value)} {oc_law_is_integer dc_law_is_integer pm_law_is_integer cd_law_is_integer ct_law_is_integer : Value} {kV_law_is_integer : Value}
    (g_law_is_integer : PySem.W.nsIn K mainGlobals "_law_is_integer" = some (some (.ref f_law_is_integer)))
    (l_law_is_integer : K.lookup f_law_is_integer = some ⟨oc_law_is_integer, od_law_is_integer, .func (PySem.W.fnOf "_law_is_integer" "_law_is_integer" (defArgs s_law_is_integer) (defBody s_law_is_integer) (defScope s_law_is_integer) .none kV_law_is_integer dc_law_is_integer pm_law_is_integer an_law_is_integer cd_law_is_integer ct_law_is_integer), sl_law_is_integer⟩)
    (c_law_is_integer : PySem.W.codeIn K cd_law_is_integer "_law_is_integer" = true) (k_law_is_integer : PySem.W.keepIn K (.ref f_law_is_integer) = true)
    {f_law_is_integero : Addr} {od_law_is_integero an_law_is_integero : Option Addr} {sl_law_is_integero : Array (Option Value)} {oc_law_is_integero dc_law_is_integero pm_law_is_integero cd_law_is_integero ct_law_is_integero : Value} {kV_law_is_integero : Value}
    (g_law_is_integero : PySem.W.nsIn K mainGlobals "_law_is_integer" = some (some (.ref f_law_is_integero)))
    (l_law_is_integero : K.lookup f_law_is_integero = some ⟨oc_law_is_integero, od_law_is_integero, .func (PySem.W.fnOf "_law_is_integer" "_law_is_integer" (defArgs s_law_is_integero) (defBody s_law_is_integero) (defScope s_law_is_integero) .none kV_law_is_integero dc_law_is_integero pm_law_is_integero an_law_is_integero cd_law_is_integero ct_law_is_integero), sl_law_is_integero⟩)
    (c_law_is_integero : PySem.W.codeIn K cd_law_is_integero "_law_is_integer" = true) (k_law_is_integero : PySem.W.keepIn K (.ref f_law_is_integero) = true)
    {f_law_slot : Addr} {od_law_slot an_law_slot : Option Addr} {sl_law_slot : Array (Option Value)} {oc_law_slot dc_law_slot pm_law_slot cd_law_slot ct_law_slot : Value} {kV_law_slot : Value}
    (g_law_slot : PySem.W.nsIn K mainGlobals "_law_slot" = some (some (.ref f_law_slot)))
    (l_law_slot : K.lookup f_law_slot = some ⟨oc_law_slot, od_law_slot, .func (PySem.W.fnOf "_law_slot" "_law_slot" (defArgs s_law_slot) (defBody s_law_slot) (defScope s_law_slot) .none kV_law_slot dc_law_slot pm_law_slot an_law_slot cd_law_slot ct_law_slot), sl_law_slot⟩)
    (c_law_slot : PySem.W.codeIn K cd_law_slot "_law_slot" = true) (k_law_slot : PySem.W.keepIn K (.ref f_law_slot) = true)
    {f_law_least : Addr} {od_law_least an_law_least : Option Addr} {sl_law_least : Array (Option Value)} {oc_law_least dc_law_least pm_law_least cd_law_least ct_law_least : Value} {kV_law_least : Value}
    (g_law_least : PySem.W.nsIn K mainGlobals "_law_least" = some (some (.ref f_law_least)))
    (l_law_least : K.lookup f_law_least = some ⟨oc_law_least, od_law_least, .func (PySem.W.fnOf "_law_least" "_law_least" (defArgs s_law_least) (defBody s_law_least) (defScope s_law_least) .none kV_law_least dc_law_least pm_law_least an_law_least cd_law_least ct_law_least), sl_law_least⟩)
    (c_law_least : PySem.W.codeIn K cd_law_least "_law_least" = true) (k_law_least : PySem.W.keepIn K (.ref f_law_least) = true)
    {f_law_tables : Addr} {od_law_tables an_law_tables : Option Addr} {sl_law_tables : Array (Option Value)} {oc_law_tables dc_law_tables pm_law_tables cd_law_tables ct_law_tables : Value} {kV_law_tables : Value}
    (g_law_tables : PySem.W.nsIn K mainGlobals "_law_tables" = some (some (.ref f_law_tables)))
    (l_law_tables : K.lookup f_law_tables = some ⟨oc_law_tables, od_law_tables, .func (PySem.W.fnOf "_law_tables" "_law_tables" (defArgs s_law_tables) (defBody s_law_tables) (defScope s_law_tables) .none kV_law_tables dc_law_tables pm_law_tables an_law_tables cd_law_tables ct_law_tables), sl_law_tables⟩)
    (c_law_tables : PySem.W.codeIn K cd_law_tables "_law_tables" = true) (k_law_tables : PySem.W.keepIn K (.ref f_law_tables) = true)
    {f_law_bound : Addr} {od_law_bound an_law_bound : Option Addr} {sl_law_bound : Array (Option Value)} {oc_law_bound dc_law_bound pm_law_bound cd_law_bound ct_law_bound : Value} {kV_law_bound : Value}
    (g_law_bound : PySem.W.nsIn K mainGlobals "_law_bound" = some (some (.ref f_law_bound)))
    (l_law_bound : K.lookup f_law_bound = some ⟨oc_law_bound, od_law_bound, .func (PySem.W.fnOf "_law_bound" "_law_bound" (defArgs s_law_bound) (defBody s_law_bound) (defScope s_law_bound) .none kV_law_bound dc_law_bound pm_law_bound an_law_bound cd_law_bound ct_law_bound), sl_law_bound⟩)
    (c_law_bound : PySem.W.codeIn K cd_law_bound "_law_bound" = true) (k_law_bound : PySem.W.keepIn K (.ref f_law_bound) = true)
    {f_law : Addr} {od_law an_law : Option Addr} {sl_law : Array (Option Value)} {oc_law dc_law pm_law cd_law ct_law : Value} {kV_law : Value}
    (g_law : PySem.W.nsIn K mainGlobals "law" = some (some (.ref f_law)))
    (l_law : K.lookup f_law = some ⟨oc_law, od_law, .func (PySem.W.fnOf "law" "law" (defArgs s_law) (defBody s_law) (defScope s_law) .none kV_law dc_law pm_law an_law cd_law ct_law), sl_law⟩)
    (c_law : PySem.W.codeIn K cd_law "law" = true) (k_law : PySem.W.keepIn K (.ref f_law) = true)
    : ∃ fd : FuncData, (∀ (s : Shared) (v : Value), BindsTo s fd ⟨[v], []⟩ [("script", v)]) ∧ ∀ base : Heap, K.In base → base.Ns mainGlobals mg → FnOk l.prog w K mg base CX0 5 fa fd ["script"] (spTrue K) := by
  have T : TX l.prog K mg := {
    n_abs := PySem.W.mg_none_of X G z_abs
    n_bool := PySem.W.mg_none_of X G z_bool
    n_enumerate := PySem.W.mg_none_of X G z_enumerate
    n_int := PySem.W.mg_none_of X G z_int
    n_isinstance := PySem.W.mg_none_of X G z_isinstance
    n_len := PySem.W.mg_none_of X G z_len
    n_list := PySem.W.mg_none_of X G z_list
    n_max := PySem.W.mg_none_of X G z_max
    n_min := PySem.W.mg_none_of X G z_min
    n_range := PySem.W.mg_none_of X G z_range
    n_sum := PySem.W.mg_none_of X G z_sum
    n_tuple := PySem.W.mg_none_of X G z_tuple
    n_zip := PySem.W.mg_none_of X G z_zip
    x_lcm := PySem.W.mg_of X G z_lcm
    a_law_row := f_law_row
    d_law_row := _
    F_law_row := fun_mk (st := s_law_row) l_law_row c_law_row k_law_row
    k_law_row := k_law_row
    m_law_row := PySem.W.mg_of X G g_law_row
    b_law_row := (fun_mk (st := s_law_row) l_law_row c_law_row k_law_row).binds (ps := ["cell", "many"]) fun _ _ _ _ _ _ us hl => match us, hl with | [_, _], _ => rfl
    a_law_numbers := f_law_numbers
    d_law_numbers := _
    F_law_numbers := fun_mk (st := s_law_numbers) l_law_numbers c_law_numbers k_law_numbers
    k_law_numbers := k_law_numbers
    m_law_numbers := PySem.W.mg_of X G g_law_numbers
    b_law_numbers := (fun_mk (st := s_law_numbers) l_law_numbers c_law_numbers k_law_numbers).binds (ps := ["script", "many"]) fun _ _ _ _ _ _ us hl => match us, hl with | [_, _], _ => rfl
    a_sums := f_sums
    d_sums := _
    F_sums := fun_mk (st := s_sums) l_sums c_sums k_sums
    k_sums := k_sums
    m_sums := PySem.W.mg_of X G g_sums
    b_sums := (fun_mk (st := s_sums) l_sums c_sums k_sums).binds (ps := ["table"]) fun _ _ _ _ _ _ us hl => match us, hl with | [_], _ => rfl
    a_least_supplies := f_least_supplies
    d_least_supplies := _
    F_least_supplies := fun_mk (st := s_least_supplies) l_least_supplies c_least_supplies k_least_supplies
    k_least_supplies := k_least_supplies
    m_least_supplies := PySem.W.mg_of X G g_least_supplies
    b_least_supplies := (fun_mk (st := s_least_supplies) l_least_supplies c_least_supplies k_least_supplies).binds (ps := ["table", "length"]) fun _ _ _ _ _ _ us hl => match us, hl with | [_, _], _ => rfl
    a_common_length := f_common_length
    d_common_length := _
    F_common_length := fun_mk (st := s_common_length) l_common_length c_common_length k_common_length
    k_common_length := k_common_length
    m_common_length := PySem.W.mg_of X G g_common_length
    b_common_length := (fun_mk (st := s_common_length) l_common_length c_common_length k_common_length).binds (ps := ["one", "other"]) fun _ _ _ _ _ _ us hl => match us, hl with | [_, _], _ => rfl
    a_first_shortage := f_first_shortage
    d_first_shortage := _
    F_first_shortage := fun_mk (st := s_first_shortage) l_first_shortage c_first_shortage k_first_shortage
    k_first_shortage := k_first_shortage
    m_first_shortage := PySem.W.mg_of X G g_first_shortage
    b_first_shortage := (fun_mk (st := s_first_shortage) l_first_shortage c_first_shortage k_first_shortage).binds (ps := ["one", "other"]) fun _ _ _ _ _ _ us hl => match us, hl with | [_, _], _ => rfl
    a_dominates := f_dominates
    d_dominates := _
    F_dominates := fun_mk (st := s_dominates) l_dominates c_dominates k_dominates
    k_dominates := k_dominates
    m_dominates := PySem.W.mg_of X G g_dominates
    b_dominates := (fun_mk (st := s_dominates) l_dominates c_dominates k_dominates).binds (ps := ["one", "other"]) fun _ _ _ _ _ _ us hl => match us, hl with | [_, _], _ => rfl
    a_supply_bound := f_supply_bound
    d_supply_bound := _
    F_supply_bound := fun_mk (st := s_supply_bound) l_supply_bound c_supply_bound k_supply_bound
    k_supply_bound := k_supply_bound
    m_supply_bound := PySem.W.mg_of X G g_supply_bound
    b_supply_bound := (fun_mk (st := s_supply_bound) l_supply_bound c_supply_bound k_supply_bound).binds (ps := ["table"]) fun _ _ _ _ _ _ us hl => match us, hl with | [_], _ => rfl
    a_law_is_integer := f_law_is_integer
    d_law_is_integer := _
    F_law_is_integer := fun_mk (st := s_law_is_integer) l_law_is_integer c_law_is_integer k_law_is_integer
    k_law_is_integer := k_law_is_integer
    m_law_is_integer := PySem.W.mg_of X G g_law_is_integer
    b_law_is_integer := (fun_mk (st := s_law_is_integer) l_law_is_integer c_law_is_integer k_law_is_integer).binds (ps := ["actual"]) fun _ _ _ _ _ _ us hl => match us, hl with | [_], _ => rfl
    a_law_is_integero := f_law_is_integero
    d_law_is_integero := _
    F_law_is_integero := fun_mk (st := s_law_is_integero) l_law_is_integero c_law_is_integero k_law_is_integero
    k_law_is_integero := k_law_is_integero
    m_law_is_integero := PySem.W.mg_of X G g_law_is_integero
    b_law_is_integero := (fun_mk (st := s_law_is_integero) l_law_is_integero c_law_is_integero k_law_is_integero).binds (ps := ["actual"]) fun _ _ _ _ _ _ us hl => match us, hl with | [_], _ => rfl
    a_law_slot := f_law_slot
    d_law_slot := _
    F_law_slot := fun_mk (st := s_law_slot) l_law_slot c_law_slot k_law_slot
    k_law_slot := k_law_slot
    m_law_slot := PySem.W.mg_of X G g_law_slot
    b_law_slot := (fun_mk (st := s_law_slot) l_law_slot c_law_slot k_law_slot).binds (ps := ["table", "slot"]) fun _ _ _ _ _ _ us hl => match us, hl with | [_, _], _ => rfl
    a_law_least := f_law_least
    d_law_least := _
    F_law_least := fun_mk (st := s_law_least) l_law_least c_law_least k_law_least
    k_law_least := k_law_least
    m_law_least := PySem.W.mg_of X G g_law_least
    b_law_least := (fun_mk (st := s_law_least) l_law_least c_law_least k_law_least).binds (ps := ["table", "length"]) fun _ _ _ _ _ _ us hl => match us, hl with | [_, _], _ => rfl
    a_law_tables := f_law_tables
    d_law_tables := _
    F_law_tables := fun_mk (st := s_law_tables) l_law_tables c_law_tables k_law_tables
    k_law_tables := k_law_tables
    m_law_tables := PySem.W.mg_of X G g_law_tables
    b_law_tables := (fun_mk (st := s_law_tables) l_law_tables c_law_tables k_law_tables).binds (ps := ["numbers"]) fun _ _ _ _ _ _ us hl => match us, hl with | [_], _ => rfl
    a_law_bound := f_law_bound
    d_law_bound := _
    F_law_bound := fun_mk (st := s_law_bound) l_law_bound c_law_bound k_law_bound
    k_law_bound := k_law_bound
    m_law_bound := PySem.W.mg_of X G g_law_bound
    b_law_bound := (fun_mk (st := s_law_bound) l_law_bound c_law_bound k_law_bound).binds (ps := ["table"]) fun _ _ _ _ _ _ us hl => match us, hl with | [_], _ => rfl
    a_law := f_law
    d_law := _
    F_law := fun_mk (st := s_law) l_law c_law k_law
    k_law := k_law
    m_law := PySem.W.mg_of X G g_law
    b_law := (fun_mk (st := s_law) l_law c_law k_law).binds (ps := ["script"]) fun _ _ _ _ _ _ us hl => match us, hl with | [_], _ => rfl
    e_law := fun s v => .of_eq rfl }
  have e : fa = T.a_law := Value.ref.inj (Option.some.inj (hfa.symm.trans T.m_law))
  subst e
  exact ⟨T.d_law, T.e_law, fun base _ _ => (ok_law (P := l.prog) (w := w) (base := base) T).imp fun vs H Q E h => spTrue_of law_true h⟩
theorem walk {l : PySem.W.OpenLaw} {q : Program} {loose : List Str} {XP : (Str → Option Value) → Heap → Prop} {YP : World → Heap → Prop} {d : DefRec} {K : Params → Frag} (hn : l.most = some 63) (hdf : d.params.defaults = [])
    (hY : ∀ (w : World) (h : Heap), YP w h → (K w.params).In h)
    (hF : ∀ (w : World) (mg : Mg) (fa : Addr) (h : Heap), (K w.params).In h → h.Ns mainGlobals mg → mg d.name = some (.ref fa) → ∃ fd : FuncData, (∀ (s : Shared) (u : Value), BindsTo s fd ⟨[u], []⟩ [("script", u)]) ∧
      ∀ base : Heap, (K w.params).In base → base.Ns mainGlobals mg → FnOk l.prog w (K w.params) mg base CX0 5 fa fd ["script"] (spTrue (K w.params))) : PySem.W.WalkO q loose XP YP l.row.toRowW d [] (fun f vs => PySem.call f vs) :=
  L2.walk_of (n := 63) (k := 5) (x := "script") (CX := fun _ => CX0) (sp := fun w => spTrue (K w.params)) hn (by decide) hdf ⟨rfl, by decide, by decide⟩ hY hF (fun _ _ a ns hl _ hS => ⟨a, ns, rfl, hS, hl, fun _ => rfl⟩) fun _ _ _ _ _ z => z
end
end My
theorem PySem.W.Fast.tw11771829661045726503 : True := True.intro
theorem PySem.W.Fast.tw2995484894856035436 : True := True.intro
theorem PySem.W.Fast.tw245432081281050682 : True := True.intro
theorem PySem.W.Fast.tw12009863969390452310 : True := True.intro
theorem PySem.W.Fast.tw5578814474239469967 : True := True.intro
theorem PySem.W.Fast.tw4887295540170189127 : True := True.intro
theorem PySem.W.Fast.tw16956695281272542523 : True := True.intro
theorem PySem.W.Fast.tw2873787122143800566 : True := True.intro
theorem PySem.W.Fast.tw7924061650238940185 : True := True.intro
theorem PySem.W.Fast.tw7286598644401105119 : True := True.intro
theorem PySem.W.Fast.tw10192755669344014114 : True := True.intro
theorem PySem.W.Fast.tw6189867833912355463 : True := True.intro
theorem PySem.W.Fast.tw2524431557348556717 : True := True.intro
theorem PySem.W.Fast.tw8386976365722865973 : True := True.intro
theorem PySem.W.Fast.tw4956466106791625409 : True := True.intro
theorem PySem.W.Fast.tw8442475684815748599 : True := True.intro
theorem PySem.W.Fast.tw17330124416374838266 : True := True.intro
theorem PySem.W.Fast.tw15665532777654223356 : True := True.intro
theorem PySem.W.Fast.tw9085832836432234270 : True := True.intro
theorem PySem.W.Fast.tw1259751019688426079 : True := True.intro
theorem PySem.W.Fast.tw2207410791961654198 : True := True.intro
theorem PySem.W.Fast.tw7982780152898941269 : True := True.intro
theorem PySem.W.Fast.tw13872622930655635666 : True := True.intro
theorem PySem.W.Fast.tw8654157513320448118 : True := True.intro
theorem PySem.W.Fast.tw679381258178748515 : True := True.intro
theorem PySem.W.Fast.tw8996182508492821708 : True := True.intro
theorem PySem.W.Fast.tw3323569483469292108 : True := True.intro
theorem PySem.W.Fast.tw16434907255571235410 : True := True.intro
theorem PySem.W.Fast.tw12858827779904492379 : True := True.intro
theorem PySem.W.Fast.tw8061624634480831008 : True := True.intro
theorem PySem.W.Fast.tw4381336164616667000 : True := True.intro
theorem PySem.W.Fast.tw2592057914491005623 : True := True.intro
theorem PySem.W.Fast.tw1150576518867252319 : True := True.intro
theorem PySem.W.Fast.tw10296617563538284439 : True := True.intro
theorem PySem.W.Fast.tw11916002202333508510 : True := True.intro
theorem PySem.W.Fast.tw4865935526434327692 : True := True.intro
theorem PySem.W.Fast.tw3465580158621259501 : True := True.intro
theorem PySem.W.Fast.tw9037574133690543127 : True := True.intro
theorem PySem.W.Fast.tw857485501819161475 : True := True.intro
theorem PySem.W.Fast.tw17127933424125740537 : True := True.intro
theorem PySem.W.Fast.tw6076667438368833689 : True := True.intro
theorem PySem.W.Fast.tw4814448752106995946 : True := True.intro
theorem PySem.W.Fast.tw10538506517907675751 : True := True.intro
theorem PySem.W.Fast.tw9847408198693520672 : True := True.intro
theorem PySem.W.Fast.tw9083178433123013786 : True := True.intro
theorem PySem.W.Fast.tw4954136867059896642 : True := True.intro
theorem PySem.W.Fast.tw13763307090487394355 : True := True.intro
theorem PySem.W.Fast.tw15512209182435445908 : True := True.intro
theorem PySem.W.Fast.tw8974815981311695364 : True := True.intro
theorem PySem.W.Fast.tw18271139517378353216 : True := True.intro
theorem PySem.W.Fast.tw6880697127262162759 : True := True.intro
theorem PySem.W.Fast.tw10187581409443659120 : True := True.intro
theorem PySem.W.Fast.tw16650742498128755576 : True := True.intro
theorem PySem.W.Fast.tw2056759314292690797 : True := True.intro
theorem PySem.W.Fast.tw17439286064053743234 : True := True.intro
theorem PySem.W.Fast.tw13196542399944718545 : True := True.intro
theorem PySem.W.Fast.tw5140275827109260255 : True := True.intro
theorem PySem.W.Fast.tw12704787289090795678 : True := True.intro
theorem PySem.W.Fast.tw17461483354241987122 : True := True.intro
theorem PySem.W.Fast.tw17905547843268411604 : True := True.intro
theorem PySem.W.Fast.tw181745298683835956 : True := True.intro
theorem PySem.W.Fast.tw8771437098917070176 : True := True.intro
theorem PySem.W.Fast.tw17193280948393783583 : True := True.intro
theorem PySem.W.Fast.tw3496829290426224960 : True := True.intro
theorem PySem.W.Fast.tw2354269673013077629 : True := True.intro
theorem PySem.W.Fast.tw7735274976029613791 : True := True.intro
theorem PySem.W.Fast.tw2613312942759535173 : True := True.intro
theorem PySem.W.Fast.tw3729174076388368740 : True := True.intro
theorem PySem.W.Fast.tw14969405312280190980 : True := True.intro
theorem PySem.W.Fast.tw5547955160691845346 : True := True.intro
theorem PySem.W.Fast.tw4439142585718538454 : True := True.intro
theorem PySem.W.Fast.tw5490151906610221476 : True := True.intro
theorem PySem.W.Fast.tw9715287242296777242 : True := True.intro
theorem PySem.W.Fast.tw3492314643643549398 : True := True.intro
theorem PySem.W.Fast.tw13288991199281518803 : True := True.intro
theorem PySem.W.Fast.tw5044608748640271013 : True := True.intro
theorem PySem.W.Fast.tw507540687137052849 : True := True.intro
theorem PySem.W.Fast.tw14918600708836922719 : True := True.intro
theorem PySem.W.Fast.tw13114964192811974593 : True := True.intro
theorem PySem.W.Fast.tw13108354816200858574 : True := True.intro
theorem PySem.W.Fast.tw6710062332330155051 : True := True.intro
theorem PySem.W.Fast.tw1729838550561078038 : True := True.intro
theorem PySem.W.Fast.tw10062726898408449994 : True := True.intro
theorem PySem.W.Fast.tw178309698950159220 : True := True.intro
theorem PySem.W.Fast.tw3910539072599939432 : True := True.intro
theorem PySem.W.Fast.tw8341263175449999796 : True := True.intro
theorem PySem.W.Fast.tw3342938659729931293 : True := True.intro
theorem PySem.W.Fast.tw9773452946379892910 : True := True.intro
theorem PySem.W.Fast.tw5346857475762883682 : True := True.intro
theorem PySem.W.Fast.tw1631062191247997155 : True := True.intro
theorem PySem.W.Fast.tw17099604350182664580 : True := True.intro
theorem PySem.W.Fast.tw12922914967062181895 : True := True.intro
theorem PySem.W.Fast.tw17448576759026355566 : True := True.intro
theorem PySem.W.Fast.tw16780346829213250179 : True := True.intro
theorem PySem.W.Fast.tw11658458759330392569 : True := True.intro
theorem PySem.W.Fast.tw4000047310482340054 : True := True.intro
theorem PySem.W.Fast.tw7462674183683525343 : True := True.intro
theorem PySem.W.Fast.tw12626075069629548284 : True := True.intro
theorem PySem.W.Fast.tw14330941386865299588 : True := True.intro
theorem PySem.W.Fast.tw9419396415424428256 : True := True.intro
theorem PySem.W.Fast.tw15281283899858165275 : True := True.intro
theorem PySem.W.Fast.tw8637380151952438110 : True := True.intro
theorem PySem.W.Fast.tw18204762574701331286 : True := True.intro
theorem PySem.W.Fast.tw2567675271481279832 : True := True.intro
theorem PySem.W.Fast.tw2662039543402748500 : True := True.intro
theorem PySem.W.Fast.tw1514545719849910719 : True := True.intro
theorem PySem.W.Fast.tw1260536724620121337 : True := True.intro
theorem PySem.W.Fast.tw4205000822896885321 : True := True.intro
theorem PySem.W.Fast.tw14356447411331766727 : True := True.intro
theorem PySem.W.Fast.tw16697973552922549578 : True := True.intro
theorem PySem.W.Fast.tw17038999993338178158 : True := True.intro
theorem PySem.W.Fast.tw14088850067909468849 : True := True.intro
theorem PySem.W.Fast.tw409827103949679219 : True := True.intro
theorem PySem.W.Fast.tw16373883980287705575 : True := True.intro
theorem PySem.W.Fast.tw786326738483840930 : True := True.intro
theorem PySem.W.Fast.tw2063023385621322068 : True := True.intro
theorem PySem.W.Fast.tw4596044622554965770 : True := True.intro
theorem PySem.W.Fast.tw11519567971859223102 : True := True.intro
theorem PySem.W.Fast.tw12465955364460700612 : True := True.intro
theorem PySem.W.Fast.tw13739614534904413086 : True := True.intro
theorem PySem.W.Fast.tw10574367219218962907 : True := True.intro
theorem PySem.W.Fast.tw2588626103307356131 : True := True.intro
theorem PySem.W.Fast.tw8446314982954158875 : True := True.intro
theorem PySem.W.Fast.tw8330405626713428166 : True := True.intro
theorem PySem.W.Fast.tw10326732161108798377 : True := True.intro
theorem PySem.W.Fast.tw3398997513797411161 : True := True.intro
theorem PySem.W.Fast.tw16263304546383085907 : True := True.intro
theorem PySem.W.Fast.tw1244432035227173202 : True := True.intro
theorem PySem.W.Fast.tw4985326337718785778 : True := True.intro
theorem PySem.W.Fast.tw7135929327547577119 : True := True.intro
theorem PySem.W.Fast.tw15031591023975689540 : True := True.intro
theorem PySem.W.Fast.tw3664191972036705197 : True := True.intro
theorem PySem.W.Fast.tw13472089683313930822 : True := True.intro
theorem PySem.W.Fast.tw13121510209712167741 : True := True.intro
theorem PySem.W.Fast.tw16836679380341735938 : True := True.intro
theorem PySem.W.Fast.tw12245213744344806862 : True := True.intro
theorem PySem.W.Fast.tw14209851666020970579 : True := True.intro
theorem PySem.W.Fast.tw9553674454695814852 : True := True.intro
theorem PySem.W.Fast.tw1654597182397016399 : True := True.intro
theorem PySem.W.Fast.tw13642609353048973530 : True := True.intro
theorem PySem.W.Fast.tw10603776737965347134 : True := True.intro
theorem PySem.W.Fast.tw10222370975706424996 : True := True.intro
theorem PySem.W.Fast.tw7353120937177630065 : True := True.intro
theorem PySem.W.Fast.tw13146274277847501512 : True := True.intro
theorem PySem.W.Fast.tw8052969307190314299 : True := True.intro
theorem PySem.W.Fast.tw12691525622398529606 : True := True.intro
theorem PySem.W.Fast.tw1172219112132349932 : True := True.intro
theorem PySem.W.Fast.tw15223787390319326780 : True := True.intro
theorem PySem.W.Fast.tw11407082786883438477 : True := True.intro
theorem PySem.W.Fast.tw15282485692708409776 : True := True.intro
theorem PySem.W.Fast.tw7595236990967282884 : True := True.intro
theorem PySem.W.Fast.tw11665002905482008996 : True := True.intro
theorem PySem.W.Fast.tw8123947979438331183 : True := True.intro
theorem PySem.W.Fast.tw3162389900245794845 : True := True.intro
theorem PySem.W.Fast.tw9123631910993552523 : True := True.intro
theorem PySem.W.Fast.tw2993521889880461233 : True := True.intro
theorem PySem.W.Fast.tw9570803310342692522 : True := True.intro
theorem PySem.W.Fast.tw9038934322741427573 : True := True.intro
theorem PySem.W.Fast.tw9645917538049487000 : True := True.intro
theorem PySem.W.Fast.tw15361945453828792805 : True := True.intro
theorem PySem.W.Fast.tw2378124224732621035 : True := True.intro
theorem PySem.W.Fast.tw16380283289136210324 : True := True.intro
theorem PySem.W.Fast.tw3665628049858093929 : True := True.intro
theorem PySem.W.Fast.tw13317452500169481513 : True := True.intro
theorem PySem.W.Fast.tw13499408243538663772 : True := True.intro
theorem PySem.W.Fast.tw12272859739925766613 : True := True.intro
theorem PySem.W.Fast.tw7788879938749561523 : True := True.intro
theorem PySem.W.Fast.tw3876746829534697429 : True := True.intro
theorem PySem.W.Fast.tw5937328832029446499 : True := True.intro
theorem PySem.W.Fast.tw7339863971724279394 : True := True.intro
theorem PySem.W.Fast.tw13560745310716704655 : True := True.intro
theorem PySem.W.Fast.tw15021460921791585452 : True := True.intro
theorem PySem.W.Fast.tw17334540722367530424 : True := True.intro
theorem PySem.W.Fast.tw1975287388049526445 : True := True.intro
theorem PySem.W.Fast.tw3853024144930970193 : True := True.intro
theorem PySem.W.Fast.tw368604064543498941 : True := True.intro
theorem PySem.W.Fast.tw4772153857234517319 : True := True.intro
theorem PySem.W.Fast.tw11870460108820451887 : True := True.intro
theorem PySem.W.Fast.tw9824063769186417106 : True := True.intro
theorem PySem.W.Fast.tw11609125168336947633 : True := True.intro
theorem PySem.W.Fast.tw18074069484602845467 : True := True.intro
theorem PySem.W.Fast.tw6080072364356574454 : True := True.intro
theorem PySem.W.Fast.tw11845812229012616234 : True := True.intro
theorem PySem.W.Fast.tw11432672315246426350 : True := True.intro
theorem PySem.W.Fast.tw6723909848268026594 : True := True.intro
theorem PySem.W.Fast.tw15525965338663641541 : True := True.intro
theorem PySem.W.Fast.tw14368500780846222228 : True := True.intro
theorem PySem.W.Fast.tw4486175334414104682 : True := True.intro
theorem PySem.W.Fast.tw14548361689576762306 : True := True.intro
theorem PySem.W.Fast.tw8288072723221338804 : True := True.intro
theorem PySem.W.Fast.tw3825094531837354807 : True := True.intro
theorem PySem.W.Fast.tw4580608469432696704 : True := True.intro
theorem PySem.W.Fast.tw6215653115826361988 : True := True.intro
theorem PySem.W.Fast.tw2994413475419357496 : True := True.intro
theorem PySem.W.Fast.tw9397066422179856818 : True := True.intro
theorem PySem.W.Fast.tw13631435319177658054 : True := True.intro
theorem PySem.W.Fast.tw2044025445074804093 : True := True.intro
theorem PySem.W.Fast.tw10354556426678632134 : True := True.intro
theorem PySem.W.Fast.tw10162197164109677897 : True := True.intro
theorem PySem.W.Fast.tw13391832962435827985 : True := True.intro
theorem PySem.W.Fast.tw14852063344693965290 : True := True.intro
theorem PySem.W.Fast.tw782009590295252859 : True := True.intro
theorem PySem.W.Fast.tw17771981177543632360 : True := True.intro
theorem PySem.W.Fast.tw10919326852786831447 : True := True.intro
theorem PySem.W.Fast.tw1817351733134679215 : True := True.intro
theorem PySem.W.Fast.tw7276717867000572826 : True := True.intro
theorem PySem.W.Fast.tw6791203883805134641 : True := True.intro
theorem PySem.W.Fast.tw368774714709820043 : True := True.intro
theorem PySem.W.Fast.tw1080578515229344498 : True := True.intro
theorem PySem.W.Fast.tw15799435171192422670 : True := True.intro
theorem PySem.W.Fast.tw14650966817444666383 : True := True.intro
theorem PySem.W.Fast.tw1586546838342326449 : True := True.intro
theorem PySem.W.Fast.tw3841081941674462314 : True := True.intro
theorem PySem.W.Fast.tw14618698218311220478 : True := True.intro
theorem PySem.W.Fast.tw18324426944531154633 : True := True.intro
theorem PySem.W.Fast.tw9433725867165867426 : True := True.intro
theorem PySem.W.Fast.tw2687017843843337741 : True := True.intro
theorem PySem.W.Fast.tw3568768320685505701 : True := True.intro
theorem PySem.W.Fast.tw11618533384511137405 : True := True.intro
theorem PySem.W.Fast.tw7603817228411003707 : True := True.intro
theorem PySem.W.Fast.tw4172721396445841554 : True := True.intro
theorem PySem.W.Fast.tw13717609700406888188 : True := True.intro
theorem PySem.W.Fast.tw18363750769262081008 : True := True.intro
theorem PySem.W.Fast.tw14939187337186897304 : True := True.intro
theorem PySem.W.Fast.tw14971024266529179655 : True := True.intro
theorem PySem.W.Fast.tw11772699073807697932 : True := True.intro
theorem PySem.W.Fast.tw7997219073200704528 : True := True.intro
theorem PySem.W.Fast.tw8229470144859100158 : True := True.intro
theorem PySem.W.Fast.tw11608946510796305464 : True := True.intro
theorem PySem.W.Fast.tw5684215355523477966 : True := True.intro
theorem PySem.W.Fast.tw2460013575566256015 : True := True.intro
theorem PySem.W.Fast.tw5709021308639603270 : True := True.intro
theorem PySem.W.Fast.tw17785480287773833319 : True := True.intro
theorem PySem.W.Fast.tw11035845437038272598 : True := True.intro
theorem PySem.W.Fast.tw5828662958722178615 : True := True.intro
theorem PySem.W.Fast.tw10536099141468801259 : True := True.intro
theorem PySem.W.Fast.tw5316091976559017131 : True := True.intro
theorem PySem.W.Fast.tw9364879563033283134 : True := True.intro
theorem PySem.W.Fast.tw2912374435406080791 : True := True.intro
theorem PySem.W.Fast.tw1844265613310908321 : True := True.intro
theorem PySem.W.Fast.tw16199131084839327082 : True := True.intro
theorem PySem.W.Fast.tw4679149575114928428 : True := True.intro
theorem PySem.W.Fast.tw16119218529914292346 : True := True.intro
theorem PySem.W.Fast.tw7625814042546423565 : True := True.intro
theorem PySem.W.Fast.tw4078200456175959319 : True := True.intro
theorem PySem.W.Fast.tw4732738626045419883 : True := True.intro
theorem PySem.W.Fast.tw18294297324429165106 : True := True.intro
theorem PySem.W.Fast.tw18196337053036403400 : True := True.intro
theorem PySem.W.Fast.tw8377704842574353949 : True := True.intro
theorem PySem.W.Fast.tw17873338303038635619 : True := True.intro
theorem PySem.W.Fast.tw7914405775274388233 : True := True.intro
theorem PySem.W.Fast.tw13839844039911765250 : True := True.intro
theorem PySem.W.Fast.tw4469271165984308258 : True := True.intro
theorem PySem.W.Fast.tw929796037455734332 : True := True.intro
theorem PySem.W.Fast.tw7085311934476400326 : True := True.intro
theorem PySem.W.Fast.tw18428869270524339175 : True := True.intro
theorem PySem.W.Fast.tw18146880195164025433 : True := True.intro
theorem PySem.W.Fast.tw2801663898873961253 : True := True.intro
theorem PySem.W.Fast.tw13570031804516233954 : True := True.intro
theorem PySem.W.Fast.tw8164606092691178705 : True := True.intro
theorem PySem.W.Fast.tw2413901911520432359 : True := True.intro
theorem PySem.W.Fast.tw5046023449235175498 : True := True.intro
theorem PySem.W.Fast.tw16772527210806635547 : True := True.intro
theorem PySem.W.Fast.tw5600375024857984165 : True := True.intro
theorem PySem.W.Fast.tw10248322615258019412 : True := True.intro
theorem PySem.W.Fast.tw9440275823385328728 : True := True.intro
theorem PySem.W.Fast.tw2947708727626084249 : True := True.intro
theorem PySem.W.Fast.tw16470316937289521453 : True := True.intro
theorem PySem.W.Fast.tw12280057253056654726 : True := True.intro
theorem PySem.W.Fast.tw6097073392105634778 : True := True.intro
theorem PySem.W.Fast.tw9326532097351047141 : True := True.intro
theorem PySem.W.Fast.tw6730775897482525947 : True := True.intro
theorem PySem.W.Fast.tw13829987179781836602 : True := True.intro
theorem PySem.W.Fast.tw13384152101948491207 : True := True.intro
theorem PySem.W.Fast.tw12756282786472695516 : True := True.intro
theorem PySem.W.Fast.tw16964747481086047359 : True := True.intro
theorem PySem.W.Fast.tw12047279919072784662 : True := True.intro
theorem PySem.W.Fast.tw6720545229069959440 : True := True.intro
theorem PySem.W.Fast.tw15266825115089883160 : True := True.intro
theorem PySem.W.Fast.tw2102604629797492865 : True := True.intro
theorem PySem.W.Fast.tw10873501375161357453 : True := True.intro
theorem PySem.W.Fast.tw71635133306352139 : True := True.intro
theorem PySem.W.Fast.tw17395112670705742452 : True := True.intro
theorem PySem.W.Fast.tw5232905934075247696 : True := True.intro
theorem PySem.W.Fast.tw18171295932348754225 : True := True.intro
theorem PySem.W.Fast.tw11601804858183052608 : True := True.intro
theorem PySem.W.Fast.tw11735944357652909548 : True := True.intro
theorem PySem.W.Fast.tw299692576622709444 : True := True.intro
theorem PySem.W.Fast.tw16653141593121355184 : True := True.intro
theorem PySem.W.Fast.tw6876609342536430520 : True := True.intro
theorem PySem.W.Fast.tw9755468561513837412 : True := True.intro
theorem PySem.W.Fast.tw12957194460817492018 : True := True.intro
theorem PySem.W.Fast.tw1912599726115040942 : True := True.intro
theorem PySem.W.Fast.tw7188379881768519709 : True := True.intro
theorem PySem.W.Fast.tw13091335726956796303 : True := True.intro
theorem PySem.W.Fast.tw11784955155109225145 : True := True.intro
theorem PySem.W.Fast.tw7289585655751482316 : True := True.intro
theorem PySem.W.Fast.tw16678267039856132496 : True := True.intro
theorem PySem.W.Fast.tw8278225762719662974 : True := True.intro
theorem PySem.W.Fast.tw1265956616797251917 : True := True.intro
theorem PySem.W.Fast.tw271725232668529741 : True := True.intro
theorem PySem.W.Fast.tw17880948527486181428 : True := True.intro
theorem PySem.W.Fast.tw13959140579964383857 : True := True.intro
theorem PySem.W.Fast.tw8673208382453359035 : True := True.intro
theorem PySem.W.Fast.tw16982264981771039853 : True := True.intro
theorem PySem.W.Fast.tw15400592126104685716 : True := True.intro
theorem PySem.W.Fast.tw18206381463168735182 : True := True.intro
theorem PySem.W.Fast.tw7164684956706276532 : True := True.intro
theorem PySem.W.Fast.tw13223809832634425246 : True := True.intro
theorem PySem.W.Fast.tw12508149016660369106 : True := True.intro
theorem PySem.W.Fast.tw17027066213396636171 : True := True.intro
theorem PySem.W.Fast.tw6652043819999938825 : True := True.intro
theorem PySem.W.Fast.tw5587982084030685685 : True := True.intro
theorem PySem.W.Fast.tw7295595732692450977 : True := True.intro
theorem PySem.W.Fast.tw10688393341142332766 : True := True.intro
theorem PySem.W.Fast.tw471263960326833700 : True := True.intro
theorem PySem.W.Fast.tw7485194111906411707 : True := True.intro
theorem PySem.W.Fast.tw6578159298488014026 : True := True.intro
theorem PySem.W.Fast.tw12347234196746702804 : True := True.intro
theorem PySem.W.Fast.tw61171243162035151 : True := True.intro
theorem PySem.W.Fast.tw179938433087268256 : True := True.intro
theorem PySem.W.Fast.tw9946391257048033321 : True := True.intro
theorem PySem.W.Fast.tw2649172973798601161 : True := True.intro
theorem PySem.W.Fast.tw7685889502420998955 : True := True.intro
theorem PySem.W.Fast.tw2686030600379320137 : True := True.intro
theorem PySem.W.Fast.tw10507787846429302316 : True := True.intro
theorem PySem.W.Fast.tw12407676854883137500 : True := True.intro
theorem PySem.W.Fast.tw3033777164614726813 : True := True.intro
theorem PySem.W.Fast.tw16201446453457445055 : True := True.intro
theorem PySem.W.Fast.tw1678095498582727217 : True := True.intro
theorem PySem.W.Fast.tw14542003830911171024 : True := True.intro
theorem PySem.W.Fast.tw10708966790750278778 : True := True.intro
theorem PySem.W.Fast.tw6267106841332357972 : True := True.intro
theorem PySem.W.Fast.tw1297157965381495803 : True := True.intro
theorem PySem.W.Fast.tw8174330033555072471 : True := True.intro
theorem PySem.W.Fast.tw12965642649518137842 : True := True.intro
theorem PySem.W.Fast.tw2078295138373967340 : True := True.intro
theorem PySem.W.Fast.tw9801446362002087882 : True := True.intro
theorem PySem.W.Fast.tw7669248965346729639 : True := True.intro
theorem PySem.W.Fast.tw12460353177729690570 : True := True.intro
theorem PySem.W.Fast.tw1982415595619993406 : True := True.intro
theorem PySem.W.Fast.tw11540256317697456975 : True := True.intro
theorem PySem.W.Fast.tw8645581482107808450 : True := True.intro
theorem PySem.W.Fast.tw6926933791225128535 : True := True.intro
theorem PySem.W.Fast.tw17730423443987662398 : True := True.intro
theorem PySem.W.Fast.tw199931422847057427 : True := True.intro
theorem PySem.W.Fast.tw10224938111174266688 : True := True.intro
theorem PySem.W.Fast.tw14008226320783247828 : True := True.intro
theorem PySem.W.Fast.tw853114130583810632 : True := True.intro
theorem PySem.W.Fast.tw4629704805132204963 : True := True.intro
theorem PySem.W.Fast.tw17721600092958735657 : True := True.intro
theorem PySem.W.Fast.tw1511068746830383231 : True := True.intro
theorem PySem.W.Fast.tw9977875934179088113 : True := True.intro
theorem PySem.W.Fast.tw450923683357745449 : True := True.intro
theorem PySem.W.Fast.tw7600752453271523433 : True := True.intro
theorem PySem.W.Fast.tw17444967396458780352 : True := True.intro
theorem PySem.W.Fast.tw8230112301325004476 : True := True.intro
theorem PySem.W.Fast.tw3760407019070572006 : True := True.intro
theorem PySem.W.Fast.tw4351237604032416387 : True := True.intro
theorem PySem.W.Fast.tw5520260078630647959 : True := True.intro
theorem PySem.W.Fast.tw393234813139383314 : True := True.intro
theorem PySem.W.Fast.tw11416176032955381032 : True := True.intro
theorem PySem.W.Fast.tw17659739264693330879 : True := True.intro
theorem PySem.W.Fast.tw8450025899784999050 : True := True.intro
theorem PySem.W.Fast.tw7283639060995894166 : True := True.intro
theorem PySem.W.Fast.tw1249989779038460158 : True := True.intro
theorem PySem.W.Fast.tw2844917690868124840 : True := True.intro
theorem PySem.W.Fast.tw8243759687417129620 : True := True.intro
theorem PySem.W.Fast.tw9293573402364594324 : True := True.intro
theorem PySem.W.Fast.tw2976198018181943709 : True := True.intro
theorem PySem.W.Fast.tw17913679530836701357 : True := True.intro
theorem PySem.W.Fast.tw3293842228545957013 : True := True.intro
theorem PySem.W.Fast.tw1460816914377568501 : True := True.intro
theorem PySem.W.Fast.tw3775720352908772525 : True := True.intro
theorem PySem.W.Fast.tw7457571558586265244 : True := True.intro
theorem PySem.W.Fast.tw15555558159323648123 : True := True.intro
theorem PySem.W.Fast.tw10025954551451772474 : True := True.intro
theorem PySem.W.Fast.tw7529704301435063207 : True := True.intro
theorem PySem.W.Fast.tw2508659872037939060 : True := True.intro
theorem PySem.W.Fast.tw10259280239554821399 : True := True.intro
theorem PySem.W.Fast.tw1276299325520486360 : True := True.intro
theorem PySem.W.Fast.tw12000216049032788030 : True := True.intro
theorem PySem.W.Fast.tw10093482741967504741 : True := True.intro
theorem PySem.W.Fast.tw4303750787837145458 : True := True.intro
theorem PySem.W.Fast.tw1808400293769255826 : True := True.intro
theorem PySem.W.Fast.tw10681975391472066700 : True := True.intro
theorem PySem.W.Fast.tw7140941860369158789 : True := True.intro
theorem PySem.W.Fast.tw6550926934301945560 : True := True.intro
theorem PySem.W.Fast.tw13813429005459241939 : True := True.intro
theorem PySem.W.Fast.tw7293088609209856593 : True := True.intro
theorem PySem.W.Fast.tw10764009880546034453 : True := True.intro
theorem PySem.W.Fast.tw141423267013846964 : True := True.intro
theorem PySem.W.Fast.tw7957375852001821022 : True := True.intro
theorem PySem.W.Fast.tw11587882095793288498 : True := True.intro
theorem PySem.W.Fast.tw18025234111297531824 : True := True.intro
theorem PySem.W.Fast.tw4459168943472165402 : True := True.intro
theorem PySem.W.Fast.tw8983896369964249048 : True := True.intro
theorem PySem.W.Fast.tw16152863455091445416 : True := True.intro
theorem PySem.W.Fast.tw9299518413034828527 : True := True.intro
theorem PySem.W.Fast.tw12904315927235272844 : True := True.intro
theorem PySem.W.Fast.tw5384002953717683087 : True := True.intro
theorem PySem.W.Fast.tw4304160694063351388 : True := True.intro
theorem PySem.W.Fast.tw14426914441376369449 : True := True.intro
theorem PySem.W.Fast.tw1679246832413944153 : True := True.intro
theorem PySem.W.Fast.tw14777639089722604931 : True := True.intro
theorem PySem.W.Fast.tw15597411344142938584 : True := True.intro
theorem PySem.W.Fast.tw15084960122759865776 : True := True.intro
theorem PySem.W.Fast.tw18394458346088900095 : True := True.intro
theorem PySem.W.Fast.tw4635348726438615505 : True := True.intro
theorem PySem.W.Fast.tw11415108437931747709 : True := True.intro
theorem PySem.W.Fast.tw13812844914229835024 : True := True.intro
theorem PySem.W.Fast.tw17147962144989163736 : True := True.intro
theorem PySem.W.Fast.tw12459408933677718409 : True := True.intro
theorem PySem.W.Fast.tw13546140815047503034 : True := True.intro
theorem PySem.W.Fast.tw9694696447245525614 : True := True.intro
theorem PySem.W.Fast.tw5488771143840828955 : True := True.intro
theorem PySem.W.Fast.tw11588883085139390282 : True := True.intro
theorem PySem.W.Fast.tw12280974700457154217 : True := True.intro
theorem PySem.W.Fast.tw15222502156770945898 : True := True.intro
theorem PySem.W.Fast.tw9789141776008289306 : True := True.intro
theorem PySem.W.Fast.tw17189085813855899021 : True := True.intro
theorem PySem.W.Fast.tw1327790211748813680 : True := True.intro
theorem PySem.W.Fast.tw13331594835503584907 : True := True.intro
theorem PySem.W.Fast.tw14073212872735481883 : True := True.intro
theorem PySem.W.Fast.tw11611798697032822616 : True := True.intro
theorem PySem.W.Fast.tw11880811360769440619 : True := True.intro
theorem PySem.W.Fast.tw1654939122567045064 : True := True.intro
theorem PySem.W.Fast.tw15806754211248419485 : True := True.intro
theorem PySem.W.Fast.tw2990785352424501395 : True := True.intro
theorem PySem.W.Fast.tw4109628302135491905 : True := True.intro
theorem PySem.W.Fast.tw14647812841009345771 : True := True.intro
theorem PySem.W.Fast.tw1574986583858546287 : True := True.intro
theorem PySem.W.Fast.tw17003084370856413563 : True := True.intro
theorem PySem.W.Fast.tw3486254813091749561 : True := True.intro
theorem PySem.W.Fast.tw6654501909407994445 : True := True.intro
theorem PySem.W.Fast.tw17983546166738235657 : True := True.intro
theorem PySem.W.Fast.tw4981916115199184842 : True := True.intro
theorem PySem.W.Fast.tw3985049363209871129 : True := True.intro
theorem PySem.W.Fast.tw55422243015732645 : True := True.intro
theorem PySem.W.Fast.tw4173178015801481317 : True := True.intro
theorem PySem.W.Fast.tw514990304942416865 : True := True.intro
theorem PySem.W.Fast.tw1646306608452943169 : True := True.intro
theorem PySem.W.Fast.tw5657945422680642187 : True := True.intro
theorem PySem.W.Fast.tw15678729010181587223 : True := True.intro
theorem PySem.W.Fast.tw15362071675317312385 : True := True.intro
theorem PySem.W.Fast.tw11113005163350794558 : True := True.intro
theorem PySem.W.Fast.tw17383304303924350793 : True := True.intro
theorem PySem.W.Fast.tw6512745037956505089 : True := True.intro
theorem PySem.W.Fast.tw4439825763510418023 : True := True.intro
theorem PySem.W.Fast.tw9203906638528677895 : True := True.intro
theorem PySem.W.Fast.tw6522871184384218154 : True := True.intro
theorem PySem.W.Fast.tw8152808624903772264 : True := True.intro
theorem PySem.W.Fast.tw10776385839487865956 : True := True.intro
theorem PySem.W.Fast.tw4514448934565561243 : True := True.intro
theorem PySem.W.Fast.tw1226341207278196094 : True := True.intro
theorem PySem.W.Fast.tw2609659288700431539 : True := True.intro
theorem PySem.W.Fast.tw6430394463834078922 : True := True.intro
theorem PySem.W.Fast.tw16814123642854267683 : True := True.intro
theorem PySem.W.Fast.tw16754483839823108093 : True := True.intro
theorem PySem.W.Fast.tw8152996857424928759 : True := True.intro
theorem PySem.W.Fast.tw17828233972921129161 : True := True.intro
theorem PySem.W.Fast.tw14533503975085699928 : True := True.intro
theorem PySem.W.Fast.tw12893181269454250154 : True := True.intro
theorem PySem.W.Fast.tw9524927888001159290 : True := True.intro
theorem PySem.W.Fast.tw9071015557648948001 : True := True.intro
theorem PySem.W.Fast.tw8228984295478552920 : True := True.intro
theorem PySem.W.Fast.tw10546384477493625365 : True := True.intro
theorem PySem.W.Fast.tw4349779138175987276 : True := True.intro
theorem PySem.W.Fast.tw12710626263376316357 : True := True.intro
theorem PySem.W.Fast.tw3804782181746164834 : True := True.intro
theorem PySem.W.Fast.tw16123185057878033226 : True := True.intro
theorem PySem.W.Fast.tw17464535603689318739 : True := True.intro
theorem PySem.W.Fast.tw13092430723541746289 : True := True.intro
theorem PySem.W.Fast.tw3569061679703928029 : True := True.intro
theorem PySem.W.Fast.tw503546837962995256 : True := True.intro
theorem PySem.W.Fast.tw16810730188200788489 : True := True.intro
theorem PySem.W.Fast.tw16930877130486538501 : True := True.intro
theorem PySem.W.Fast.tw14583620832864172370 : True := True.intro
theorem PySem.W.Fast.tw8007501501738099051 : True := True.intro
theorem PySem.W.Fast.tw3761124739467712949 : True := True.intro
theorem PySem.W.Fast.tw5057087313461446291 : True := True.intro
theorem PySem.W.Fast.tw1595881622561602331 : True := True.intro
theorem PySem.W.Fast.tw7879168089300830783 : True := True.intro
theorem PySem.W.Fast.tw10583432212496300028 : True := True.intro
theorem PySem.W.Fast.tw12443257981682884469 : True := True.intro
theorem PySem.W.Fast.tw10724472259072548452 : True := True.intro
theorem PySem.W.Fast.tw18184272704803228283 : True := True.intro
theorem PySem.W.Fast.tw8093002971618876604 : True := True.intro
theorem PySem.W.Fast.tw3114964289403758680 : True := True.intro
theorem PySem.W.Fast.tw2776674630779764459 : True := True.intro
theorem PySem.W.Fast.tw18044318921777806395 : True := True.intro
theorem PySem.W.Fast.tw7619048864791466493 : True := True.intro
theorem PySem.W.Fast.tw12364603302227022824 : True := True.intro
theorem PySem.W.Fast.tw10988897419252295802 : True := True.intro
theorem PySem.W.Fast.tw3039000321070790442 : True := True.intro
theorem PySem.W.Fast.tw16084610569682882149 : True := True.intro
theorem PySem.W.Fast.tw6353813284685708096 : True := True.intro
theorem PySem.W.Fast.tw3116902840690077987 : True := True.intro
theorem PySem.W.Fast.tw8607822518912087268 : True := True.intro
theorem PySem.W.Fast.tw7727410270989102410 : True := True.intro
theorem PySem.W.Fast.tw7374428960784590043 : True := True.intro
theorem PySem.W.Fast.tw7591320985138665837 : True := True.intro
theorem PySem.W.Fast.tw13441668690851277359 : True := True.intro
theorem PySem.W.Fast.tw18132899721268311755 : True := True.intro
theorem PySem.W.Fast.tw1565733003965754334 : True := True.intro
theorem PySem.W.Fast.tw10621290505106180640 : True := True.intro
theorem PySem.W.Fast.tw15973736118811086404 : True := True.intro
theorem PySem.W.Fast.tw5846860268425566736 : True := True.intro
theorem PySem.W.Fast.tw14177311179821088323 : True := True.intro
theorem PySem.W.Fast.tw15424795896735528462 : True := True.intro
theorem PySem.W.Fast.tw2352434467298194916 : True := True.intro
theorem PySem.W.Fast.tw8173090627410770641 : True := True.intro
theorem PySem.W.Fast.tw15303402839538485576 : True := True.intro
theorem PySem.W.Fast.tw6632149778326569571 : True := True.intro
theorem PySem.W.Fast.tw8936370282762448414 : True := True.intro
theorem PySem.W.Fast.tw2794064152836224032 : True := True.intro
theorem PySem.W.Fast.tw4164397855095987 : True := True.intro
theorem PySem.W.Fast.tw16297595420252102691 : True := True.intro
theorem PySem.W.Fast.tw4550953240524172159 : True := True.intro
theorem PySem.W.Fast.tw5009265695494896774 : True := True.intro
theorem PySem.W.Fast.tw9100569424257491897 : True := True.intro
theorem PySem.W.Fast.tw6198167341160239460 : True := True.intro
theorem PySem.W.Fast.tw2593968626394015958 : True := True.intro
theorem PySem.W.Fast.tw18403408865148875464 : True := True.intro
theorem PySem.W.Fast.tw8087530840835023980 : True := True.intro
theorem PySem.W.Fast.tw717980248462367600 : True := True.intro
theorem PySem.W.Fast.tw16570891183540266843 : True := True.intro
theorem PySem.W.Fast.tw1819558998800568794 : True := True.intro
theorem PySem.W.Fast.tw18151457790428994922 : True := True.intro
theorem PySem.W.Fast.tw12633025471974461583 : True := True.intro
theorem PySem.W.Fast.tw6147387296300915488 : True := True.intro
theorem PySem.W.Fast.tw7614899043546500617 : True := True.intro
theorem PySem.W.Fast.tw5641381149510429900 : True := True.intro
theorem PySem.W.Fast.tw10753645670056455761 : True := True.intro
theorem PySem.W.Fast.tw17877803375754811469 : True := True.intro
theorem PySem.W.Fast.tw6942877362883314265 : True := True.intro
theorem PySem.W.Fast.tw11263643994171274869 : True := True.intro
theorem PySem.W.Fast.tw13516593008870084230 : True := True.intro
theorem PySem.W.Fast.tw2045727525012178915 : True := True.intro
theorem PySem.W.Fast.tw16547732596293046251 : True := True.intro
theorem PySem.W.Fast.tw2376120477359723685 : True := True.intro
theorem PySem.W.Fast.tw7347165906243362634 : True := True.intro
theorem PySem.W.Fast.tw4001423564105117072 : True := True.intro
theorem PySem.W.Fast.tw18206058593967092635 : True := True.intro
theorem PySem.W.Fast.tw8416316286862596047 : True := True.intro
theorem PySem.W.Fast.tw17263095387936460672 : True := True.intro
theorem PySem.W.Fast.tw15874961537184152670 : True := True.intro
theorem PySem.W.Fast.tw2705608591084523169 : True := True.intro
theorem PySem.W.Fast.tw74422695374394897 : True := True.intro
theorem PySem.W.Fast.tw18205722947880101472 : True := True.intro
theorem PySem.W.Fast.tw17641594573027154329 : True := True.intro
theorem PySem.W.Fast.tw14330070419344475690 : True := True.intro
theorem PySem.W.Fast.tw6283937103316040407 : True := True.intro
theorem PySem.W.Fast.tw14908102423160726858 : True := True.intro
theorem PySem.W.Fast.tw16678430644990221451 : True := True.intro
theorem PySem.W.Fast.tw6988493036532693823 : True := True.intro
theorem PySem.W.Fast.tw16177479158842256306 : True := True.intro
theorem PySem.W.Fast.tw17394544199346754617 : True := True.intro
theorem PySem.W.Fast.tw1862615385938836938 : True := True.intro
theorem PySem.W.Fast.tw15638023277573211069 : True := True.intro
theorem PySem.W.Fast.tw14907075057830759114 : True := True.intro
theorem PySem.W.Fast.tw12162704656888891275 : True := True.intro
theorem PySem.W.Fast.tw1543033669163168048 : True := True.intro
theorem PySem.W.Fast.tw12181504379853411974 : True := True.intro
theorem PySem.W.Fast.tw9839337143841142060 : True := True.intro
theorem PySem.W.Fast.tw1367940844225573523 : True := True.intro
theorem PySem.W.Fast.tw11651433040454820460 : True := True.intro
theorem PySem.W.Fast.tw1661017992738722545 : True := True.intro
theorem PySem.W.Fast.tw11381832926230966634 : True := True.intro
theorem PySem.W.Fast.tw7678391564968672866 : True := True.intro
theorem PySem.W.Fast.tw14098000139645616406 : True := True.intro
theorem PySem.W.Fast.tw6503603831634351716 : True := True.intro
theorem PySem.W.Fast.tw12817626403832361532 : True := True.intro
theorem PySem.W.Fast.tw1206770201598897357 : True := True.intro
theorem PySem.W.Fast.tw8814362011321018911 : True := True.intro
theorem PySem.W.Fast.tw3240890254850429583 : True := True.intro
theorem PySem.W.Fast.tw7219688476981701609 : True := True.intro
theorem PySem.W.Fast.tw11347303443536784143 : True := True.intro
theorem PySem.W.Fast.tw1607620593214501643 : True := True.intro
theorem PySem.W.Fast.tw5711401872285964034 : True := True.intro
theorem PySem.W.Fast.tw14428834297643550099 : True := True.intro
theorem PySem.W.Fast.tw9789923949136691841 : True := True.intro
theorem PySem.W.Fast.tw10766400679472476979 : True := True.intro
theorem PySem.W.Fast.tw8565432066914284727 : True := True.intro
theorem PySem.W.Fast.tw17391249163994456196 : True := True.intro
theorem PySem.W.Fast.tw4852393872416221535 : True := True.intro
theorem PySem.W.Fast.tw14581238542508253667 : True := True.intro
theorem PySem.W.Fast.tw15240653142763087953 : True := True.intro
theorem PySem.W.Fast.tw13846601481366470084 : True := True.intro
theorem PySem.W.Fast.tw15130212145531679138 : True := True.intro
theorem PySem.W.Fast.tw15412843821226801792 : True := True.intro
theorem PySem.W.Fast.tw16869669112531299785 : True := True.intro
theorem PySem.W.Fast.tw14813172398284546467 : True := True.intro
theorem PySem.W.Fast.tw11896995951807457243 : True := True.intro
theorem PySem.W.Fast.tw14616869827274498957 : True := True.intro
theorem PySem.W.Fast.tw18124846007400475545 : True := True.intro
theorem PySem.W.Fast.tw9045650867537098274 : True := True.intro
theorem PySem.W.Fast.tw11498523299237783580 : True := True.intro
theorem PySem.W.Fast.tw15686200009617105153 : True := True.intro
theorem PySem.W.Fast.tw236426775778660483 : True := True.intro
theorem PySem.W.Fast.tw727898522745553903 : True := True.intro
theorem PySem.W.Fast.tw338124720224356853 : True := True.intro
theorem PySem.W.Fast.tw7123699190252386654 : True := True.intro
theorem PySem.W.Fast.tw8487646458095129073 : True := True.intro
theorem PySem.W.Fast.tw1387046887470861640 : True := True.intro
theorem PySem.W.Fast.tw5793051876234777401 : True := True.intro
theorem PySem.W.Fast.tw13018018371494644435 : True := True.intro
theorem PySem.W.Fast.tw15669951416849347669 : True := True.intro
theorem PySem.W.Fast.tw18408713823485409673 : True := True.intro
theorem PySem.W.Fast.tw1591484212320416336 : True := True.intro
theorem PySem.W.Fast.tw1280804688068908894 : True := True.intro
theorem PySem.W.Fast.tw4538917110973703340 : True := True.intro
theorem PySem.W.Fast.tw7501983619129574760 : True := True.intro
theorem PySem.W.Fast.tw15513482311771026830 : True := True.intro
theorem PySem.W.Fast.tw13702980244378551670 : True := True.intro
theorem PySem.W.Fast.tw11704964424452310128 : True := True.intro
theorem PySem.W.Fast.tw2188117923862100127 : True := True.intro
theorem PySem.W.Fast.tw453548862668354222 : True := True.intro
theorem PySem.W.Fast.tw2928079366944600287 : True := True.intro
theorem PySem.W.Fast.tw13315889811305861126 : True := True.intro
theorem PySem.W.Fast.tw9007314516424263450 : True := True.intro
theorem PySem.W.Fast.tw8507713560202748284 : True := True.intro
theorem PySem.W.Fast.tw16148410959476719883 : True := True.intro
theorem PySem.W.Fast.tw14462831970964415544 : True := True.intro
theorem PySem.W.Fast.tw11331381863513192376 : True := True.intro
theorem PySem.W.Fast.tw1715073374215057831 : True := True.intro
theorem PySem.W.Fast.tw11744985010129921305 : True := True.intro
theorem PySem.W.Fast.tw14574391926068217350 : True := True.intro
theorem PySem.W.Fast.tw3373705110165717060 : True := True.intro
theorem PySem.W.Fast.tw6351061662535800668 : True := True.intro
theorem PySem.W.Fast.tw2881508246219558491 : True := True.intro
theorem PySem.W.Fast.tw14296342568925422785 : True := True.intro
theorem PySem.W.Fast.tw13383469749517255491 : True := True.intro
theorem PySem.W.Fast.tw5829660776953417205 : True := True.intro
theorem PySem.W.Fast.tw14040254906936834014 : True := True.intro
theorem PySem.W.Fast.tw11993895981341563755 : True := True.intro
theorem PySem.W.Fast.tw8344684503074641624 : True := True.intro
theorem PySem.W.Fast.tw11212876713900546105 : True := True.intro
theorem PySem.W.Fast.tw11278879962726928835 : True := True.intro
theorem PySem.W.Fast.tw9420611019377805896 : True := True.intro
theorem PySem.W.Fast.tw7077922162409854595 : True := True.intro
theorem PySem.W.Fast.tw11865071678495272861 : True := True.intro
theorem PySem.W.Fast.tw6490688267853532932 : True := True.intro
theorem PySem.W.Fast.tw11818647144563969040 : True := True.intro
theorem PySem.W.Fast.tw17147580893050135057 : True := True.intro
theorem PySem.W.Fast.tw17853491643452648936 : True := True.intro
theorem PySem.W.Fast.tw13413608049110886096 : True := True.intro
theorem PySem.W.Fast.tw12252709266985703853 : True := True.intro
theorem PySem.W.Fast.tw67349261709498696 : True := True.intro
theorem PySem.W.Fast.tw9512437936007272359 : True := True.intro
theorem PySem.W.Fast.tw11774687800990957682 : True := True.intro
theorem PySem.W.Fast.tw4647760417152620046 : True := True.intro
theorem PySem.W.Fast.tw12411237806474843770 : True := True.intro
theorem PySem.W.Fast.tw3372647618144131537 : True := True.intro
theorem PySem.W.Fast.tw9696704305969009051 : True := True.intro
theorem PySem.W.Fast.tw10621849794227162212 : True := True.intro
theorem PySem.W.Fast.tw1472540296801825450 : True := True.intro
theorem PySem.W.Fast.tw6918351320882520544 : True := True.intro
theorem PySem.W.Fast.tw7791635212797004225 : True := True.intro
theorem PySem.W.Fast.tw2908149468612345918 : True := True.intro
theorem PySem.W.Fast.tw12671115519990306563 : True := True.intro
theorem PySem.W.Fast.tw11883807017869690911 : True := True.intro
theorem PySem.W.Fast.tw16385320650256110 : True := True.intro
theorem PySem.W.Fast.tw5870002837866918710 : True := True.intro
theorem PySem.W.Fast.tw8571463444134958892 : True := True.intro
theorem PySem.W.Fast.tw8997321517824745820 : True := True.intro
theorem PySem.W.Fast.tw6054146243206645971 : True := True.intro
theorem PySem.W.Fast.tw4992301421317061118 : True := True.intro
theorem PySem.W.Fast.tw7811579575177430823 : True := True.intro
theorem PySem.W.Fast.tw3396936368645886211 : True := True.intro
theorem PySem.W.Fast.tw5226681672257576353 : True := True.intro
theorem PySem.W.Fast.tw15171125408874898570 : True := True.intro
theorem PySem.W.Fast.tw1123344510776393716 : True := True.intro
theorem PySem.W.Fast.tw4185405734880060845 : True := True.intro
theorem PySem.W.Fast.tw11046299133346144218 : True := True.intro
theorem PySem.W.Fast.tw1386037735645742545 : True := True.intro
theorem PySem.W.Fast.tw7043490585505115561 : True := True.intro
theorem PySem.W.Fast.tw15323246340615134533 : True := True.intro
theorem PySem.W.Fast.tw12671661892889143522 : True := True.intro
theorem PySem.W.Fast.tw6994419066782665417 : True := True.intro
theorem PySem.W.Fast.tw14811451514979585484 : True := True.intro
theorem PySem.W.Fast.tw3738759655487176078 : True := True.intro
theorem PySem.W.Fast.tw6060562875390209227 : True := True.intro
theorem PySem.W.Fast.tw1111733154530711615 : True := True.intro
theorem PySem.W.Fast.tw9490763150778880907 : True := True.intro
theorem PySem.W.Fast.tw11649169070280996323 : True := True.intro
theorem PySem.W.Fast.tw11409663063144333074 : True := True.intro
theorem PySem.W.Fast.tw16894767105728084081 : True := True.intro
theorem PySem.W.Fast.tw930130216547362611 : True := True.intro
theorem PySem.W.Fast.tw12373773881347350091 : True := True.intro
theorem PySem.W.Fast.tw9385989610487346309 : True := True.intro
theorem PySem.W.Fast.tw6320850330061801584 : True := True.intro
theorem PySem.W.Fast.tw10325879327925238142 : True := True.intro
theorem PySem.W.Fast.tw5408000429723796907 : True := True.intro
theorem PySem.W.Fast.tw14104592016779973560 : True := True.intro
theorem PySem.W.Fast.tw1081192430126338797 : True := True.intro
theorem PySem.W.Fast.tw16235340528903411045 : True := True.intro
theorem PySem.W.Fast.tw10963076259671846412 : True := True.intro
theorem PySem.W.Fast.tw8514865075092919083 : True := True.intro
theorem PySem.W.Fast.tw17497227019530802662 : True := True.intro
theorem PySem.W.Fast.tw17243259572929683446 : True := True.intro
theorem PySem.W.Fast.tw13465424139867762934 : True := True.intro
theorem PySem.W.Fast.tw1438169071824791264 : True := True.intro
theorem PySem.W.Fast.tw14090354425866145902 : True := True.intro
theorem PySem.W.Fast.tw2664740406302202668 : True := True.intro
theorem PySem.W.Fast.tw15900448542711318433 : True := True.intro
theorem PySem.W.Fast.tw15893316993823370695 : True := True.intro
theorem PySem.W.Fast.tw11063794804173021910 : True := True.intro
theorem PySem.W.Fast.tw13730563089884047095 : True := True.intro
theorem PySem.W.Fast.tw13898290011335316487 : True := True.intro
theorem PySem.W.Fast.tw16332199040477372794 : True := True.intro
theorem PySem.W.Fast.tw7936879754327326329 : True := True.intro
theorem PySem.W.Fast.tw5573747423529363854 : True := True.intro
theorem PySem.W.Fast.tw6768131496839390131 : True := True.intro
theorem PySem.W.Fast.tw16450172826911852022 : True := True.intro
theorem PySem.W.Fast.tw126541773137191975 : True := True.intro
theorem PySem.W.Fast.tw14176540812307584756 : True := True.intro
theorem PySem.W.Fast.tw10667737738761990703 : True := True.intro
theorem PySem.W.Fast.tw3928014685848594185 : True := True.intro
theorem PySem.W.Fast.tw12905088903193248663 : True := True.intro
theorem PySem.W.Fast.tw8856989106312100100 : True := True.intro
theorem PySem.W.Fast.tw14470974548360308694 : True := True.intro
theorem PySem.W.Fast.tw15575206604775971639 : True := True.intro
theorem PySem.W.Fast.tw11701358988884840769 : True := True.intro
theorem PySem.W.Fast.tw6258035672080094630 : True := True.intro
theorem PySem.W.Fast.tw6746464108707961416 : True := True.intro
theorem PySem.W.Fast.tw4560854860053677477 : True := True.intro
theorem PySem.W.Fast.tw2779518394997868715 : True := True.intro
theorem PySem.W.Fast.tw8555088315308301779 : True := True.intro
theorem PySem.W.Fast.tw3660587063353629824 : True := True.intro
theorem PySem.W.Fast.tw10144183989940414430 : True := True.intro
theorem PySem.W.Fast.tw17141635330556038903 : True := True.intro
theorem PySem.W.Fast.tw7272445827187857788 : True := True.intro
theorem PySem.W.Fast.tw14900505527356586844 : True := True.intro
theorem PySem.W.Fast.tw6437267042738048068 : True := True.intro
theorem PySem.W.Fast.tw5909786815686667484 : True := True.intro
theorem PySem.W.Fast.tw17362010075635936454 : True := True.intro
theorem PySem.W.Fast.tw454237620790770138 : True := True.intro
theorem PySem.W.Fast.tw1564829590618301731 : True := True.intro
theorem PySem.W.Fast.tw5242948921151571184 : True := True.intro
theorem PySem.W.Fast.tw459875884219393439 : True := True.intro
theorem PySem.W.Fast.tw3283611098997896473 : True := True.intro
theorem PySem.W.Fast.tw11919075209469888493 : True := True.intro
theorem PySem.W.Fast.tw1012933108467673273 : True := True.intro
theorem PySem.W.Fast.tw4509526079053290941 : True := True.intro
theorem PySem.W.Fast.tw17302731480870198499 : True := True.intro
theorem PySem.W.Fast.tw8070979954666292472 : True := True.intro
theorem PySem.W.Fast.tw17681487046710419473 : True := True.intro
theorem PySem.W.Fast.tw16990571059353751874 : True := True.intro
theorem PySem.W.Fast.tw216944162559006263 : True := True.intro
theorem PySem.W.Fast.tw12922024561167452212 : True := True.intro
theorem PySem.W.Fast.tw10500188111848012627 : True := True.intro
theorem PySem.W.Fast.tw2969635619989185982 : True := True.intro
theorem PySem.W.Fast.tw521826389927605043 : True := True.intro
theorem PySem.W.Fast.tw221216903401752831 : True := True.intro
theorem PySem.W.Fast.tw13554984602947501251 : True := True.intro
theorem PySem.W.Fast.tw16045368682413005314 : True := True.intro
theorem PySem.W.Fast.tw11710643167680392321 : True := True.intro
theorem PySem.W.Fast.tw17310206092505311114 : True := True.intro
theorem PySem.W.Fast.tw13702284335750026192 : True := True.intro
theorem PySem.W.Fast.tw7433694589258533381 : True := True.intro
theorem PySem.W.Fast.tw13437210760569043249 : True := True.intro
theorem PySem.W.Fast.tw18165866266113981449 : True := True.intro
theorem PySem.W.Fast.tw18316147125708727911 : True := True.intro
theorem PySem.W.Fast.tw16983898116650705488 : True := True.intro
theorem PySem.W.Fast.tw1244203767281100510 : True := True.intro
theorem PySem.W.Fast.tw14754176767146571901 : True := True.intro
theorem PySem.W.Fast.tw14019672025298335862 : True := True.intro
theorem PySem.W.Fast.tw3514297571840275394 : True := True.intro
theorem PySem.W.Fast.tw16312954689038218775 : True := True.intro
theorem PySem.W.Fast.tw15487009536103286412 : True := True.intro
theorem PySem.W.Fast.tw14522270868450197119 : True := True.intro
theorem PySem.W.Fast.tw6594503170280119178 : True := True.intro
theorem PySem.W.Fast.tw16845966433444030364 : True := True.intro
theorem PySem.W.Fast.tw15352620732234205762 : True := True.intro
theorem PySem.W.Fast.tw4138914589813794019 : True := True.intro
theorem PySem.W.Fast.tw10072129094690079999 : True := True.intro
theorem PySem.W.Fast.tw11746596638166035964 : True := True.intro
theorem PySem.W.Fast.tw14877411806072163899 : True := True.intro
theorem PySem.W.Fast.tw10949601869902802993 : True := True.intro
theorem PySem.W.Fast.tw10668161432892353735 : True := True.intro
theorem PySem.W.Fast.tw11108152606482620907 : True := True.intro
theorem PySem.W.Fast.tw11263412443218557258 : True := True.intro
theorem PySem.W.Fast.tw12045165787662563287 : True := True.intro
theorem PySem.W.Fast.tw14629948108679709890 : True := True.intro
theorem PySem.W.Fast.tw14671608655273852055 : True := True.intro
theorem PySem.W.Fast.tw3674367599550455506 : True := True.intro
theorem PySem.W.Fast.tw18286876322908284880 : True := True.intro
theorem PySem.W.Fast.tw10790121832931775962 : True := True.intro
theorem PySem.W.Fast.tw11892053325136178665 : True := True.intro
theorem PySem.W.Fast.tw7436604128631542797 : True := True.intro
theorem PySem.W.Fast.tw9137891718034564412 : True := True.intro
theorem PySem.W.Fast.tw2641003871456861857 : True := True.intro
theorem PySem.W.Fast.tw477985103609783199 : True := True.intro
theorem PySem.W.Fast.tw15651443081681632138 : True := True.intro
theorem PySem.W.Fast.tw14105353262756860398 : True := True.intro
theorem PySem.W.Fast.tw5060437961008645095 : True := True.intro
theorem PySem.W.Fast.tw10944182959755984537 : True := True.intro
theorem PySem.W.Fast.tw6205709322354703752 : True := True.intro
theorem PySem.W.Fast.tw8930745286801583308 : True := True.intro
theorem PySem.W.Fast.tw6222435171628144095 : True := True.intro
theorem PySem.W.Fast.tw7450772368416789576 : True := True.intro
theorem PySem.W.Fast.tw10735476937866869783 : True := True.intro
theorem PySem.W.Fast.tw10772501908442197705 : True := True.intro
theorem PySem.W.Fast.tw2944124274191617021 : True := True.intro
theorem PySem.W.Fast.tw1525263746592194612 : True := True.intro
theorem PySem.W.Fast.tw7499005633754488861 : True := True.intro
theorem PySem.W.Fast.tw3692443786310365293 : True := True.intro
theorem PySem.W.Fast.tw14488028537398644509 : True := True.intro
theorem PySem.W.Fast.tw6041045085387367232 : True := True.intro
theorem PySem.W.Fast.tw12365213418796697924 : True := True.intro
theorem PySem.W.Fast.tw17300415979079778927 : True := True.intro
theorem PySem.W.Fast.tw5407365898453996234 : True := True.intro
theorem PySem.W.Fast.tw1043650920424209332 : True := True.intro
theorem PySem.W.Fast.tw15200190832233742446 : True := True.intro
theorem PySem.W.Fast.tw4149700770844446387 : True := True.intro
theorem PySem.W.Fast.tw3269936568146799110 : True := True.intro
theorem PySem.W.Fast.tw1167405494806493622 : True := True.intro
theorem PySem.W.Fast.tw2609513312722502474 : True := True.intro
theorem PySem.W.Fast.tw11930485153356462928 : True := True.intro
theorem PySem.W.Fast.tw9798356425716167526 : True := True.intro
theorem PySem.W.Fast.tw13687962724090390665 : True := True.intro
theorem PySem.W.Fast.tw8178460972664536568 : True := True.intro
theorem PySem.W.Fast.tw11972497959705203345 : True := True.intro
theorem PySem.W.Fast.tw13259415875466347647 : True := True.intro
theorem PySem.W.Fast.tw12584404092989530503 : True := True.intro
theorem PySem.W.Fast.tw12676215845345098465 : True := True.intro
theorem PySem.W.Fast.tw790912065253365642 : True := True.intro
theorem PySem.W.Fast.tw266264632820593249 : True := True.intro
theorem PySem.W.Fast.tw14911984133831083763 : True := True.intro
theorem PySem.W.Fast.tw6935915571488144749 : True := True.intro
theorem PySem.W.Fast.tw9489078566356371157 : True := True.intro
theorem PySem.W.Fast.tw7276552882112179491 : True := True.intro
theorem PySem.W.Fast.tw13720784328853361156 : True := True.intro
theorem PySem.W.Fast.tw18080195480602503171 : True := True.intro
theorem PySem.W.Fast.tw2489453171188595568 : True := True.intro
theorem PySem.W.Fast.tw146354058841432445 : True := True.intro
theorem PySem.W.Fast.tw6652826765177592522 : True := True.intro
theorem PySem.W.Fast.tw10358082486329343412 : True := True.intro
theorem PySem.W.Fast.tw12239018627299328311 : True := True.intro
theorem PySem.W.Fast.tw7617867955177241306 : True := True.intro
theorem PySem.W.Fast.tw17055609965266519327 : True := True.intro
theorem PySem.W.Fast.tw14191455087136463485 : True := True.intro
theorem PySem.W.Fast.tw13722591918626884196 : True := True.intro
theorem PySem.W.Fast.tw14792275827689728249 : True := True.intro
theorem PySem.W.Fast.tw13363883490194376971 : True := True.intro
theorem PySem.W.Fast.tw15881330569142105701 : True := True.intro
theorem PySem.W.Fast.tw2972414345716994424 : True := True.intro
theorem PySem.W.Fast.tw3052899555950474921 : True := True.intro
theorem PySem.W.Fast.tw1575594071390653407 : True := True.intro
theorem PySem.W.Fast.tw3022445288791209822 : True := True.intro
theorem PySem.W.Fast.tw4579425556051651720 : True := True.intro
theorem PySem.W.Fast.tw3960009760103568831 : True := True.intro
theorem PySem.W.Fast.tw6593903990458223590 : True := True.intro
theorem PySem.W.Fast.tw11740738051696744957 : True := True.intro
theorem PySem.W.Fast.tw1340233475132779809 : True := True.intro
theorem PySem.W.Fast.tw4265710664168414426 : True := True.intro
theorem PySem.W.Fast.tw17183019346233114541 : True := True.intro
theorem PySem.W.Fast.tw14371964222398357435 : True := True.intro
theorem PySem.W.Fast.tw5444450373418864864 : True := True.intro
theorem PySem.W.Fast.tw17688831466552478630 : True := True.intro
theorem PySem.W.Fast.tw6050613437505936897 : True := True.intro
theorem PySem.W.Fast.tw2203009841203495596 : True := True.intro
theorem PySem.W.Fast.tw11376559157581034186 : True := True.intro
theorem PySem.W.Fast.tw4714790300273605847 : True := True.intro
theorem PySem.W.Fast.tw1963642512498321016 : True := True.intro
theorem PySem.W.Fast.tw7521793234632820186 : True := True.intro
theorem PySem.W.Fast.tw5778556437018860202 : True := True.intro
theorem PySem.W.Fast.tw7691906064518868649 : True := True.intro
theorem PySem.W.Fast.tw18197346280255855342 : True := True.intro
theorem PySem.W.Fast.tw15205898989528385812 : True := True.intro
theorem PySem.W.Fast.tw18044267183140302208 : True := True.intro
theorem PySem.W.Fast.tw17073085381427633297 : True := True.intro
theorem PySem.W.Fast.tw18293928200211391658 : True := True.intro
theorem PySem.W.Fast.tw5629703854157551228 : True := True.intro
theorem PySem.W.Fast.tw14560064058282635296 : True := True.intro
theorem PySem.W.Fast.tw11148234682641001312 : True := True.intro
theorem PySem.W.Fast.tw4306111369192981122 : True := True.intro
theorem PySem.W.Fast.tw10122971625724934447 : True := True.intro
theorem PySem.W.Fast.tw9584432138590537891 : True := True.intro
theorem PySem.W.Fast.tw13644383436428283311 : True := True.intro
theorem PySem.W.Fast.tw3154448882113335408 : True := True.intro
theorem PySem.W.Fast.tw8025112494651838095 : True := True.intro
theorem PySem.W.Fast.tw2198103811608722307 : True := True.intro
theorem PySem.W.Fast.tw2380577126909853207 : True := True.intro
theorem PySem.W.Fast.tw9878766774657847255 : True := True.intro
theorem PySem.W.Fast.tw4254497776231125495 : True := True.intro
theorem PySem.W.Fast.tw14293968134554444398 : True := True.intro
theorem PySem.W.Fast.tw2846950808782557562 : True := True.intro
theorem PySem.W.Fast.tw17684871993967184648 : True := True.intro
theorem PySem.W.Fast.tw9753144524163758347 : True := True.intro
theorem PySem.W.Fast.tw2614134210466861078 : True := True.intro
theorem PySem.W.Fast.tw11441753637834337440 : True := True.intro
theorem PySem.W.Fast.tw15180410923503125309 : True := True.intro
theorem PySem.W.Fast.tw18388916268607935562 : True := True.intro
theorem PySem.W.Fast.tw7917865968830916053 : True := True.intro
theorem PySem.W.Fast.tw13284676433150526034 : True := True.intro
theorem PySem.W.Fast.tw2950731915153431099 : True := True.intro
theorem PySem.W.Fast.tw5829573756012537273 : True := True.intro
theorem PySem.W.Fast.tw486567433639493468 : True := True.intro
theorem PySem.W.Fast.tw9864238142453357030 : True := True.intro
theorem PySem.W.Fast.tw360082378143206018 : True := True.intro
theorem PySem.W.Fast.tw10187409900477350780 : True := True.intro
theorem PySem.W.Fast.tw15751319979602334795 : True := True.intro
theorem PySem.W.Fast.tw16559903726105773701 : True := True.intro
theorem PySem.W.Fast.tw15160348036569240226 : True := True.intro
theorem PySem.W.Fast.tw8881923260728229647 : True := True.intro
theorem PySem.W.Fast.tw6106813072992516420 : True := True.intro
theorem PySem.W.Fast.tw16628761198205451301 : True := True.intro
theorem PySem.W.Fast.tw6090503281312946814 : True := True.intro
theorem PySem.W.Fast.tw11151410029060566826 : True := True.intro
theorem PySem.W.Fast.tw250218527586944888 : True := True.intro
theorem PySem.W.Fast.tw4922488704819912636 : True := True.intro
theorem PySem.W.Fast.tw1832547833196198288 : True := True.intro
theorem PySem.W.Fast.tw14625977008509048345 : True := True.intro
theorem PySem.W.Fast.tw17374743074347706829 : True := True.intro
theorem PySem.W.Fast.tw15122558501251070059 : True := True.intro
theorem PySem.W.Fast.tw7656040907619854409 : True := True.intro
theorem PySem.W.Fast.tw6116704697241636850 : True := True.intro
theorem PySem.W.Fast.tw7466762408754608446 : True := True.intro
theorem PySem.W.Fast.tw14294279965235997896 : True := True.intro
theorem PySem.W.Fast.tw15412863495146095009 : True := True.intro
theorem PySem.W.Fast.tw879299543241617023 : True := True.intro
theorem PySem.W.Fast.tw14285830838126866519 : True := True.intro
theorem PySem.W.Fast.tw17585781333156126499 : True := True.intro
theorem PySem.W.Fast.tw1760945209285992637 : True := True.intro
theorem PySem.W.Fast.tw3037228631443943167 : True := True.intro
theorem PySem.W.Fast.tw10179552144370994651 : True := True.intro
theorem PySem.W.Fast.tw15550905209370297647 : True := True.intro
theorem PySem.W.Fast.tw13432031444671556417 : True := True.intro
theorem PySem.W.Fast.tw10610266074182296845 : True := True.intro
theorem PySem.W.Fast.tw87250212174168283 : True := True.intro
theorem PySem.W.Fast.tw13754697541543761633 : True := True.intro
theorem PySem.W.Fast.tw10570440610327055292 : True := True.intro
theorem PySem.W.Fast.tw3622009862360251035 : True := True.intro
theorem PySem.W.Fast.tw5015545524854172344 : True := True.intro
theorem PySem.W.Fast.tw17752847749314946189 : True := True.intro
theorem PySem.W.Fast.tw14759671672559207446 : True := True.intro
theorem PySem.W.Fast.tw5780468076029253359 : True := True.intro
theorem PySem.W.Fast.tw11301727954447337467 : True := True.intro
theorem PySem.W.Fast.tw527456335873730194 : True := True.intro
theorem PySem.W.Fast.tw1347326484772194396 : True := True.intro
theorem PySem.W.Fast.tw14112156478394556159 : True := True.intro
theorem PySem.W.Fast.tw5336887212626075390 : True := True.intro
theorem PySem.W.Fast.tw5595203824495017723 : True := True.intro
theorem PySem.W.Fast.tw2685555558458085824 : True := True.intro
theorem PySem.W.Fast.tw14000778954963353664 : True := True.intro
theorem PySem.W.Fast.tw17206131440751560612 : True := True.intro
theorem PySem.W.Fast.tw10755373154620974009 : True := True.intro
theorem PySem.W.Fast.tw4984894069061763487 : True := True.intro
theorem PySem.W.Fast.tw9130892089965611130 : True := True.intro
theorem PySem.W.Fast.tw5379008838129249049 : True := True.intro
theorem PySem.W.Fast.tw8910202639830976607 : True := True.intro
theorem PySem.W.Fast.tw407601168843216537 : True := True.intro
theorem PySem.W.Fast.tw3425670168929194306 : True := True.intro
theorem PySem.W.Fast.tw10982671300567654893 : True := True.intro
theorem PySem.W.Fast.tw16486365212895089827 : True := True.intro
theorem PySem.W.Fast.tw144104855293019823 : True := True.intro
theorem PySem.W.Fast.tw267403798202727891 : True := True.intro
theorem PySem.W.Fast.tw5295664854562374297 : True := True.intro
theorem PySem.W.Fast.tw9070577718754297793 : True := True.intro
theorem PySem.W.Fast.tw1963062233521385110 : True := True.intro
theorem PySem.W.Fast.tw3126881297436741401 : True := True.intro
theorem PySem.W.Fast.tw9977251796880722480 : True := True.intro
theorem PySem.W.Fast.tw18371691639916825494 : True := True.intro
theorem PySem.W.Fast.tw6596515217337680147 : True := True.intro
theorem PySem.W.Fast.tw16143296531549408479 : True := True.intro
theorem PySem.W.Fast.tw5178599758627582832 : True := True.intro
theorem PySem.W.Fast.tw17023373360676549587 : True := True.intro
theorem PySem.W.Fast.tw18441589615250017334 : True := True.intro
theorem PySem.W.Fast.tw12875127076709845980 : True := True.intro
theorem PySem.W.Fast.tw14785051954577262167 : True := True.intro
theorem PySem.W.Fast.tw5997849318030672756 : True := True.intro
theorem PySem.W.Fast.tw11338139890170304131 : True := True.intro
theorem PySem.W.Fast.tw68323099783203774 : True := True.intro
theorem PySem.W.Fast.tw3222919407706492901 : True := True.intro
theorem PySem.W.Fast.tw5093241389044574978 : True := True.intro
theorem PySem.W.Fast.tw5962889008914673652 : True := True.intro
theorem PySem.W.Fast.tw12937867713639264359 : True := True.intro
theorem PySem.W.Fast.tw2076014574338384269 : True := True.intro
theorem PySem.W.Fast.tw1136078020783983666 : True := True.intro
theorem PySem.W.Fast.tw13014999414763302988 : True := True.intro
theorem PySem.W.Fast.tw16935079809477301529 : True := True.intro
theorem PySem.W.Fast.tw2139628494169631403 : True := True.intro
theorem PySem.W.Fast.tw5413233739555558677 : True := True.intro
theorem PySem.W.Fast.tw17611484909338015879 : True := True.intro
theorem PySem.W.Fast.tw10993143000166251853 : True := True.intro
theorem PySem.W.Fast.tw15205724267615404541 : True := True.intro
theorem PySem.W.Fast.tw3494026168313192716 : True := True.intro
theorem PySem.W.Fast.tw12509246688080323344 : True := True.intro
theorem PySem.W.Fast.tw15908940653550422467 : True := True.intro
theorem PySem.W.Fast.tw10067030501957616474 : True := True.intro
theorem PySem.W.Fast.tw13579985812073870277 : True := True.intro
theorem PySem.W.Fast.tw7856524732336543759 : True := True.intro
theorem PySem.W.Fast.tw15532586943810256822 : True := True.intro
theorem PySem.W.Fast.tw2401547699935485693 : True := True.intro
theorem PySem.W.Fast.tw1349487478448302876 : True := True.intro
theorem PySem.W.Fast.tw7306555864844493126 : True := True.intro
theorem PySem.W.Fast.tw5661650438768048525 : True := True.intro
theorem PySem.W.Fast.tw12135394616720068382 : True := True.intro
theorem PySem.W.Fast.tw10527493970955767156 : True := True.intro
theorem PySem.W.Fast.tw17944104684855480390 : True := True.intro
theorem PySem.W.Fast.tw10051056064886358470 : True := True.intro
theorem PySem.W.Fast.tw7168099332038664883 : True := True.intro
theorem PySem.W.Fast.tw8330355744600461412 : True := True.intro
theorem PySem.W.Fast.tw325887157495727042 : True := True.intro
theorem PySem.W.Fast.tw10646289076839303954 : True := True.intro
theorem PySem.W.Fast.tw18301644251593053138 : True := True.intro
theorem PySem.W.Fast.tw11979875539092647095 : True := True.intro
theorem PySem.W.Fast.tw2216065598013843578 : True := True.intro
theorem PySem.W.Fast.tw17554940629037947294 : True := True.intro
theorem PySem.W.Fast.tw11090046478776435492 : True := True.intro
theorem PySem.W.Fast.tw13649236681991772898 : True := True.intro
theorem PySem.W.Fast.tw16792626967931751164 : True := True.intro
theorem PySem.W.Fast.tw14148303013280550232 : True := True.intro
theorem PySem.W.Fast.tw4704727088676553581 : True := True.intro
theorem PySem.W.Fast.tw12585634344097415731 : True := True.intro
theorem PySem.W.Fast.tw3815617749165390840 : True := True.intro
theorem PySem.W.Fast.tw2355733985803368212 : True := True.intro
theorem PySem.W.Fast.tw13643626621673327965 : True := True.intro
theorem PySem.W.Fast.tw18341937638521238077 : True := True.intro
theorem PySem.W.Fast.tw13663075823655876090 : True := True.intro
theorem PySem.W.Fast.tw8364979875983290996 : True := True.intro
theorem PySem.W.Fast.tw13938802017897681715 : True := True.intro
theorem PySem.W.Fast.tw113996408294734720 : True := True.intro
theorem PySem.W.Fast.tw3976053922116577205 : True := True.intro
theorem PySem.W.Fast.tw16078040931412996382 : True := True.intro
theorem PySem.W.Fast.tw868922861339045939 : True := True.intro
theorem PySem.W.Fast.tw17427369657199497153 : True := True.intro
theorem PySem.W.Fast.tw12453107585034380708 : True := True.intro
theorem PySem.W.Fast.tw8478950867941789381 : True := True.intro
theorem PySem.W.Fast.tw2994955494096631348 : True := True.intro
theorem PySem.W.Fast.tw10014835339299114104 : True := True.intro
theorem PySem.W.Fast.tw8413722953146034335 : True := True.intro
theorem PySem.W.Fast.tw16173899320865346670 : True := True.intro
theorem PySem.W.Fast.tw7084325052514579698 : True := True.intro
theorem PySem.W.Fast.tw11008371950084996370 : True := True.intro
theorem PySem.W.Fast.tw16994878675215394071 : True := True.intro
theorem PySem.W.Fast.tw9885228531187889234 : True := True.intro
theorem PySem.W.Fast.tw10767848125885731349 : True := True.intro
theorem PySem.W.Fast.tw15355371434060012281 : True := True.intro
theorem PySem.W.Fast.tw18030514241042330784 : True := True.intro
theorem PySem.W.Fast.tw10708642186975247507 : True := True.intro
theorem PySem.W.Fast.tw8785361061056997776 : True := True.intro
theorem PySem.W.Fast.tw1380146882375700647 : True := True.intro
theorem PySem.W.Fast.tw18394592075380489424 : True := True.intro
theorem PySem.W.Fast.tw6048105391038357377 : True := True.intro
theorem PySem.W.Fast.tw7320351735274691092 : True := True.intro
theorem PySem.W.Fast.tw7918180294779476575 : True := True.intro
theorem PySem.W.Fast.tw4288379811529906614 : True := True.intro
theorem PySem.W.Fast.tw10092551117791783681 : True := True.intro
theorem PySem.W.Fast.tw12221484266499980228 : True := True.intro
theorem PySem.W.Fast.tw8656532504479440661 : True := True.intro
theorem PySem.W.Fast.tw12566574275874983843 : True := True.intro
theorem PySem.W.Fast.tw2978940257662888546 : True := True.intro
theorem PySem.W.Fast.tw9662999982507158605 : True := True.intro
theorem PySem.W.Fast.tw12772408483069357099 : True := True.intro
theorem PySem.W.Fast.tw980661382651251781 : True := True.intro
theorem PySem.W.Fast.tw5534613035824355374 : True := True.intro
theorem PySem.W.Fast.tw1294518761471454509 : True := True.intro
theorem PySem.W.Fast.tw14362587997073326083 : True := True.intro
theorem PySem.W.Fast.tw10801007142450945476 : True := True.intro
theorem PySem.W.Fast.tw2303897545377146373 : True := True.intro
theorem PySem.W.Fast.tw16244341632688362479 : True := True.intro
theorem PySem.W.Fast.tw9893487239627854008 : True := True.intro
theorem PySem.W.Fast.tw12730178440670300110 : True := True.intro
theorem PySem.W.Fast.tw2078578155400794268 : True := True.intro
theorem PySem.W.Fast.tw17030998150050409560 : True := True.intro
theorem PySem.W.Fast.tw18440203725026385753 : True := True.intro
theorem PySem.W.Fast.tw12382106065894975803 : True := True.intro
theorem PySem.W.Fast.tw16755493807619264139 : True := True.intro
theorem PySem.W.Fast.tw17710306204505640418 : True := True.intro
theorem PySem.W.Fast.tw16884002906484920742 : True := True.intro
theorem PySem.W.Fast.tw15678944958755485152 : True := True.intro
theorem PySem.W.Fast.tw12021587241353011200 : True := True.intro
theorem PySem.W.Fast.tw10254197722633306157 : True := True.intro
theorem PySem.W.Fast.tw6080824806090943298 : True := True.intro
theorem PySem.W.Fast.tw4779073202967727018 : True := True.intro
theorem PySem.W.Fast.tw6666281505087040598 : True := True.intro
theorem PySem.W.Fast.tw12765639526734324117 : True := True.intro
theorem PySem.W.Fast.tw17513013356385451037 : True := True.intro
theorem PySem.W.Fast.tw4391763452600393982 : True := True.intro
theorem PySem.W.Fast.tw7968949245671804391 : True := True.intro
theorem PySem.W.Fast.tw9828526123764904876 : True := True.intro
theorem PySem.W.Fast.tw84063663023388001 : True := True.intro
theorem PySem.W.Fast.tw2735441926739041115 : True := True.intro
theorem PySem.W.Fast.tw14676518844298243741 : True := True.intro
theorem PySem.W.Fast.tw10952354910156576313 : True := True.intro
theorem PySem.W.Fast.tw8115420857148923294 : True := True.intro
theorem PySem.W.Fast.tw13898269513590836333 : True := True.intro
theorem PySem.W.Fast.tw7184410410360051132 : True := True.intro
theorem PySem.W.Fast.tw557076675258971100 : True := True.intro
theorem PySem.W.Fast.tw16003637160516953409 : True := True.intro
theorem PySem.W.Fast.tw9896336325911945882 : True := True.intro
theorem PySem.W.Fast.tw18350570283437349856 : True := True.intro
theorem PySem.W.Fast.tw4415109163400849043 : True := True.intro
theorem PySem.W.Fast.tw4048051911225233103 : True := True.intro
theorem PySem.W.Fast.tw908292762010155103 : True := True.intro
theorem PySem.W.Fast.tw4764025819681130296 : True := True.intro
theorem PySem.W.Fast.tw2893326665257412883 : True := True.intro
theorem PySem.W.Fast.tw438757157836011956 : True := True.intro
theorem PySem.W.Fast.tw1086805228586293568 : True := True.intro
theorem PySem.W.Fast.tw4820267970548301361 : True := True.intro
theorem PySem.W.Fast.tw18136498235250518818 : True := True.intro
theorem PySem.W.Fast.tw12626653937818820173 : True := True.intro
theorem PySem.W.Fast.tw12785200768566215629 : True := True.intro
theorem PySem.W.Fast.tw5515167352417380629 : True := True.intro
theorem PySem.W.Fast.tw17345098791929371123 : True := True.intro
theorem PySem.W.Fast.tw495550200250659175 : True := True.intro
theorem PySem.W.Fast.tw17979671234576218547 : True := True.intro
theorem PySem.W.Fast.tw9800685974540608294 : True := True.intro
theorem PySem.W.Fast.tw4184695698610098853 : True := True.intro
theorem PySem.W.Fast.tw9092230950943221352 : True := True.intro
theorem PySem.W.Fast.tw7444175803661402624 : True := True.intro
theorem PySem.W.Fast.tw7738800237737234970 : True := True.intro
theorem PySem.W.Fast.tw17612874154612818105 : True := True.intro
theorem PySem.W.Fast.tw8847346695675925400 : True := True.intro
theorem PySem.W.Fast.tw6232025853966047574 : True := True.intro
theorem PySem.W.Fast.tw14629798681718064377 : True := True.intro
theorem PySem.W.Fast.tw10237892413837775215 : True := True.intro
theorem PySem.W.Fast.tw25512211836682983 : True := True.intro
theorem PySem.W.Fast.tw5983544486941218374 : True := True.intro
theorem PySem.W.Fast.tw15889399824879589951 : True := True.intro
theorem PySem.W.Fast.tw9733249175368637362 : True := True.intro
theorem PySem.W.Fast.tw8907853953126659827 : True := True.intro
theorem PySem.W.Fast.tw13486161021917431065 : True := True.intro
theorem PySem.W.Fast.tw4537678563921212229 : True := True.intro
theorem PySem.W.Fast.tw2358343380060727904 : True := True.intro
theorem PySem.W.Fast.tw12591896678727255005 : True := True.intro
theorem PySem.W.Fast.tw11368019897172305088 : True := True.intro
theorem PySem.W.Fast.tw6638153340708753493 : True := True.intro
theorem PySem.W.Fast.tw17903284213710022509 : True := True.intro
theorem PySem.W.Fast.tw3311454870210407516 : True := True.intro
theorem PySem.W.Fast.tw4723883734074890676 : True := True.intro
theorem PySem.W.Fast.tw604105125106210048 : True := True.intro
theorem PySem.W.Fast.tw17527986654108938856 : True := True.intro
theorem PySem.W.Fast.tw13408692175687772981 : True := True.intro
theorem PySem.W.Fast.tw18148057689453494100 : True := True.intro
theorem PySem.W.Fast.tw342400170344804492 : True := True.intro
theorem PySem.W.Fast.tw12182517607447381532 : True := True.intro
theorem PySem.W.Fast.tw1148481306126732298 : True := True.intro
theorem PySem.W.Fast.tw2255880354155303193 : True := True.intro
theorem PySem.W.Fast.tw8771547937731254892 : True := True.intro
theorem PySem.W.Fast.tw4742972951158943436 : True := True.intro
theorem PySem.W.Fast.tw1560021191282062542 : True := True.intro
theorem PySem.W.Fast.tw2280142890545349476 : True := True.intro
theorem PySem.W.Fast.tw15536893277757079558 : True := True.intro
theorem PySem.W.Fast.tw14414845496490058682 : True := True.intro
theorem PySem.W.Fast.tw17551775575368045266 : True := True.intro
theorem PySem.W.Fast.tw2250148841306630094 : True := True.intro
theorem PySem.W.Fast.tw3655660057479002201 : True := True.intro
theorem PySem.W.Fast.tw14880568735831661114 : True := True.intro
theorem PySem.W.Fast.tw18000195951170448953 : True := True.intro
theorem PySem.W.Fast.tw13222673758680212027 : True := True.intro
theorem PySem.W.Fast.tw10380820358589248598 : True := True.intro
theorem PySem.W.Fast.tw7703426312276136479 : True := True.intro
theorem PySem.W.Fast.tw15317714322704821574 : True := True.intro
theorem PySem.W.Fast.tw114585794725682662 : True := True.intro
theorem PySem.W.Fast.tw17951952256011994824 : True := True.intro
theorem PySem.W.Fast.tw10095131046272140329 : True := True.intro
theorem PySem.W.Fast.tw12179235306510454864 : True := True.intro
theorem PySem.W.Fast.tw14316848501248626961 : True := True.intro
theorem PySem.W.Fast.tw3645031373563924837 : True := True.intro
theorem PySem.W.Fast.tw16409633870704596656 : True := True.intro
theorem PySem.W.Fast.tw13224871099003396211 : True := True.intro
theorem PySem.W.Fast.tw17617639001298370022 : True := True.intro
theorem PySem.W.Fast.tw14049878289551394308 : True := True.intro
theorem PySem.W.Fast.tw14743858813388444232 : True := True.intro
theorem PySem.W.Fast.tw18314760024492842051 : True := True.intro
theorem PySem.W.Fast.tw15104207461481859318 : True := True.intro
theorem PySem.W.Fast.tw4711522389052140800 : True := True.intro
theorem PySem.W.Fast.tw33860561032062071 : True := True.intro
theorem PySem.W.Fast.tw8159900286740461268 : True := True.intro
theorem PySem.W.Fast.tw3798176489099353594 : True := True.intro
theorem PySem.W.Fast.tw16036335260868888105 : True := True.intro
theorem PySem.W.Fast.tw4027428420815840562 : True := True.intro
theorem PySem.W.Fast.tw12054508352355849213 : True := True.intro
theorem PySem.W.Fast.tw4103822362289147977 : True := True.intro
theorem PySem.W.Fast.tw14983656062892806561 : True := True.intro
theorem PySem.W.Fast.tw7493660077979096556 : True := True.intro
theorem PySem.W.Fast.tw1326098095965187295 : True := True.intro
theorem PySem.W.Fast.tw13995180473556173781 : True := True.intro
theorem PySem.W.Fast.tw8367472126564643624 : True := True.intro
theorem PySem.W.Fast.tw4523871774221444781 : True := True.intro
theorem PySem.W.Fast.tw1694640985358100815 : True := True.intro
theorem PySem.W.Fast.tw17715106377500054094 : True := True.intro
theorem PySem.W.Fast.tw15177480711749229970 : True := True.intro
theorem PySem.W.Fast.tw666809877081409111 : True := True.intro
theorem PySem.W.Fast.tw3036405076491598 : True := True.intro
theorem PySem.W.Fast.tw16984202184785736603 : True := True.intro
theorem PySem.W.Fast.tw16745768853007952237 : True := True.intro
theorem PySem.W.Fast.tw10440644423221748858 : True := True.intro
theorem PySem.W.Fast.tw4819715868733095429 : True := True.intro
theorem PySem.W.Fast.tw6216781064788429446 : True := True.intro
theorem PySem.W.Fast.tw8623561495293946431 : True := True.intro
theorem PySem.W.Fast.tw2077105922820240025 : True := True.intro
theorem PySem.W.Fast.tw1370947951304284119 : True := True.intro
theorem PySem.W.Fast.tw18430918394642576804 : True := True.intro
theorem PySem.W.Fast.tw13391663374958180770 : True := True.intro
theorem PySem.W.Fast.tw11629473284825098402 : True := True.intro
theorem PySem.W.Fast.tw7435474005393674487 : True := True.intro
theorem PySem.W.Fast.tw1149546582581841154 : True := True.intro
theorem PySem.W.Fast.tw6730503373047521583 : True := True.intro
theorem PySem.W.Fast.tw184247761796621412 : True := True.intro
theorem PySem.W.Fast.tw1485908719303786950 : True := True.intro
theorem PySem.W.Fast.tw9713774668032602597 : True := True.intro
theorem PySem.W.Fast.tw7488954131555378201 : True := True.intro
theorem PySem.W.Fast.tw6189495290763706225 : True := True.intro
theorem PySem.W.Fast.tw13994491776651706877 : True := True.intro
theorem PySem.W.Fast.tw8918383956901370651 : True := True.intro
theorem PySem.W.Fast.tw10522214099568418259 : True := True.intro
theorem PySem.W.Fast.tw3553671265189075603 : True := True.intro
theorem PySem.W.Fast.tw10181597873149773439 : True := True.intro
theorem PySem.W.Fast.tw5036552193144619102 : True := True.intro
theorem PySem.W.Fast.tw8498696924340498804 : True := True.intro
theorem PySem.W.Fast.tw4332562008814701763 : True := True.intro
theorem PySem.W.Fast.tw7761744306847915230 : True := True.intro
theorem PySem.W.Fast.tw15923474450715819634 : True := True.intro
theorem PySem.W.Fast.tw3680592282952052185 : True := True.intro
theorem PySem.W.Fast.tw14718046190548967128 : True := True.intro
theorem PySem.W.Fast.tw1816378659804288362 : True := True.intro
theorem PySem.W.Fast.tw3841237886299533339 : True := True.intro
theorem PySem.W.Fast.tw14160171521362010599 : True := True.intro
theorem PySem.W.Fast.tw302199203025040571 : True := True.intro
theorem PySem.W.Fast.tw17976839158725022360 : True := True.intro
theorem PySem.W.Fast.tw657559860474779169 : True := True.intro
theorem PySem.W.Fast.tw10070965600809336324 : True := True.intro
theorem PySem.W.Fast.tw989162099883371817 : True := True.intro
theorem PySem.W.Fast.tw6817836306055524353 : True := True.intro
theorem PySem.W.Fast.tw3133861405167493882 : True := True.intro
theorem PySem.W.Fast.tw684054620976352364 : True := True.intro
theorem PySem.W.Fast.tw10704714360820783094 : True := True.intro
theorem PySem.W.Fast.tw10581418799245922964 : True := True.intro
theorem PySem.W.Fast.tw5522315216804134391 : True := True.intro
theorem PySem.W.Fast.tw6648481759289756854 : True := True.intro
theorem PySem.W.Fast.tw5340235028714604967 : True := True.intro
theorem PySem.W.Fast.tw17364799665712873919 : True := True.intro
theorem PySem.W.Fast.tw6070344250428304036 : True := True.intro
theorem PySem.W.Fast.tw17987522647523044077 : True := True.intro
theorem PySem.W.Fast.tw665498318307683 : True := True.intro
theorem PySem.W.Fast.tw13114228163151040668 : True := True.intro
theorem PySem.W.Fast.tw11100398836376192453 : True := True.intro
theorem PySem.W.Fast.tw1833687287705181808 : True := True.intro
theorem PySem.W.Fast.tw2100005521970747379 : True := True.intro
theorem PySem.W.Fast.tw10574967210854991382 : True := True.intro
theorem PySem.W.Fast.tw15452069049095628121 : True := True.intro
theorem PySem.W.Fast.tw18067060538425276891 : True := True.intro
theorem PySem.W.Fast.tw10258321425929451774 : True := True.intro
theorem PySem.W.Fast.tw13897745629025926762 : True := True.intro
theorem PySem.W.Fast.tw16752394364060929396 : True := True.intro
theorem PySem.W.Fast.tw2334779430233072271 : True := True.intro
theorem PySem.W.Fast.tw15410060918257323532 : True := True.intro
theorem PySem.W.Fast.tw9669209818315746191 : True := True.intro
theorem PySem.W.Fast.tw6083398605217657304 : True := True.intro
theorem PySem.W.Fast.tw17092999298202480878 : True := True.intro
theorem PySem.W.Fast.tw3126397613380233717 : True := True.intro
theorem PySem.W.Fast.tw14141757659341256549 : True := True.intro
theorem PySem.W.Fast.tw6477411990336445272 : True := True.intro
theorem PySem.W.Fast.tw6398319508539620401 : True := True.intro
theorem PySem.W.Fast.tw7798694834594411059 : True := True.intro
theorem PySem.W.Fast.tw3351980508850211205 : True := True.intro
theorem PySem.W.Fast.tw15769632363644080021 : True := True.intro
theorem PySem.W.Fast.tw17571631425726712369 : True := True.intro
theorem PySem.W.Fast.tw13566942909861909035 : True := True.intro
theorem PySem.W.Fast.tw11409446849666046493 : True := True.intro
theorem PySem.W.Fast.tw16000094846734420832 : True := True.intro
theorem PySem.W.Fast.tw6389652050217135485 : True := True.intro
theorem PySem.W.Fast.tw10468223957264136098 : True := True.intro
theorem PySem.W.Fast.tw15595388769785513720 : True := True.intro
theorem PySem.W.Fast.tw14470976020982528909 : True := True.intro
theorem PySem.W.Fast.tw4302698315068197360 : True := True.intro
theorem PySem.W.Fast.tw2467647941384916826 : True := True.intro
theorem PySem.W.Fast.tw13480861893165855938 : True := True.intro
theorem PySem.W.Fast.tw11824795875023317967 : True := True.intro
theorem PySem.W.Fast.tw1006183005750988417 : True := True.intro
theorem PySem.W.Fast.tw5894377355993180630 : True := True.intro
theorem PySem.W.Fast.tw5772241193427788597 : True := True.intro
theorem PySem.W.Fast.tw15278963558517506595 : True := True.intro
theorem PySem.W.Fast.tw16398788572995485363 : True := True.intro
theorem PySem.W.Fast.tw16040624846045357990 : True := True.intro
theorem PySem.W.Fast.tw7014887059901003920 : True := True.intro
theorem PySem.W.Fast.tw1268602945115822011 : True := True.intro
theorem PySem.W.Fast.tw11603806783636227261 : True := True.intro
theorem PySem.W.Fast.tw12058884370990297107 : True := True.intro
theorem PySem.W.Fast.tw16769653646549102617 : True := True.intro
theorem PySem.W.Fast.tw4391026665677164526 : True := True.intro
theorem PySem.W.Fast.tw1985459065521330502 : True := True.intro
theorem PySem.W.Fast.tw13384752323115540355 : True := True.intro
theorem PySem.W.Fast.tw14942465833766139600 : True := True.intro
theorem PySem.W.Fast.tw2721901950131699732 : True := True.intro
theorem PySem.W.Fast.tw11530708452975162422 : True := True.intro
theorem PySem.W.Fast.tw13902348064246555214 : True := True.intro
theorem PySem.W.Fast.tw11615474331811325739 : True := True.intro
theorem PySem.W.Fast.tw4665562194849725250 : True := True.intro
theorem PySem.W.Fast.tw11925257643550642926 : True := True.intro
theorem PySem.W.Fast.tw18374920886270920062 : True := True.intro
theorem PySem.W.Fast.tw12131254370673575726 : True := True.intro
theorem PySem.W.Fast.tw7508207655722963017 : True := True.intro
theorem PySem.W.Fast.tw10113139056249821494 : True := True.intro
theorem PySem.W.Fast.tw9507186431738432845 : True := True.intro
theorem PySem.W.Fast.tw3890859459242915892 : True := True.intro
theorem PySem.W.Fast.tw5419524570717452356 : True := True.intro
theorem PySem.W.Fast.tw15207454500173592953 : True := True.intro
theorem PySem.W.Fast.tw4623386455974790485 : True := True.intro
theorem PySem.W.Fast.tw12972337638007880669 : True := True.intro
theorem PySem.W.Fast.tw9740176435006195672 : True := True.intro
theorem PySem.W.Fast.tw10509148518264640062 : True := True.intro
theorem PySem.W.Fast.tw6577135105402018426 : True := True.intro
theorem PySem.W.Fast.tw6616152362213138468 : True := True.intro
theorem PySem.W.Fast.tw16377115685422946747 : True := True.intro
theorem PySem.W.Fast.tw13251574959799594319 : True := True.intro
theorem PySem.W.Fast.tw3696487595336688402 : True := True.intro
theorem PySem.W.Fast.tw8869109278671027542 : True := True.intro
theorem PySem.W.Fast.tw14368358797251351268 : True := True.intro
theorem PySem.W.Fast.tw15601619847143049946 : True := True.intro
theorem PySem.W.Fast.tw2814605813304497595 : True := True.intro
theorem PySem.W.Fast.tw5264219674714016431 : True := True.intro
theorem PySem.W.Fast.tw5211082515366012613 : True := True.intro
theorem PySem.W.Fast.tw3265839206748917420 : True := True.intro
theorem PySem.W.Fast.tw10905902181878157186 : True := True.intro
theorem PySem.W.Fast.tw8379319765196806711 : True := True.intro
theorem PySem.W.Fast.tw14426548676648019019 : True := True.intro
theorem PySem.W.Fast.tw13494224543819439690 : True := True.intro
theorem PySem.W.Fast.tw16524781495395702499 : True := True.intro
theorem PySem.W.Fast.tw12465478906228527949 : True := True.intro
theorem PySem.W.Fast.tw10110633894821199516 : True := True.intro
theorem PySem.W.Fast.tw10579491501656092978 : True := True.intro
theorem PySem.W.Fast.tw10788370085378630221 : True := True.intro
theorem PySem.W.Fast.tw17737300974384511689 : True := True.intro
theorem PySem.W.Fast.tw11551201596429462891 : True := True.intro
theorem PySem.W.Fast.tw5467437748604105004 : True := True.intro
theorem PySem.W.Fast.tw2022265058602829161 : True := True.intro
theorem PySem.W.Fast.tw16337288754559451798 : True := True.intro
theorem PySem.W.Fast.tw14271814906922113326 : True := True.intro
theorem PySem.W.Fast.tw6856195292745913569 : True := True.intro
theorem PySem.W.Fast.tw3871046162140468186 : True := True.intro
theorem PySem.W.Fast.tw4461562603150893974 : True := True.intro
theorem PySem.W.Fast.tw10626497845237292197 : True := True.intro
theorem PySem.W.Fast.tw7881318266456315462 : True := True.intro
theorem PySem.W.Fast.tw2118467385934018743 : True := True.intro
theorem PySem.W.Fast.tw3032958618471255066 : True := True.intro
theorem PySem.W.Fast.tw745918482198059594 : True := True.intro
theorem PySem.W.Fast.tw11698113600160913083 : True := True.intro
theorem PySem.W.Fast.tw10704941547975001172 : True := True.intro
theorem PySem.W.Fast.tw6396841010161378319 : True := True.intro
theorem PySem.W.Fast.tw816992871532006641 : True := True.intro
theorem PySem.W.Fast.tw7513281314020807395 : True := True.intro
theorem PySem.W.Fast.tw217411339025472176 : True := True.intro
theorem PySem.W.Fast.tw9895218248098097145 : True := True.intro
theorem PySem.W.Fast.tw2399955128009076802 : True := True.intro
theorem PySem.W.Fast.tw9655880231744322003 : True := True.intro
theorem PySem.W.Fast.tw16779814487193876562 : True := True.intro
theorem PySem.W.Fast.tw14556225802508175098 : True := True.intro
theorem PySem.W.Fast.tw7118416129627123892 : True := True.intro
theorem PySem.W.Fast.tw11243730084382327771 : True := True.intro
theorem PySem.W.Fast.tw3550674127291922090 : True := True.intro
theorem PySem.W.Fast.tw5152000297218303744 : True := True.intro
theorem PySem.W.Fast.tw9844483270966662810 : True := True.intro
theorem PySem.W.Fast.tw1886497607290083863 : True := True.intro
theorem PySem.W.Fast.tw11415269914148632658 : True := True.intro
theorem PySem.W.Fast.tw5686556401452828045 : True := True.intro
theorem PySem.W.Fast.tw13669485600776281066 : True := True.intro
theorem PySem.W.Fast.tw8303061606197402061 : True := True.intro
theorem PySem.W.Fast.tw14343608857575599462 : True := True.intro
theorem PySem.W.Fast.tw12039440418899948143 : True := True.intro
theorem PySem.W.Fast.tw1850003035289779698 : True := True.intro
theorem PySem.W.Fast.tw9231309617078394055 : True := True.intro
theorem PySem.W.Fast.tw12657279821171629159 : True := True.intro
theorem PySem.W.Fast.tw4816647923110495937 : True := True.intro
theorem PySem.W.Fast.tw458927781157991432 : True := True.intro
theorem PySem.W.Fast.tw11833240468727806317 : True := True.intro
theorem PySem.W.Fast.tw2155035457458754861 : True := True.intro
theorem PySem.W.Fast.tw9578764342533908456 : True := True.intro
theorem PySem.W.Fast.tw4806955841245932076 : True := True.intro
theorem PySem.W.Fast.tw13664435371081494547 : True := True.intro
theorem PySem.W.Fast.tw18216288000568999547 : True := True.intro
theorem PySem.W.Fast.tw7669624088739949314 : True := True.intro
theorem PySem.W.Fast.tw18206616405028517681 : True := True.intro
theorem PySem.W.Fast.tw2909579778841872962 : True := True.intro
theorem PySem.W.Fast.tw3209490556174457092 : True := True.intro
theorem PySem.W.Fast.tw1054593823817235771 : True := True.intro
theorem PySem.W.Fast.tw12580011612723008856 : True := True.intro
theorem PySem.W.Fast.tw587959583752349428 : True := True.intro
theorem PySem.W.Fast.tw4326045121613979001 : True := True.intro
theorem PySem.W.Fast.tw2912329262191230795 : True := True.intro
theorem PySem.W.Fast.tw13713593161053422111 : True := True.intro
theorem PySem.W.Fast.tw9012570998717763573 : True := True.intro
theorem PySem.W.Fast.tw8319360917786967031 : True := True.intro
theorem PySem.W.Fast.tw3631728112255921512 : True := True.intro
theorem PySem.W.Fast.tw12464843535640147512 : True := True.intro
theorem PySem.W.Fast.tw3534242338934163136 : True := True.intro
theorem PySem.W.Fast.tw11408465585207667072 : True := True.intro
theorem PySem.W.Fast.tw7205117095810168261 : True := True.intro
theorem PySem.W.Fast.tw3948094076152936416 : True := True.intro
theorem PySem.W.Fast.tw16783257139790054876 : True := True.intro
theorem PySem.W.Fast.tw15132886757151862340 : True := True.intro
theorem PySem.W.Fast.tw13159136263362099424 : True := True.intro
theorem PySem.W.Fast.tw17939006289426403252 : True := True.intro
theorem PySem.W.Fast.tw3232635932456476857 : True := True.intro
theorem PySem.W.Fast.tw9540172960156086875 : True := True.intro
theorem PySem.W.Fast.tw4344442489613037450 : True := True.intro
theorem PySem.W.Fast.tw6557399944080393888 : True := True.intro
theorem PySem.W.Fast.tw10618094460013458170 : True := True.intro
theorem PySem.W.Fast.tw1240194158867199042 : True := True.intro
theorem PySem.W.Fast.tw6536957846869918282 : True := True.intro
theorem PySem.W.Fast.tw5411821018604553094 : True := True.intro
theorem PySem.W.Fast.tw10711078127164227517 : True := True.intro
theorem PySem.W.Fast.tw3687073240366170014 : True := True.intro
theorem PySem.W.Fast.tw10134644119474304190 : True := True.intro
theorem PySem.W.Fast.tw2141599480740335862 : True := True.intro
theorem PySem.W.Fast.tw11775485922980785511 : True := True.intro
theorem PySem.W.Fast.tw135598107140948976 : True := True.intro
theorem PySem.W.Fast.tw3770496053197333699 : True := True.intro
theorem PySem.W.Fast.tw5636410903092090401 : True := True.intro
theorem PySem.W.Fast.tw1957006058028406488 : True := True.intro
theorem PySem.W.Fast.tw649052401672468678 : True := True.intro
theorem PySem.W.Fast.tw16081957747814349922 : True := True.intro
theorem PySem.W.Fast.tw7490207109553876049 : True := True.intro
theorem PySem.W.Fast.tw6794778581460582048 : True := True.intro
theorem PySem.W.Fast.tw9932874216259995344 : True := True.intro
theorem PySem.W.Fast.tw877399423840094921 : True := True.intro
theorem PySem.W.Fast.tw11005829640696162538 : True := True.intro
theorem PySem.W.Fast.tw2261208770697269211 : True := True.intro
theorem PySem.W.Fast.tw1950256029756866233 : True := True.intro
theorem PySem.W.Fast.tw5840229869789075709 : True := True.intro
theorem PySem.W.Fast.tw1892182573799743354 : True := True.intro
theorem PySem.W.Fast.tw15630189702307240246 : True := True.intro
theorem PySem.W.Fast.tw11683860401216703067 : True := True.intro
theorem PySem.W.Fast.tw3818936665261574016 : True := True.intro
theorem PySem.W.Fast.tw17850692814093566593 : True := True.intro
theorem PySem.W.Fast.tw11396578654013209871 : True := True.intro
theorem PySem.W.Fast.tw11351164164008974053 : True := True.intro
theorem PySem.W.Fast.tw2419897211904859082 : True := True.intro
theorem PySem.W.Fast.tw3550467190791505865 : True := True.intro
theorem PySem.W.Fast.tw16303626788005175576 : True := True.intro
theorem PySem.W.Fast.tw122001612263958422 : True := True.intro
theorem PySem.W.Fast.tw9867626638637260346 : True := True.intro
theorem PySem.W.Fast.tw6593518818591484343 : True := True.intro
theorem PySem.W.Fast.tw12306435659166936200 : True := True.intro
theorem PySem.W.Fast.tw10681971457900941834 : True := True.intro
theorem PySem.W.Fast.tw2795138768013896837 : True := True.intro
theorem PySem.W.Fast.tw15485881401455935400 : True := True.intro
theorem PySem.W.Fast.tw11322528665275696703 : True := True.intro
theorem PySem.W.Fast.tw13607942230712414675 : True := True.intro
theorem PySem.W.Fast.tw12986191936652699253 : True := True.intro
theorem PySem.W.Fast.tw9859358304721839135 : True := True.intro
theorem PySem.W.Fast.tw14867621498872397600 : True := True.intro
theorem PySem.W.Fast.tw8792138861187608781 : True := True.intro
theorem PySem.W.Fast.tw7082283740310610688 : True := True.intro
theorem PySem.W.Fast.tw5452750817369683377 : True := True.intro
theorem PySem.W.Fast.tw14714196881305578368 : True := True.intro
theorem PySem.W.Fast.tw16971041818813233217 : True := True.intro
theorem PySem.W.Fast.tw12794788692817449005 : True := True.intro
theorem PySem.W.Fast.tw5121429468000335665 : True := True.intro
theorem PySem.W.Fast.tw17358229185590740786 : True := True.intro
theorem PySem.W.Fast.tw5612959199161020168 : True := True.intro
theorem PySem.W.Fast.tw15588603505553106073 : True := True.intro
theorem PySem.W.Fast.tw7226872416723798751 : True := True.intro
theorem PySem.W.Fast.tw7870852821023991329 : True := True.intro
theorem PySem.W.Fast.tw10845244627111842520 : True := True.intro
theorem PySem.W.Fast.tw45999472633757235 : True := True.intro
theorem PySem.W.Fast.tw16431682230935110290 : True := True.intro
theorem PySem.W.Fast.tw15854617205652102889 : True := True.intro
theorem PySem.W.Fast.tw17754467244826557117 : True := True.intro
theorem PySem.W.Fast.tw9039611232179311247 : True := True.intro
theorem PySem.W.Fast.tw901900120893377278 : True := True.intro
theorem PySem.W.Fast.tw1285662849636879652 : True := True.intro
theorem PySem.W.Fast.tw799612929714639689 : True := True.intro
theorem PySem.W.Fast.tw5066139828939187360 : True := True.intro
theorem PySem.W.Fast.tw6709995656102563545 : True := True.intro
theorem PySem.W.Fast.tw3936890757408802732 : True := True.intro
theorem PySem.W.Fast.tw4421139192049181150 : True := True.intro
theorem PySem.W.Fast.tw3192177793483759825 : True := True.intro
theorem PySem.W.Fast.tw1450217531481672143 : True := True.intro
theorem PySem.W.Fast.tw7270807461961144818 : True := True.intro
theorem PySem.W.Fast.tw3999014236901531891 : True := True.intro
theorem PySem.W.Fast.tw6099730585928682164 : True := True.intro
theorem PySem.W.Fast.tw10096883085461722178 : True := True.intro
theorem PySem.W.Fast.tw15371480604280960877 : True := True.intro
theorem PySem.W.Fast.tw15577755702869284108 : True := True.intro
theorem PySem.W.Fast.tw8149572363874616212 : True := True.intro
theorem PySem.W.Fast.tw12546979331752198757 : True := True.intro
theorem PySem.W.Fast.tw17089122012640116851 : True := True.intro
theorem PySem.W.Fast.tw16660192526797199798 : True := True.intro
theorem PySem.W.Fast.tw16875616695322735525 : True := True.intro
theorem PySem.W.Fast.tw17332010015720799416 : True := True.intro
theorem PySem.W.Fast.tw6886779400433636008 : True := True.intro
theorem PySem.W.Fast.tw4771311530423742982 : True := True.intro
theorem PySem.W.Fast.tw4659406930333227811 : True := True.intro
theorem PySem.W.Fast.tw6578342041449595003 : True := True.intro
theorem PySem.W.Fast.tw1629518447478989355 : True := True.intro
theorem PySem.W.Fast.tw5996752605291778972 : True := True.intro
theorem PySem.W.Fast.tw2727023673888511841 : True := True.intro
theorem PySem.W.Fast.tw1995437671553546947 : True := True.intro
theorem PySem.W.Fast.tw12062594739962064220 : True := True.intro
theorem PySem.W.Fast.tw1884614135917499802 : True := True.intro
theorem PySem.W.Fast.tw10323930168453093688 : True := True.intro
theorem PySem.W.Fast.tw7207383526752968606 : True := True.intro
theorem PySem.W.Fast.tw15856770297221578396 : True := True.intro
theorem PySem.W.Fast.tw9684705584939684673 : True := True.intro
theorem PySem.W.Fast.tw8947785646136702060 : True := True.intro
theorem PySem.W.Fast.tw8729506700160580414 : True := True.intro
theorem PySem.W.Fast.tw1455241322738684545 : True := True.intro
theorem PySem.W.Fast.tw5457152274388120615 : True := True.intro
theorem PySem.W.Fast.tw1599849821628944202 : True := True.intro
theorem PySem.W.Fast.tw16278612408971228744 : True := True.intro
theorem PySem.W.Fast.tw2883619701052654136 : True := True.intro
theorem PySem.W.Fast.tw11756575731446788590 : True := True.intro
theorem PySem.W.Fast.tw2779721281669517156 : True := True.intro
theorem PySem.W.Fast.tw8872458280396241144 : True := True.intro
theorem PySem.W.Fast.tw1199285806858086667 : True := True.intro
theorem PySem.W.Fast.tw16036702192685463583 : True := True.intro
theorem PySem.W.Fast.tw7892596658880210979 : True := True.intro
theorem PySem.W.Fast.tw4196738667176185580 : True := True.intro
theorem PySem.W.Fast.tw18276096036321581428 : True := True.intro
theorem PySem.W.Fast.tw8181583617330292124 : True := True.intro
theorem PySem.W.Fast.tw18335531104301426934 : True := True.intro
theorem PySem.W.Fast.tw1913257735791956902 : True := True.intro
theorem PySem.W.Fast.tw16952760817876163147 : True := True.intro
theorem PySem.W.Fast.tw11021659825911644079 : True := True.intro
theorem PySem.W.Fast.tw10472210155566158813 : True := True.intro
theorem PySem.W.Fast.tw17485213885669148427 : True := True.intro
theorem PySem.W.Fast.tw15773237756300306046 : True := True.intro
theorem PySem.W.Fast.tw5022929977493296150 : True := True.intro
theorem PySem.W.Fast.tw1392870825916259551 : True := True.intro
theorem PySem.W.Fast.tw6582914880303315057 : True := True.intro
theorem PySem.W.Fast.tw649416599513133271 : True := True.intro
theorem PySem.W.Fast.tw2737349764801113866 : True := True.intro
theorem PySem.W.Fast.tw11188406427237762394 : True := True.intro
theorem PySem.W.Fast.tw9260348030373785829 : True := True.intro
theorem PySem.W.Fast.tw8757150150521911711 : True := True.intro
theorem PySem.W.Fast.tw1802847821899029377 : True := True.intro
theorem PySem.W.Fast.tw12122820592657558492 : True := True.intro
theorem PySem.W.Fast.tw9673906600858708208 : True := True.intro
theorem PySem.W.Fast.tw4076060818320345757 : True := True.intro
theorem PySem.W.Fast.tw2775480105275784948 : True := True.intro
theorem PySem.W.Fast.tw16852604391174197313 : True := True.intro
theorem PySem.W.Fast.tw3667103079147224520 : True := True.intro
theorem PySem.W.Fast.tw11828416591599995782 : True := True.intro
theorem PySem.W.Fast.tw14016911787566601633 : True := True.intro
theorem PySem.W.Fast.tw9752002772120628808 : True := True.intro
theorem PySem.W.Fast.tw15013478965027634258 : True := True.intro
theorem PySem.W.Fast.tw4764613985785516326 : True := True.intro
theorem PySem.W.Fast.tw11505739190613671432 : True := True.intro
theorem PySem.W.Fast.tw15481663106608517156 : True := True.intro
theorem PySem.W.Fast.tw2399817533989010805 : True := True.intro
theorem PySem.W.Fast.tw384786652622844613 : True := True.intro
theorem PySem.W.Fast.tw4492696068157061229 : True := True.intro
theorem PySem.W.Fast.tw18371885486161342070 : True := True.intro
theorem PySem.W.Fast.tw15460060553751019802 : True := True.intro
theorem PySem.W.Fast.tw4436590175707116229 : True := True.intro
theorem PySem.W.Fast.tw9273995541289187780 : True := True.intro
theorem PySem.W.Fast.tw15532609348310448586 : True := True.intro
theorem PySem.W.Fast.tw8182297335170050888 : True := True.intro
theorem PySem.W.Fast.tw13564489404575005676 : True := True.intro
theorem PySem.W.Fast.tw5605367268392257037 : True := True.intro
theorem PySem.W.Fast.tw4687611254969154297 : True := True.intro
theorem PySem.W.Fast.tw3785362302330833275 : True := True.intro
theorem PySem.W.Fast.tw4805560641867092496 : True := True.intro
theorem PySem.W.Fast.tw9305400313291703915 : True := True.intro
theorem PySem.W.Fast.tw6582095610106457859 : True := True.intro
theorem PySem.W.Fast.tw16875787087574362693 : True := True.intro
theorem PySem.W.Fast.tw10618250664060871238 : True := True.intro
theorem PySem.W.Fast.tw4942034083775658900 : True := True.intro
theorem PySem.W.Fast.tw14143941058695101272 : True := True.intro
theorem PySem.W.Fast.tw14607287167198717876 : True := True.intro
theorem PySem.W.Fast.tw11868761378134506853 : True := True.intro
theorem PySem.W.Fast.tw8277003676948186223 : True := True.intro
theorem PySem.W.Fast.tw10877851095735514203 : True := True.intro
theorem PySem.W.Fast.tw1622018102620898785 : True := True.intro
theorem PySem.W.Fast.tw170297354971108816 : True := True.intro
theorem PySem.W.Fast.tw14411938908992077224 : True := True.intro
theorem PySem.W.Fast.tw4983018169804017354 : True := True.intro
theorem PySem.W.Fast.tw15927716774267289528 : True := True.intro
theorem PySem.W.Fast.tw10641789690199432479 : True := True.intro
theorem PySem.W.Fast.tw8571743359373150450 : True := True.intro
theorem PySem.W.Fast.tw8056600113990008244 : True := True.intro
theorem PySem.W.Fast.tw13005732279803556146 : True := True.intro
theorem PySem.W.Fast.tw2857700782426963425 : True := True.intro
theorem PySem.W.Fast.tw7116913539222692843 : True := True.intro
theorem PySem.W.Fast.tw8261054218581486320 : True := True.intro
theorem PySem.W.Fast.tw1467589827840234490 : True := True.intro
theorem PySem.W.Fast.tw15336235296351113300 : True := True.intro
theorem PySem.W.Fast.tw3028051614526138715 : True := True.intro
theorem PySem.W.Fast.tw17779853171165592268 : True := True.intro
theorem PySem.W.Fast.tw13587421094743267422 : True := True.intro
theorem PySem.W.Fast.tw1270996685582256605 : True := True.intro
theorem PySem.W.Fast.tw6730347840133119711 : True := True.intro
theorem PySem.W.Fast.tw16759204739902157997 : True := True.intro
theorem PySem.W.Fast.tw5881201956565822038 : True := True.intro
theorem PySem.W.Fast.tw5217335032896425400 : True := True.intro
theorem PySem.W.Fast.tw7537200027891743072 : True := True.intro
theorem PySem.W.Fast.tw1143187261406877408 : True := True.intro
theorem PySem.W.Fast.tw8019266477021949503 : True := True.intro
theorem PySem.W.Fast.tw10459562487144036406 : True := True.intro
theorem PySem.W.Fast.tw10114391242686830166 : True := True.intro
theorem PySem.W.Fast.tw409185772936266336 : True := True.intro
theorem PySem.W.Fast.tw6464676066689745486 : True := True.intro
theorem PySem.W.Fast.tw5814897123092373479 : True := True.intro
theorem PySem.W.Fast.tw1017950704669790393 : True := True.intro
theorem PySem.W.Fast.tw8161252858542815898 : True := True.intro
theorem PySem.W.Fast.tw9235041581171482437 : True := True.intro
theorem PySem.W.Fast.tw10160137025667549120 : True := True.intro
theorem PySem.W.Fast.tw3300062518663341877 : True := True.intro
theorem PySem.W.Fast.tw12470507393676697350 : True := True.intro
theorem PySem.W.Fast.tw14080800592359689357 : True := True.intro
theorem PySem.W.Fast.tw3314628884573596077 : True := True.intro
theorem PySem.W.Fast.tw10003028396402098616 : True := True.intro
theorem PySem.W.Fast.tw11991358387905607082 : True := True.intro
theorem PySem.W.Fast.tw573114489908472067 : True := True.intro
theorem PySem.W.Fast.tw13691026837117176943 : True := True.intro
theorem PySem.W.Fast.tw7472962198703378037 : True := True.intro
theorem PySem.W.Fast.tw15777476743670400270 : True := True.intro
theorem PySem.W.Fast.tw16001218416613138905 : True := True.intro
theorem PySem.W.Fast.tw11670462764428182203 : True := True.intro
theorem PySem.W.Fast.tw15914763497935266817 : True := True.intro
theorem PySem.W.Fast.tw3673147029866482154 : True := True.intro
theorem PySem.W.Fast.tw10844357509912613984 : True := True.intro
theorem PySem.W.Fast.tw9866699600829180060 : True := True.intro
theorem PySem.W.Fast.tw10754902517441303619 : True := True.intro
theorem PySem.W.Fast.tw3676757156299490940 : True := True.intro
theorem PySem.W.Fast.tw17460819289694709778 : True := True.intro
theorem PySem.W.Fast.tw10525833326043576474 : True := True.intro
theorem PySem.W.Fast.tw17030006418144495679 : True := True.intro
theorem PySem.W.Fast.tw10962594262723448713 : True := True.intro
theorem PySem.W.Fast.tw12901926889908537368 : True := True.intro
theorem PySem.W.Fast.tw16319656847718285822 : True := True.intro
theorem PySem.W.Fast.tw9081662347521497260 : True := True.intro
theorem PySem.W.Fast.tw2124842077878062912 : True := True.intro
theorem PySem.W.Fast.tw741882978124056991 : True := True.intro
theorem PySem.W.Fast.tw9074726779170406268 : True := True.intro
theorem PySem.W.Fast.tw6667141880340024285 : True := True.intro
theorem PySem.W.Fast.tw2453887492324487382 : True := True.intro
theorem PySem.W.Fast.tw7196950021240751080 : True := True.intro
theorem PySem.W.Fast.tw1722072614808742702 : True := True.intro
theorem PySem.W.Fast.tw17855908891728320134 : True := True.intro
theorem PySem.W.Fast.tw10721653361219640081 : True := True.intro
theorem PySem.W.Fast.tw1794854106123204451 : True := True.intro
theorem PySem.W.Fast.tw8783193393616231333 : True := True.intro
theorem PySem.W.Fast.tw13144423709138195707 : True := True.intro
theorem PySem.W.Fast.tw8993632505764005951 : True := True.intro
theorem PySem.W.Fast.tw13331744189249646381 : True := True.intro
theorem PySem.W.Fast.tw16319649166207317087 : True := True.intro
theorem PySem.W.Fast.tw15046271462702272663 : True := True.intro
theorem PySem.W.Fast.tw18024224010213461055 : True := True.intro
theorem PySem.W.Fast.tw15075315193724746722 : True := True.intro
theorem PySem.W.Fast.tw12983366100739690412 : True := True.intro
theorem PySem.W.Fast.tw5185637018860541317 : True := True.intro
theorem PySem.W.Fast.tw1353769331621577965 : True := True.intro
theorem PySem.W.Fast.tw14777974971784774833 : True := True.intro
theorem PySem.W.Fast.tw1039615225132964692 : True := True.intro
theorem PySem.W.Fast.tw7953896471740188910 : True := True.intro
theorem PySem.W.Fast.tw5182314576412928313 : True := True.intro
theorem PySem.W.Fast.tw17260569617792130308 : True := True.intro
theorem PySem.W.Fast.tw8644964043723301236 : True := True.intro
theorem PySem.W.Fast.tw153265177917612633 : True := True.intro
theorem PySem.W.Fast.tw5661909506424621340 : True := True.intro
theorem PySem.W.Fast.tw11649768818374706216 : True := True.intro
theorem PySem.W.Fast.tw9030918279486467946 : True := True.intro
theorem PySem.W.Fast.tw16118927469310678635 : True := True.intro
theorem PySem.W.Fast.tw9988732084152487084 : True := True.intro
theorem PySem.W.Fast.tw10106208646652338797 : True := True.intro
theorem PySem.W.Fast.tw8558841630137368926 : True := True.intro
theorem PySem.W.Fast.tw3000088567488108552 : True := True.intro
theorem PySem.W.Fast.tw8206732456165091459 : True := True.intro
theorem PySem.W.Fast.tw14566336749970955500 : True := True.intro
theorem PySem.W.Fast.tw3479193370546776514 : True := True.intro
theorem PySem.W.Fast.tw1888743476195139172 : True := True.intro
theorem PySem.W.Fast.tw5559604932432775602 : True := True.intro
theorem PySem.W.Fast.tw12602690994646725374 : True := True.intro
theorem PySem.W.Fast.tw1222171566930366056 : True := True.intro
theorem PySem.W.Fast.tw5768386736257497165 : True := True.intro
theorem PySem.W.Fast.tw8908659593769870899 : True := True.intro
theorem PySem.W.Fast.tw11088736519831127618 : True := True.intro
theorem PySem.W.Fast.tw3257326877541472148 : True := True.intro
theorem PySem.W.Fast.tw17801786491120190595 : True := True.intro
theorem PySem.W.Fast.tw7070181221435482858 : True := True.intro
theorem PySem.W.Fast.tw10997667201714282720 : True := True.intro
theorem PySem.W.Fast.tw14057765237291611783 : True := True.intro
theorem PySem.W.Fast.tw14976916000313172727 : True := True.intro
theorem PySem.W.Fast.tw10291011379508026453 : True := True.intro
theorem PySem.W.Fast.tw2435059304140946491 : True := True.intro
theorem PySem.W.Fast.tw4901206142766408840 : True := True.intro
theorem PySem.W.Fast.tw6972418550861385280 : True := True.intro
theorem PySem.W.Fast.tw14447238083776328854 : True := True.intro
theorem PySem.W.Fast.tw18363273907646867433 : True := True.intro
theorem PySem.W.Fast.tw6262411380410042627 : True := True.intro
theorem PySem.W.Fast.tw17252189365599242124 : True := True.intro
theorem PySem.W.Fast.tw15315921218950007027 : True := True.intro
theorem PySem.W.Fast.tw521361279185248425 : True := True.intro
theorem PySem.W.Fast.tw17584504258233240080 : True := True.intro
theorem PySem.W.Fast.tw16527163919557820388 : True := True.intro
theorem PySem.W.Fast.tw13969321450491446318 : True := True.intro
theorem PySem.W.Fast.tw13061977877396989124 : True := True.intro
theorem PySem.W.Fast.tw191526675982565002 : True := True.intro
theorem PySem.W.Fast.tw13597462322061927264 : True := True.intro
theorem PySem.W.Fast.tw8029000361927200127 : True := True.intro
theorem PySem.W.Fast.tw17398610115583676535 : True := True.intro
theorem PySem.W.Fast.tw6233596701157242852 : True := True.intro
theorem PySem.W.Fast.tw5677402908454208610 : True := True.intro
theorem PySem.W.Fast.tw12358390498491865117 : True := True.intro
theorem PySem.W.Fast.tw3800381793832909281 : True := True.intro
theorem PySem.W.Fast.tw17039981819710288618 : True := True.intro
theorem PySem.W.Fast.tw3529265920778432869 : True := True.intro
theorem PySem.W.Fast.tw3833565118493339441 : True := True.intro
theorem PySem.W.Fast.tw1764666709666118353 : True := True.intro
theorem PySem.W.Fast.tw8357834441107677580 : True := True.intro
theorem PySem.W.Fast.tw4822538715385098433 : True := True.intro
theorem PySem.W.Fast.tw14714847493599100478 : True := True.intro
theorem PySem.W.Fast.tw1640783550895135500 : True := True.intro
theorem PySem.W.Fast.tw9726500509561999266 : True := True.intro
theorem PySem.W.Fast.tw6641787257956872826 : True := True.intro
theorem PySem.W.Fast.tw4885176560401375699 : True := True.intro
theorem PySem.W.Fast.tw7318017141881003330 : True := True.intro
theorem PySem.W.Fast.tw7005558139748799289 : True := True.intro
theorem PySem.W.Fast.tw3063011414847453317 : True := True.intro
theorem PySem.W.Fast.tw10642474113113164247 : True := True.intro
theorem PySem.W.Fast.tw1292644448470022906 : True := True.intro
theorem PySem.W.Fast.tw13434955735334127354 : True := True.intro
theorem PySem.W.Fast.tw12607790234210497182 : True := True.intro
theorem PySem.W.Fast.tw767217293570375943 : True := True.intro
theorem PySem.W.Fast.tw6670522220250883464 : True := True.intro
theorem PySem.W.Fast.tw5536011256999258521 : True := True.intro
theorem PySem.W.Fast.tw3936475772388814024 : True := True.intro
theorem PySem.W.Fast.tw14307881747514677037 : True := True.intro
theorem PySem.W.Fast.tw7513038817665336712 : True := True.intro
theorem PySem.W.Fast.tw7705292084249263663 : True := True.intro
theorem PySem.W.Fast.tw6798421051314337459 : True := True.intro
theorem PySem.W.Fast.tw8170638303867166229 : True := True.intro
theorem PySem.W.Fast.tw3558903033670558452 : True := True.intro
theorem PySem.W.Fast.tw12217696925489976293 : True := True.intro
theorem PySem.W.Fast.tw16997559406118039086 : True := True.intro
theorem PySem.W.Fast.tw3066143688325192215 : True := True.intro
theorem PySem.W.Fast.tw9880547098245342521 : True := True.intro
theorem PySem.W.Fast.tw15867494297402131992 : True := True.intro
theorem PySem.W.Fast.tw11898623255615669312 : True := True.intro
theorem PySem.W.Fast.tw14123875684225370314 : True := True.intro
theorem PySem.W.Fast.tw2627202937721915518 : True := True.intro
theorem PySem.W.Fast.tw3956689895538788225 : True := True.intro
theorem PySem.W.Fast.tw4549751208132186731 : True := True.intro
theorem PySem.W.Fast.tw11301789048239709468 : True := True.intro
theorem PySem.W.Fast.tw14077421336155336526 : True := True.intro
theorem PySem.W.Fast.tw724395940784199933 : True := True.intro
theorem PySem.W.Fast.tw8149735614532528470 : True := True.intro
theorem PySem.W.Fast.tw17916898215873038873 : True := True.intro
theorem PySem.W.Fast.tw16827276326888977618 : True := True.intro
theorem PySem.W.Fast.tw9440771582101842661 : True := True.intro
theorem PySem.W.Fast.tw5785810018417779973 : True := True.intro
theorem PySem.W.Fast.tw6508669455487741080 : True := True.intro
theorem PySem.W.Fast.tw752519071528105622 : True := True.intro
theorem PySem.W.Fast.tw7847029125909766724 : True := True.intro
theorem PySem.W.Fast.tw9690874128654186016 : True := True.intro
theorem PySem.W.Fast.tw3731213743165239944 : True := True.intro
theorem PySem.W.Fast.tw13386485797481179694 : True := True.intro
theorem PySem.W.Fast.tw2046896024241731770 : True := True.intro
theorem PySem.W.Fast.tw6322611234307548018 : True := True.intro
theorem PySem.W.Fast.tw16738031006561418240 : True := True.intro
theorem PySem.W.Fast.tw9912827597370483461 : True := True.intro
theorem PySem.W.Fast.tw18271844071252605995 : True := True.intro
theorem PySem.W.Fast.tw9582129763798271253 : True := True.intro
theorem PySem.W.Fast.tw14618871169591933618 : True := True.intro
theorem PySem.W.Fast.tw12125036198252460440 : True := True.intro
theorem PySem.W.Fast.tw3642152131013914165 : True := True.intro
theorem PySem.W.Fast.tw3392279415503983844 : True := True.intro
theorem PySem.W.Fast.tw1529332369256399663 : True := True.intro
theorem PySem.W.Fast.tw13483016526370449623 : True := True.intro
theorem PySem.W.Fast.tw3312343228121048716 : True := True.intro
theorem PySem.W.Fast.tw17387440279416042130 : True := True.intro
theorem PySem.W.Fast.tw2996723037158106344 : True := True.intro
theorem PySem.W.Fast.tw1553341701056622974 : True := True.intro
theorem PySem.W.Fast.tw7403955896972516288 : True := True.intro
theorem PySem.W.Fast.tw9682351382243989066 : True := True.intro
theorem PySem.W.Fast.tw7695730732524102112 : True := True.intro
theorem PySem.W.Fast.tw6061588755722842821 : True := True.intro
theorem PySem.W.Fast.tw15127416092633581496 : True := True.intro
theorem PySem.W.Fast.tw8498691609104989431 : True := True.intro
theorem PySem.W.Fast.tw13823133954592937258 : True := True.intro
theorem PySem.W.Fast.tw14071236028375556005 : True := True.intro
theorem PySem.W.Fast.tw2708461343810538719 : True := True.intro
theorem PySem.W.Fast.tw3598127069173352765 : True := True.intro
theorem PySem.W.Fast.tw7495023721545900461 : True := True.intro
theorem PySem.W.Fast.tw13424705387964353962 : True := True.intro
theorem PySem.W.Fast.tw10223485197233870780 : True := True.intro
theorem PySem.W.Fast.tw9552841616028416941 : True := True.intro
theorem PySem.W.Fast.tw17608466752355061507 : True := True.intro
theorem PySem.W.Fast.tw9067544148396825618 : True := True.intro
theorem PySem.W.Fast.tw14378325699591486474 : True := True.intro
theorem PySem.W.Fast.tw770469149831635409 : True := True.intro
theorem PySem.W.Fast.tw9409228301138827181 : True := True.intro
theorem PySem.W.Fast.tw14342985873796677299 : True := True.intro
theorem PySem.W.Fast.tw9357391358278944937 : True := True.intro
theorem PySem.W.Fast.tw12954949898799661473 : True := True.intro
theorem PySem.W.Fast.tw194927842670011700 : True := True.intro
theorem PySem.W.Fast.tw13610042704521988352 : True := True.intro
theorem PySem.W.Fast.tw11581557956852015339 : True := True.intro
theorem PySem.W.Fast.tw18196052342381673007 : True := True.intro
theorem PySem.W.Fast.tw16651484176808664341 : True := True.intro
theorem PySem.W.Fast.tw4993502914343138862 : True := True.intro
theorem PySem.W.Fast.tw6696095770033717694 : True := True.intro
theorem PySem.W.Fast.tw7529698200393942556 : True := True.intro
theorem PySem.W.Fast.tw1028378839166395498 : True := True.intro
theorem PySem.W.Fast.tw13127547176289154824 : True := True.intro
theorem PySem.W.Fast.tw7784978948260789531 : True := True.intro
theorem PySem.W.Fast.tw18352763444966472524 : True := True.intro
theorem PySem.W.Fast.tw15443898831285554171 : True := True.intro
theorem PySem.W.Fast.tw18077308699515010574 : True := True.intro
theorem PySem.W.Fast.tw11365323142954849311 : True := True.intro
theorem PySem.W.Fast.tw11156502576466352688 : True := True.intro
theorem PySem.W.Fast.tw10290518083095179299 : True := True.intro
theorem PySem.W.Fast.tw9847668915460720654 : True := True.intro
theorem PySem.W.Fast.tw7565871874938907634 : True := True.intro
theorem PySem.W.Fast.tw7332465861014662290 : True := True.intro
theorem PySem.W.Fast.tw5310235210006953854 : True := True.intro
theorem PySem.W.Fast.tw16143926077256003311 : True := True.intro
theorem PySem.W.Fast.tw14945557386722419209 : True := True.intro
theorem PySem.W.Fast.tw8868249327287358978 : True := True.intro
theorem PySem.W.Fast.tw10740266038033362676 : True := True.intro
theorem PySem.W.Fast.tw141592176016131603 : True := True.intro
theorem PySem.W.Fast.tw1703684382384326180 : True := True.intro
theorem PySem.W.Fast.tw913102826303997881 : True := True.intro
theorem PySem.W.Fast.tw3069794988080760523 : True := True.intro
theorem PySem.W.Fast.tw16957627487551189696 : True := True.intro
theorem PySem.W.Fast.tw6943690027540358997 : True := True.intro
theorem PySem.W.Fast.tw5913895942767487194 : True := True.intro
theorem PySem.W.Fast.tw7051404388687216121 : True := True.intro
theorem PySem.W.Fast.tw10443730165061392127 : True := True.intro
theorem PySem.W.Fast.tw1423012054745099747 : True := True.intro
theorem PySem.W.Fast.tw10419381488269141722 : True := True.intro
theorem PySem.W.Fast.tw9304311648266832790 : True := True.intro
theorem PySem.W.Fast.tw16026446662421815163 : True := True.intro
theorem PySem.W.Fast.tw12848247320964239085 : True := True.intro
theorem PySem.W.Fast.tw4483365501912866119 : True := True.intro
theorem PySem.W.Fast.tw17977821378286695367 : True := True.intro
theorem PySem.W.Fast.tw7793359810143843053 : True := True.intro
theorem PySem.W.Fast.tw14304326967499520669 : True := True.intro
theorem PySem.W.Fast.tw6169951701810597071 : True := True.intro
theorem PySem.W.Fast.tw13773816173766909839 : True := True.intro
theorem PySem.W.Fast.tw9963489222939812232 : True := True.intro
theorem PySem.W.Fast.tw14520743263643583683 : True := True.intro
theorem PySem.W.Fast.tw16454101890301829442 : True := True.intro
theorem PySem.W.Fast.tw10368578752725171129 : True := True.intro
theorem PySem.W.Fast.tw13166423761445417490 : True := True.intro
theorem PySem.W.Fast.tw18283392251055070140 : True := True.intro
theorem PySem.W.Fast.tw108111293131090528 : True := True.intro
theorem PySem.W.Fast.tw4507241548309669681 : True := True.intro
theorem PySem.W.Fast.tw12579370859332023120 : True := True.intro
theorem PySem.W.Fast.tw14654209355201370738 : True := True.intro
theorem PySem.W.Fast.tw1725059876513661120 : True := True.intro
theorem PySem.W.Fast.tw16016014206990595716 : True := True.intro
theorem PySem.W.Fast.tw18142747267073906416 : True := True.intro
theorem PySem.W.Fast.tw11618937649417673621 : True := True.intro
theorem PySem.W.Fast.tw3183633115254198125 : True := True.intro
theorem PySem.W.Fast.tw1256391193009632084 : True := True.intro
theorem PySem.W.Fast.tw1249267361508584603 : True := True.intro
theorem PySem.W.Fast.tw6282779727148775501 : True := True.intro
theorem PySem.W.Fast.tw13024429819155380383 : True := True.intro
theorem PySem.W.Fast.tw15908694360061102623 : True := True.intro
theorem PySem.W.Fast.tw16847461024755215276 : True := True.intro
theorem PySem.W.Fast.tw16104848360106814279 : True := True.intro
theorem PySem.W.Fast.tw10830276173371629481 : True := True.intro
theorem PySem.W.Fast.tw17964029346791078871 : True := True.intro
theorem PySem.W.Fast.tw13064099967296257359 : True := True.intro
theorem PySem.W.Fast.tw2336604485062457984 : True := True.intro
theorem PySem.W.Fast.tw6897833179693126600 : True := True.intro
theorem PySem.W.Fast.tw1090922479538417150 : True := True.intro
theorem PySem.W.Fast.tw517647046302386262 : True := True.intro
theorem PySem.W.Fast.tw4758724999329602133 : True := True.intro
theorem PySem.W.Fast.tw7671020483584845036 : True := True.intro
theorem PySem.W.Fast.tw3171668239794406659 : True := True.intro
theorem PySem.W.Fast.tw4301205989305923184 : True := True.intro
theorem PySem.W.Fast.tw12932759976304393016 : True := True.intro
theorem PySem.W.Fast.tw14005980814696446602 : True := True.intro
theorem PySem.W.Fast.tw11531675874787499506 : True := True.intro
theorem PySem.W.Fast.tw12061764092191051821 : True := True.intro
theorem PySem.W.Fast.tw70551535471726486 : True := True.intro
theorem PySem.W.Fast.tw14703583155908989188 : True := True.intro
theorem PySem.W.Fast.tw10806875929598721306 : True := True.intro
theorem PySem.W.Fast.tw11300674085196136139 : True := True.intro
theorem PySem.W.Fast.tw1652356401872914461 : True := True.intro
theorem PySem.W.Fast.tw7875824340324675495 : True := True.intro
theorem PySem.W.Fast.tw14485469934305986729 : True := True.intro
theorem PySem.W.Fast.tw12849272668522342516 : True := True.intro
theorem PySem.W.Fast.tw3843101085619140008 : True := True.intro
theorem PySem.W.Fast.tw1398369342859077092 : True := True.intro
theorem PySem.W.Fast.tw6253920031956570444 : True := True.intro
theorem PySem.W.Fast.tw655829712168449691 : True := True.intro
theorem PySem.W.Fast.tw3768027564994360256 : True := True.intro
theorem PySem.W.Fast.tw14793982116533472525 : True := True.intro
theorem PySem.W.Fast.tw17792808693119722867 : True := True.intro
theorem PySem.W.Fast.tw5056365290997677149 : True := True.intro
theorem PySem.W.Fast.tw14196059898052792766 : True := True.intro
theorem PySem.W.Fast.tw9085193906963041673 : True := True.intro
theorem PySem.W.Fast.tw4525200487230516425 : True := True.intro
theorem PySem.W.Fast.tw3226560053356815065 : True := True.intro
theorem PySem.W.Fast.tw17318809855477887792 : True := True.intro
theorem PySem.W.Fast.tw864165773405689996 : True := True.intro
theorem PySem.W.Fast.tw15460874582662303391 : True := True.intro
theorem PySem.W.Fast.tw11666524016088498473 : True := True.intro
theorem PySem.W.Fast.tw18197189892802784642 : True := True.intro
theorem PySem.W.Fast.tw10969163243690045388 : True := True.intro
theorem PySem.W.Fast.tw7272048952227321601 : True := True.intro
theorem PySem.W.Fast.tw1334557637211805896 : True := True.intro
theorem PySem.W.Fast.tw2589040516059151551 : True := True.intro
theorem PySem.W.Fast.tw6104082810266481659 : True := True.intro
theorem PySem.W.Fast.tw9710953318983470557 : True := True.intro
theorem PySem.W.Fast.tw14328361218333868362 : True := True.intro
theorem PySem.W.Fast.tw11366063962684292670 : True := True.intro
theorem PySem.W.Fast.tw6475464400491790914 : True := True.intro
theorem PySem.W.Fast.tw5743789977732721872 : True := True.intro
theorem PySem.W.Fast.tw9192630711071327619 : True := True.intro
theorem PySem.W.Fast.tw13667003729128483508 : True := True.intro
theorem PySem.W.Fast.tw6699337937795388410 : True := True.intro
theorem PySem.W.Fast.tw5788028208829501945 : True := True.intro
theorem PySem.W.Fast.tw1667712821901470461 : True := True.intro
theorem PySem.W.Fast.tw17039738767092570041 : True := True.intro
theorem PySem.W.Fast.tw14631379037638365980 : True := True.intro
theorem PySem.W.Fast.tw3958397981247440237 : True := True.intro
theorem PySem.W.Fast.tw16300131659155137520 : True := True.intro
theorem PySem.W.Fast.tw13890952813803637196 : True := True.intro
theorem PySem.W.Fast.tw11670903799733078366 : True := True.intro
theorem PySem.W.Fast.tw8091055534926424705 : True := True.intro
theorem PySem.W.Fast.tw12835867251746812230 : True := True.intro
theorem PySem.W.Fast.tw2115812919644060376 : True := True.intro
theorem PySem.W.Fast.tw1780412399239229069 : True := True.intro
theorem PySem.W.Fast.tw10427676864355994154 : True := True.intro
theorem PySem.W.Fast.tw17982001272764002665 : True := True.intro
theorem PySem.W.Fast.tw10683352751456242636 : True := True.intro
theorem PySem.W.Fast.tw11733878717863603603 : True := True.intro
theorem PySem.W.Fast.tw11279331575457098869 : True := True.intro
theorem PySem.W.Fast.tw6616080110593374418 : True := True.intro
theorem PySem.W.Fast.tw2356185216841871552 : True := True.intro
theorem PySem.W.Fast.tw5345469964472454174 : True := True.intro
theorem PySem.W.Fast.tw6805647515926130586 : True := True.intro
theorem PySem.W.Fast.tw1547996929429656440 : True := True.intro
theorem PySem.W.Fast.tw628044783914821848 : True := True.intro
theorem PySem.W.Fast.tw16036681454526713002 : True := True.intro
theorem PySem.W.Fast.tw17620950678681770358 : True := True.intro
theorem PySem.W.Fast.tw7437407954969687205 : True := True.intro
theorem PySem.W.Fast.tw17435510763040344956 : True := True.intro
theorem PySem.W.Fast.tw16321911678892822577 : True := True.intro
theorem PySem.W.Fast.tw16524460572248873376 : True := True.intro
theorem PySem.W.Fast.tw15205619201912205306 : True := True.intro
theorem PySem.W.Fast.tw5260731067724741125 : True := True.intro
theorem PySem.W.Fast.tw6067775495695414700 : True := True.intro
theorem PySem.W.Fast.tw12586062540420431723 : True := True.intro
theorem PySem.W.Fast.tw8074792930474500623 : True := True.intro
theorem PySem.W.Fast.tw6429367167070228810 : True := True.intro
theorem PySem.W.Fast.tw2150688220187940869 : True := True.intro
theorem PySem.W.Fast.tw11146457578535589854 : True := True.intro
theorem PySem.W.Fast.tw5743709589818523886 : True := True.intro
theorem PySem.W.Fast.tw12763907522139952340 : True := True.intro
theorem PySem.W.Fast.tw1012018639271980491 : True := True.intro
theorem PySem.W.Fast.tw16031167938991723486 : True := True.intro
theorem PySem.W.Fast.tw3710817442788775703 : True := True.intro
theorem PySem.W.Fast.tw17207339299149402980 : True := True.intro
theorem PySem.W.Fast.tw6569611901992416870 : True := True.intro
theorem PySem.W.Fast.tw14665781242333073271 : True := True.intro
theorem PySem.W.Fast.tw6125840462031247210 : True := True.intro
theorem PySem.W.Fast.tw8839523410364709236 : True := True.intro
theorem PySem.W.Fast.tw3951692227276463838 : True := True.intro
theorem PySem.W.Fast.tw6394280885536102535 : True := True.intro
theorem PySem.W.Fast.tw13632810575985844811 : True := True.intro
theorem PySem.W.Fast.tw14108312701214449565 : True := True.intro
theorem PySem.W.Fast.tw13475337331864079764 : True := True.intro
theorem PySem.W.Fast.tw10883799207226546792 : True := True.intro
theorem PySem.W.Fast.tw14928997491549302498 : True := True.intro
theorem PySem.W.Fast.tw5315838531663005714 : True := True.intro
theorem PySem.W.Fast.tw11532437893912317869 : True := True.intro
theorem PySem.W.Fast.tw3163325653801304500 : True := True.intro
theorem PySem.W.Fast.tw14784759615302456823 : True := True.intro
theorem PySem.W.Fast.tw16412440056815258341 : True := True.intro
theorem PySem.W.Fast.tw7360437563509365474 : True := True.intro
theorem PySem.W.Fast.tw8970025929579218750 : True := True.intro
theorem PySem.W.Fast.tw5652972913323374089 : True := True.intro
theorem PySem.W.Fast.tw5817498963551830792 : True := True.intro
theorem PySem.W.Fast.tw16700907782063941024 : True := True.intro
theorem PySem.W.Fast.tw8181096792385024003 : True := True.intro
theorem PySem.W.Fast.tw16301543203641502232 : True := True.intro
theorem PySem.W.Fast.tw10977627423107541992 : True := True.intro
theorem PySem.W.Fast.tw16959146956465484852 : True := True.intro
theorem PySem.W.Fast.tw2515075809840219429 : True := True.intro
theorem PySem.W.Fast.tw16981592877026324959 : True := True.intro
theorem PySem.W.Fast.tw17976104159588831965 : True := True.intro
theorem PySem.W.Fast.tw3562074560731693421 : True := True.intro
theorem PySem.W.Fast.tw2132699742314323538 : True := True.intro
theorem PySem.W.Fast.tw7752621409359452968 : True := True.intro
theorem PySem.W.Fast.tw12476992164380856613 : True := True.intro
theorem PySem.W.Fast.tw10470562187897516300 : True := True.intro
theorem PySem.W.Fast.tw8846517691742214487 : True := True.intro
theorem PySem.W.Fast.tw12239605531988735470 : True := True.intro
theorem PySem.W.Fast.tw11957918970469824412 : True := True.intro
theorem PySem.W.Fast.tw16003456107850501386 : True := True.intro
theorem PySem.W.Fast.tw18097655904252067702 : True := True.intro
theorem PySem.W.Fast.tw14126259535999227442 : True := True.intro
theorem PySem.W.Fast.tw6821160577828634207 : True := True.intro
theorem PySem.W.Fast.tw15044786479380719592 : True := True.intro
theorem PySem.W.Fast.tw17953262143966573163 : True := True.intro
theorem PySem.W.Fast.tw10998996337705642576 : True := True.intro
theorem PySem.W.Fast.tw6364476453189665761 : True := True.intro
theorem PySem.W.Fast.tw3552484568749519948 : True := True.intro
theorem PySem.W.Fast.tw441597995969165299 : True := True.intro
theorem PySem.W.Fast.tw14512514098659181414 : True := True.intro
theorem PySem.W.Fast.tw14713482624496366421 : True := True.intro
theorem PySem.W.Fast.tw7427528224398306086 : True := True.intro
theorem PySem.W.Fast.tw9866928926104911435 : True := True.intro
theorem PySem.W.Fast.tw4169180729880825077 : True := True.intro
theorem PySem.W.Fast.tw3415121290938602867 : True := True.intro
theorem PySem.W.Fast.tw4706865368938514283 : True := True.intro
theorem PySem.W.Fast.tw10967284771187178997 : True := True.intro
theorem PySem.W.Fast.tw16798613112573461489 : True := True.intro
theorem PySem.W.Fast.tw3425838044333088877 : True := True.intro
theorem PySem.W.Fast.tw17155646829911135536 : True := True.intro
theorem PySem.W.Fast.tw16585255495960325375 : True := True.intro
theorem PySem.W.Fast.tw2289294277104839829 : True := True.intro
theorem PySem.W.Fast.tw15504344541002727421 : True := True.intro
theorem PySem.W.Fast.tw4462063683618523802 : True := True.intro
theorem PySem.W.Fast.tw4673809681853601920 : True := True.intro
theorem PySem.W.Fast.tw6631766496965787472 : True := True.intro
theorem PySem.W.Fast.tw6319779534095435151 : True := True.intro
theorem PySem.W.Fast.tw13403555938335769690 : True := True.intro
theorem PySem.W.Fast.tw17246569953787046195 : True := True.intro
theorem PySem.W.Fast.tw5967568521562483892 : True := True.intro
theorem PySem.W.Fast.tw13548574761167283881 : True := True.intro
theorem PySem.W.Fast.tw13091089815358802228 : True := True.intro
theorem PySem.W.Fast.tw10512431256896535162 : True := True.intro
theorem PySem.W.Fast.tw6293749996897105076 : True := True.intro
theorem PySem.W.Fast.tw6852380844777850645 : True := True.intro
theorem PySem.W.Fast.tw3551456694028765473 : True := True.intro
theorem PySem.W.Fast.tw7109085949619179425 : True := True.intro
theorem PySem.W.Fast.tw14389559847516130544 : True := True.intro
theorem PySem.W.Fast.tw14091252777042090836 : True := True.intro
theorem PySem.W.Fast.tw3844821217741978949 : True := True.intro
theorem PySem.W.Fast.tw15249099597494514010 : True := True.intro
theorem PySem.W.Fast.tw17071886900775561095 : True := True.intro
theorem PySem.W.Fast.tw17200008806681603775 : True := True.intro
theorem PySem.W.Fast.tw46838822796953221 : True := True.intro
theorem PySem.W.Fast.tw12735246369553058678 : True := True.intro
theorem PySem.W.Fast.tw7020079325906410975 : True := True.intro
theorem PySem.W.Fast.tw4839032398253090116 : True := True.intro
theorem PySem.W.Fast.tw8907009954815102575 : True := True.intro
theorem PySem.W.Fast.tw1872955219218089300 : True := True.intro
theorem PySem.W.Fast.tw15750450968689179035 : True := True.intro
theorem PySem.W.Fast.tw5178453385414571964 : True := True.intro
theorem PySem.W.Fast.tw13053327629135320630 : True := True.intro
theorem PySem.W.Fast.tw416497190584860959 : True := True.intro
theorem PySem.W.Fast.tw14290497839910802635 : True := True.intro
theorem PySem.W.Fast.tw1268999626751518881 : True := True.intro
theorem PySem.W.Fast.tw6460033155152684878 : True := True.intro
theorem PySem.W.Fast.tw17191782241054066700 : True := True.intro
theorem PySem.W.Fast.tw1444060067966729423 : True := True.intro
theorem PySem.W.Fast.tw8150680936614410949 : True := True.intro
theorem PySem.W.Fast.tw8039272456587801587 : True := True.intro
theorem PySem.W.Fast.tw8374084706378386674 : True := True.intro
theorem PySem.W.Fast.tw9849217064584831114 : True := True.intro
theorem PySem.W.Fast.tw10621071247495219201 : True := True.intro
theorem PySem.W.Fast.tw10012229608552680252 : True := True.intro
theorem PySem.W.Fast.tw10441362041263406890 : True := True.intro
theorem PySem.W.Fast.tw12574500847755835623 : True := True.intro
theorem PySem.W.Fast.tw14323541552684764952 : True := True.intro
theorem PySem.W.Fast.tw13374866570205677739 : True := True.intro
theorem PySem.W.Fast.tw13123207481902183891 : True := True.intro
theorem PySem.W.Fast.tw8545097222807544221 : True := True.intro
theorem PySem.W.Fast.tw13321922226135341363 : True := True.intro
theorem PySem.W.Fast.tw5413376789139330260 : True := True.intro
theorem PySem.W.Fast.tw7088521007450973574 : True := True.intro
theorem PySem.W.Fast.tw12140700058307423821 : True := True.intro
theorem PySem.W.Fast.tw4353213757888873718 : True := True.intro
theorem PySem.W.Fast.tw11554880461435117004 : True := True.intro
theorem PySem.W.Fast.tw11381457953179876013 : True := True.intro
theorem PySem.W.Fast.tw11488149356588668401 : True := True.intro
theorem PySem.W.Fast.tw12529228973240528401 : True := True.intro
theorem PySem.W.Fast.tw5077790841123846113 : True := True.intro
theorem PySem.W.Fast.tw4971272901673767869 : True := True.intro
theorem PySem.W.Fast.tw11774301691986415235 : True := True.intro
theorem PySem.W.Fast.tw17781022017723442371 : True := True.intro
theorem PySem.W.Fast.tw15817286621378045963 : True := True.intro
theorem PySem.W.Fast.tw13497796457581556089 : True := True.intro
theorem PySem.W.Fast.tw1927967210559285758 : True := True.intro
theorem PySem.W.Fast.tw8544229036923222279 : True := True.intro
theorem PySem.W.Fast.tw11219559106913323481 : True := True.intro
theorem PySem.W.Fast.tw14971412328761231448 : True := True.intro
theorem PySem.W.Fast.tw7652541508991774916 : True := True.intro
theorem PySem.W.Fast.tw7947988725241721729 : True := True.intro
theorem PySem.W.Fast.tw12032736077738946392 : True := True.intro
theorem PySem.W.Fast.tw9168222427936376358 : True := True.intro
theorem PySem.W.Fast.tw18118955154873076048 : True := True.intro
theorem PySem.W.Fast.tw10949463979644033276 : True := True.intro
theorem PySem.W.Fast.tw13028730040097640171 : True := True.intro
theorem PySem.W.Fast.tw2682517681594351894 : True := True.intro
theorem PySem.W.Fast.tw18163908617644715370 : True := True.intro
theorem PySem.W.Fast.tw13140326415619308015 : True := True.intro
theorem PySem.W.Fast.tw14253455735808617353 : True := True.intro
theorem PySem.W.Fast.tw11482481146580389405 : True := True.intro
theorem PySem.W.Fast.tw12416440275451703622 : True := True.intro
theorem PySem.W.Fast.tw15047016871095215131 : True := True.intro
theorem PySem.W.Fast.tw12409056570618323115 : True := True.intro
theorem PySem.W.Fast.tw8669421492120293976 : True := True.intro
theorem PySem.W.Fast.tw9873089290628751512 : True := True.intro
theorem PySem.W.Fast.tw18161070882149188599 : True := True.intro
theorem PySem.W.Fast.tw14444175131644993669 : True := True.intro
theorem PySem.W.Fast.tw7670524772378026788 : True := True.intro
theorem PySem.W.Fast.tw7986342871803256702 : True := True.intro
theorem PySem.W.Fast.tw13118895164374720044 : True := True.intro
theorem PySem.W.Fast.tw9136450414176232489 : True := True.intro
theorem PySem.W.Fast.tw14629549790971446914 : True := True.intro
theorem PySem.W.Fast.tw14098723214719776974 : True := True.intro
theorem PySem.W.Fast.tw15806033370973984178 : True := True.intro
theorem PySem.W.Fast.tw7642565075211639135 : True := True.intro
theorem PySem.W.Fast.tw16541934699757922993 : True := True.intro
theorem PySem.W.Fast.tw3402242128342230738 : True := True.intro
theorem PySem.W.Fast.tw15057568272710437459 : True := True.intro
theorem PySem.W.Fast.tw17297623040306799882 : True := True.intro
theorem PySem.W.Fast.tw9715506872231660799 : True := True.intro
theorem PySem.W.Fast.tw3295199796353808584 : True := True.intro
theorem PySem.W.Fast.tw7199117902324179604 : True := True.intro
theorem PySem.W.Fast.tw17271442513209317328 : True := True.intro
theorem PySem.W.Fast.tw7673672259169099896 : True := True.intro
theorem PySem.W.Fast.tw5993928861983997972 : True := True.intro
theorem PySem.W.Fast.tw12810958779537062733 : True := True.intro
theorem PySem.W.Fast.tw6399152375512807788 : True := True.intro
theorem PySem.W.Fast.tw8968911268904021547 : True := True.intro
theorem PySem.W.Fast.tw15984511405801689271 : True := True.intro
theorem PySem.W.Fast.tw17198558051740212429 : True := True.intro
theorem PySem.W.Fast.tw14130858724596827076 : True := True.intro
theorem PySem.W.Fast.tw5611074092760142608 : True := True.intro
theorem PySem.W.Fast.tw10925286368349804701 : True := True.intro
theorem PySem.W.Fast.tw6091622697281957673 : True := True.intro
theorem PySem.W.Fast.tw17309080778992843724 : True := True.intro
theorem PySem.W.Fast.tw8798537742373291715 : True := True.intro
theorem PySem.W.Fast.tw15697359718676533479 : True := True.intro
theorem PySem.W.Fast.tw4339438082800029390 : True := True.intro
theorem PySem.W.Fast.tw1885072513013885273 : True := True.intro
theorem PySem.W.Fast.tw7989881880984603873 : True := True.intro
theorem PySem.W.Fast.tw15341010188525023324 : True := True.intro
theorem PySem.W.Fast.tw18084898697910267951 : True := True.intro
theorem PySem.W.Fast.tw9657012133084817049 : True := True.intro
theorem PySem.W.Fast.tw13282008817667818228 : True := True.intro
theorem PySem.W.Fast.tw9634027111616265194 : True := True.intro
theorem PySem.W.Fast.tw3065659388721581002 : True := True.intro
theorem PySem.W.Fast.tw8153711252984291255 : True := True.intro
theorem PySem.W.Fast.tw1871880110240981257 : True := True.intro
theorem PySem.W.Fast.tw9880341801491389278 : True := True.intro
theorem PySem.W.Fast.tw13015352400170518833 : True := True.intro
theorem PySem.W.Fast.tw7192141334592543558 : True := True.intro
theorem PySem.W.Fast.tw15732768391837786022 : True := True.intro
theorem PySem.W.Fast.tw5588965373501720139 : True := True.intro
theorem PySem.W.Fast.tw231503391637796637 : True := True.intro
theorem PySem.W.Fast.tw8934805062390067651 : True := True.intro
theorem PySem.W.Fast.tw10414926397252723432 : True := True.intro
theorem PySem.W.Fast.tw4857048020341702544 : True := True.intro
theorem PySem.W.Fast.tw10659628170266755241 : True := True.intro
theorem PySem.W.Fast.tw16356366545206436016 : True := True.intro
theorem PySem.W.Fast.tw4584337480327097945 : True := True.intro
theorem PySem.W.Fast.tw12961300991744373819 : True := True.intro
theorem PySem.W.Fast.tw9084099652690814406 : True := True.intro
theorem PySem.W.Fast.tw11163583618591537042 : True := True.intro
theorem PySem.W.Fast.tw5703965631527492619 : True := True.intro
theorem PySem.W.Fast.tw10618981594757552932 : True := True.intro
theorem PySem.W.Fast.tw17207693582512808441 : True := True.intro
theorem PySem.W.Fast.tw9429220286533703520 : True := True.intro
theorem PySem.W.Fast.tw9827872441302733049 : True := True.intro
theorem PySem.W.Fast.tw15285686261174031610 : True := True.intro
theorem PySem.W.Fast.tw468283855210719888 : True := True.intro
theorem PySem.W.Fast.tw13432894535544240026 : True := True.intro
theorem PySem.W.Fast.tw8568078591806349739 : True := True.intro
theorem PySem.W.Fast.tw11134644239947400418 : True := True.intro
theorem PySem.W.Fast.tw8585385754108493860 : True := True.intro
theorem PySem.W.Fast.tw12147138405304934534 : True := True.intro
theorem PySem.W.Fast.tw3747561799818308691 : True := True.intro
theorem PySem.W.Fast.tw12447885810801085735 : True := True.intro
theorem PySem.W.Fast.tw14145413093571595787 : True := True.intro
theorem PySem.W.Fast.tw3658252169303289712 : True := True.intro
theorem PySem.W.Fast.tw6751735428028610420 : True := True.intro
theorem PySem.W.Fast.tw1853863084225899144 : True := True.intro
theorem PySem.W.Fast.tw2307400399926562674 : True := True.intro
theorem PySem.W.Fast.tw6350502099609151689 : True := True.intro
theorem PySem.W.Fast.tw3722974247266227347 : True := True.intro
theorem PySem.W.Fast.tw1279417755813105002 : True := True.intro
theorem PySem.W.Fast.tw2975084162928066689 : True := True.intro
theorem PySem.W.Fast.tw16420686991686891209 : True := True.intro
theorem PySem.W.Fast.tw2939088382061829380 : True := True.intro
theorem PySem.W.Fast.tw16238004617466439643 : True := True.intro
theorem PySem.W.Fast.tw14469013407855104703 : True := True.intro
theorem PySem.W.Fast.tw10425973584906437002 : True := True.intro
theorem PySem.W.Fast.tw7536650349748479442 : True := True.intro
theorem PySem.W.Fast.tw11809717881893813979 : True := True.intro
theorem PySem.W.Fast.tw4311650743105911867 : True := True.intro
theorem PySem.W.Fast.tw341822410122542581 : True := True.intro
theorem PySem.W.Fast.tw10101738322938171774 : True := True.intro
theorem PySem.W.Fast.tw3984186723272893697 : True := True.intro
theorem PySem.W.Fast.tw7034929773985411285 : True := True.intro
theorem PySem.W.Fast.tw15307150803056110422 : True := True.intro
theorem PySem.W.Fast.tw1210369752375491039 : True := True.intro
theorem PySem.W.Fast.tw3180754489323173686 : True := True.intro
theorem PySem.W.Fast.tw4792889225178334511 : True := True.intro
theorem PySem.W.Fast.tw2562171222147853104 : True := True.intro
theorem PySem.W.Fast.tw14539732715683956411 : True := True.intro
theorem PySem.W.Fast.tw12056500961232958044 : True := True.intro
theorem PySem.W.Fast.tw155014910550233100 : True := True.intro
theorem PySem.W.Fast.tw9824953858492940769 : True := True.intro
theorem PySem.W.Fast.tw4597419045302837787 : True := True.intro
theorem PySem.W.Fast.tw2632155878065640449 : True := True.intro
theorem PySem.W.Fast.tw6408324453383173876 : True := True.intro
theorem PySem.W.Fast.tw11176603957891131519 : True := True.intro
theorem PySem.W.Fast.tw17066769202513597704 : True := True.intro
theorem PySem.W.Fast.tw6532268366817959697 : True := True.intro
theorem PySem.W.Fast.tw9713241360291922300 : True := True.intro
theorem PySem.W.Fast.tw12657130380637104865 : True := True.intro
theorem PySem.W.Fast.tw7010602642390608356 : True := True.intro
theorem PySem.W.Fast.tw569050289713229910 : True := True.intro
theorem PySem.W.Fast.tw15250906037103249084 : True := True.intro
theorem PySem.W.Fast.tw1920980641651813952 : True := True.intro
theorem PySem.W.Fast.tw5925706690169023872 : True := True.intro
theorem PySem.W.Fast.tw13291246621383185753 : True := True.intro
theorem PySem.W.Fast.tw2843269883153343617 : True := True.intro
theorem PySem.W.Fast.tw2163339122628545975 : True := True.intro
theorem PySem.W.Fast.tw13919136813322323918 : True := True.intro
theorem PySem.W.Fast.tw7995755146539462459 : True := True.intro
theorem PySem.W.Fast.tw2034532847308874167 : True := True.intro
theorem PySem.W.Fast.tw15872032301589006300 : True := True.intro
theorem PySem.W.Fast.tw18053877973361159319 : True := True.intro
theorem PySem.W.Fast.tw10948942978769733141 : True := True.intro
theorem PySem.W.Fast.tw10064241090366173383 : True := True.intro
theorem PySem.W.Fast.tw1262798345740712983 : True := True.intro
theorem PySem.W.Fast.tw11888871509947146268 : True := True.intro
theorem PySem.W.Fast.tw14585632836535620589 : True := True.intro
theorem PySem.W.Fast.tw15675695940243808045 : True := True.intro
theorem PySem.W.Fast.tw7949799557031132118 : True := True.intro
theorem PySem.W.Fast.tw10305055701883896755 : True := True.intro
theorem PySem.W.Fast.tw4021434949647558593 : True := True.intro
theorem PySem.W.Fast.tw13997610446755281221 : True := True.intro
theorem PySem.W.Fast.tw309972415979410548 : True := True.intro
theorem PySem.W.Fast.tw15775275432647953098 : True := True.intro
theorem PySem.W.Fast.tw5963274534022628629 : True := True.intro
theorem PySem.W.Fast.tw6346834547141738582 : True := True.intro
theorem PySem.W.Fast.tw8592629752489984203 : True := True.intro
theorem PySem.W.Fast.tw4524278056066527898 : True := True.intro
theorem PySem.W.Fast.tw13024488920224512979 : True := True.intro
theorem PySem.W.Fast.tw15723936137416789562 : True := True.intro
theorem PySem.W.Fast.tw9882936393582609484 : True := True.intro
theorem PySem.W.Fast.tw10203143832936982321 : True := True.intro
theorem PySem.W.Fast.tw193347003318713201 : True := True.intro
theorem PySem.W.Fast.tw1481947120251404005 : True := True.intro
theorem PySem.W.Fast.tw3342458748808938902 : True := True.intro
theorem PySem.W.Fast.tw9620455740523638452 : True := True.intro
theorem PySem.W.Fast.tw8715881978162325370 : True := True.intro
theorem PySem.W.Fast.tw10559193603720963575 : True := True.intro
theorem PySem.W.Fast.tw4523275531047762897 : True := True.intro
theorem PySem.W.Fast.tw2999204174077967910 : True := True.intro
theorem PySem.W.Fast.tw3502715282659918906 : True := True.intro
theorem PySem.W.Fast.tw12212598746728943195 : True := True.intro
theorem PySem.W.Fast.tw14613741064717168279 : True := True.intro
theorem PySem.W.Fast.tw15252425218445332623 : True := True.intro
theorem PySem.W.Fast.tw12451187990197712654 : True := True.intro
theorem PySem.W.Fast.tw16656207754537962454 : True := True.intro
theorem PySem.W.Fast.tw6944372407626695672 : True := True.intro
theorem PySem.W.Fast.tw14744661577659554331 : True := True.intro
theorem PySem.W.Fast.tw7035886606196984289 : True := True.intro
theorem PySem.W.Fast.tw2060949260342010335 : True := True.intro
theorem PySem.W.Fast.tw2364918562512515424 : True := True.intro
theorem PySem.W.Fast.tw9716092386942958902 : True := True.intro
theorem PySem.W.Fast.tw9022109445221086831 : True := True.intro
theorem PySem.W.Fast.tw3727978111589417070 : True := True.intro
theorem PySem.W.Fast.tw15288643364965183890 : True := True.intro
theorem PySem.W.Fast.tw17916307692981439805 : True := True.intro
theorem PySem.W.Fast.tw8365141280177555024 : True := True.intro
theorem PySem.W.Fast.tw16553536209935904702 : True := True.intro
theorem PySem.W.Fast.tw14717274193764227335 : True := True.intro
theorem PySem.W.Fast.tw11021850031508899314 : True := True.intro
theorem PySem.W.Fast.tw15778929960092144951 : True := True.intro
theorem PySem.W.Fast.tw6507867504381875793 : True := True.intro
theorem PySem.W.Fast.tw159762496270469328 : True := True.intro
theorem PySem.W.Fast.tw14183236195582341082 : True := True.intro
theorem PySem.W.Fast.tw17014015620620985254 : True := True.intro
theorem PySem.W.Fast.tw12552599734087760843 : True := True.intro
theorem PySem.W.Fast.tw6723598503533100360 : True := True.intro
theorem PySem.W.Fast.tw4673656008504456935 : True := True.intro
theorem PySem.W.Fast.tw1665942191640476483 : True := True.intro
theorem PySem.W.Fast.tw10581073789361836272 : True := True.intro
theorem PySem.W.Fast.tw1900044844548632571 : True := True.intro
theorem PySem.W.Fast.tw13385967591574737765 : True := True.intro
theorem PySem.W.Fast.tw10799446347191224172 : True := True.intro
theorem PySem.W.Fast.tw10065239150541357563 : True := True.intro
theorem PySem.W.Fast.tw14962636992812951870 : True := True.intro
theorem PySem.W.Fast.tw8347754500309410263 : True := True.intro
theorem PySem.W.Fast.tw2742382597672953316 : True := True.intro
theorem PySem.W.Fast.tw4078432280378357114 : True := True.intro
theorem PySem.W.Fast.tw17378956238286700794 : True := True.intro
theorem PySem.W.Fast.tw15878264004420022060 : True := True.intro
theorem PySem.W.Fast.tw11219448447182842430 : True := True.intro
theorem PySem.W.Fast.tw13660982459181666347 : True := True.intro
theorem PySem.W.Fast.tw11072227242850292156 : True := True.intro
theorem PySem.W.Fast.tw80532808109596387 : True := True.intro
theorem PySem.W.Fast.tw2014159608170051429 : True := True.intro
theorem PySem.W.Fast.tw10728687710319596466 : True := True.intro
theorem PySem.W.Fast.tw6116771324188236984 : True := True.intro
theorem PySem.W.Fast.tw10736767785097648591 : True := True.intro
theorem PySem.W.Fast.tw3518975409955889955 : True := True.intro
theorem PySem.W.Fast.tw16835233925977209950 : True := True.intro
theorem PySem.W.Fast.tw14483650529675880082 : True := True.intro
theorem PySem.W.Fast.tw13088764981587090570 : True := True.intro
theorem PySem.W.Fast.tw8927392746354358396 : True := True.intro
theorem PySem.W.Fast.tw4818015068836427191 : True := True.intro
theorem PySem.W.Fast.tw8181385485388398266 : True := True.intro
theorem PySem.W.Fast.tw17965489859301194829 : True := True.intro
theorem PySem.W.Fast.tw4746443872378481829 : True := True.intro
theorem PySem.W.Fast.tw13250922023766507649 : True := True.intro
theorem PySem.W.Fast.tw79395422453251209 : True := True.intro
theorem PySem.W.Fast.tw4127045134934100159 : True := True.intro
theorem PySem.W.Fast.tw12605410884181741529 : True := True.intro
theorem PySem.W.Fast.tw2050568232090855083 : True := True.intro
theorem PySem.W.Fast.tw15939200163096480038 : True := True.intro
theorem PySem.W.Fast.tw7996557745295467355 : True := True.intro
theorem PySem.W.Fast.tw6849438460817995882 : True := True.intro
theorem PySem.W.Fast.tw4212178810254942111 : True := True.intro
theorem PySem.W.Fast.tw1433555107720732211 : True := True.intro
theorem PySem.W.Fast.tw10697237155514649928 : True := True.intro
theorem PySem.W.Fast.tw13095914306150714101 : True := True.intro
theorem PySem.W.Fast.tw16781106856932428611 : True := True.intro
theorem PySem.W.Fast.tw15283341051738578632 : True := True.intro
theorem PySem.W.Fast.tw12257766096174772023 : True := True.intro
theorem PySem.W.Fast.tw2814265056704788103 : True := True.intro
theorem PySem.W.Fast.tw8677250400569564632 : True := True.intro
theorem PySem.W.Fast.tw4307379128749916979 : True := True.intro
theorem PySem.W.Fast.tw3100934369553559210 : True := True.intro
theorem PySem.W.Fast.tw3761599946320889946 : True := True.intro
theorem PySem.W.Fast.tw15164909100049616628 : True := True.intro
theorem PySem.W.Fast.tw6012699487898269558 : True := True.intro
theorem PySem.W.Fast.tw16782016540906701044 : True := True.intro
theorem PySem.W.Fast.tw17164357744766377162 : True := True.intro
theorem PySem.W.Fast.tw17926515327620873634 : True := True.intro
theorem PySem.W.Fast.tw8217197200233957288 : True := True.intro
theorem PySem.W.Fast.tw6068379735835038801 : True := True.intro
theorem PySem.W.Fast.tw13515649568406004469 : True := True.intro
theorem PySem.W.Fast.tw5977617926492513219 : True := True.intro
theorem PySem.W.Fast.tw9017449297745433841 : True := True.intro
theorem PySem.W.Fast.tw13952150928711809194 : True := True.intro
theorem PySem.W.Fast.tw9178754947656506972 : True := True.intro
theorem PySem.W.Fast.tw5683776072105480773 : True := True.intro
theorem PySem.W.Fast.tw74546295171025607 : True := True.intro
theorem PySem.W.Fast.tw10799198642593985424 : True := True.intro
theorem PySem.W.Fast.tw14408742894319494861 : True := True.intro
theorem PySem.W.Fast.tw9242201818917008793 : True := True.intro
theorem PySem.W.Fast.tw2300114328403899269 : True := True.intro
theorem PySem.W.Fast.tw9990473186797848794 : True := True.intro
theorem PySem.W.Fast.tw14523683695865866413 : True := True.intro
theorem PySem.W.Fast.tw17974701596330669195 : True := True.intro
theorem PySem.W.Fast.tw8674482754774610203 : True := True.intro
theorem PySem.W.Fast.tw7982318875337058891 : True := True.intro
theorem PySem.W.Fast.tw183601869925468100 : True := True.intro
theorem PySem.W.Fast.tw1315445312749775617 : True := True.intro
theorem PySem.W.Fast.tw13165410111418314456 : True := True.intro
theorem PySem.W.Fast.tw15979062648215834179 : True := True.intro
theorem PySem.W.Fast.tw618403322577792889 : True := True.intro
theorem PySem.W.Fast.tw6850816654957259187 : True := True.intro
theorem PySem.W.Fast.tw15955863185196536721 : True := True.intro
theorem PySem.W.Fast.tw1978821359821091200 : True := True.intro
theorem PySem.W.Fast.tw4956152165728644106 : True := True.intro
theorem PySem.W.Fast.tw3417891278529444026 : True := True.intro
theorem PySem.W.Fast.tw17394003902845936227 : True := True.intro
theorem PySem.W.Fast.tw6521512621546947562 : True := True.intro
theorem PySem.W.Fast.tw16564366871614971623 : True := True.intro
theorem PySem.W.Fast.tw13676263144513536463 : True := True.intro
theorem PySem.W.Fast.tw5394414688475590515 : True := True.intro
theorem PySem.W.Fast.tw7009435601716575398 : True := True.intro
theorem PySem.W.Fast.tw7982720473815149528 : True := True.intro
theorem PySem.W.Fast.tw11684303555788225231 : True := True.intro
theorem PySem.W.Fast.tw10700850020297777508 : True := True.intro
theorem PySem.W.Fast.tw7345171160773908524 : True := True.intro
theorem PySem.W.Fast.tw7543942109928511261 : True := True.intro
theorem PySem.W.Fast.tw4142968908898558683 : True := True.intro
theorem PySem.W.Fast.tw7197315034068300782 : True := True.intro
theorem PySem.W.Fast.tw13057762164844266822 : True := True.intro
theorem PySem.W.Fast.tw6393997162490853487 : True := True.intro
theorem PySem.W.Fast.tw6423884873010998213 : True := True.intro
theorem PySem.W.Fast.tw12747303335080999304 : True := True.intro
theorem PySem.W.Fast.tw14403457811693041758 : True := True.intro
theorem PySem.W.Fast.tw10972774980049948727 : True := True.intro
theorem PySem.W.Fast.tw9095096623899373170 : True := True.intro
theorem PySem.W.Fast.tw8909556243885719098 : True := True.intro
theorem PySem.W.Fast.tw3303221016665468692 : True := True.intro
theorem PySem.W.Fast.tw3548622667235713162 : True := True.intro
theorem PySem.W.Fast.tw14681448632258654418 : True := True.intro
theorem PySem.W.Fast.tw8304970405534741786 : True := True.intro
theorem PySem.W.Fast.tw8194263710184238140 : True := True.intro
theorem PySem.W.Fast.tw4814759286558998021 : True := True.intro
theorem PySem.W.Fast.tw9364471013461156568 : True := True.intro
theorem PySem.W.Fast.tw13878338731337647540 : True := True.intro
theorem PySem.W.Fast.tw6157576033423431211 : True := True.intro
theorem PySem.W.Fast.tw2243882654757542311 : True := True.intro
theorem PySem.W.Fast.tw18401754342480528112 : True := True.intro
theorem PySem.W.Fast.tw14394521044794723029 : True := True.intro
theorem PySem.W.Fast.tw7848258319814298260 : True := True.intro
theorem PySem.W.Fast.tw7803642448767155764 : True := True.intro
theorem PySem.W.Fast.tw18187731049883562971 : True := True.intro
theorem PySem.W.Fast.tw7943981865525299107 : True := True.intro
theorem PySem.W.Fast.tw2792831961140469829 : True := True.intro
theorem PySem.W.Fast.tw13598768482518603014 : True := True.intro
theorem PySem.W.Fast.tw3025571500640737808 : True := True.intro
theorem PySem.W.Fast.tw5220228795793130341 : True := True.intro
theorem PySem.W.Fast.tw8672673955175882555 : True := True.intro
theorem PySem.W.Fast.tw509348348823508463 : True := True.intro
theorem PySem.W.Fast.tw13318794922447760236 : True := True.intro
theorem PySem.W.Fast.tw16376402434472597127 : True := True.intro
theorem PySem.W.Fast.tw37011879266039312 : True := True.intro
theorem PySem.W.Fast.tw9484565255356186111 : True := True.intro
theorem PySem.W.Fast.tw13789656387583480631 : True := True.intro
theorem PySem.W.Fast.tw11791183918009558261 : True := True.intro
theorem PySem.W.Fast.tw13169750365212736015 : True := True.intro
theorem PySem.W.Fast.tw2897993901654732516 : True := True.intro
theorem PySem.W.Fast.tw17685804205996791134 : True := True.intro
theorem PySem.W.Fast.tw13896887164943268110 : True := True.intro
theorem PySem.W.Fast.tw4830244807153921305 : True := True.intro
theorem PySem.W.Fast.tw17145979399806671032 : True := True.intro
theorem PySem.W.Fast.tw7360370114148719367 : True := True.intro
theorem PySem.W.Fast.tw6394351868284054322 : True := True.intro
theorem PySem.W.Fast.tw13949247055347415966 : True := True.intro
theorem PySem.W.Fast.tw7067522837265860743 : True := True.intro
theorem PySem.W.Fast.tw5078581195641370836 : True := True.intro
theorem PySem.W.Fast.tw11615550226894599234 : True := True.intro
theorem PySem.W.Fast.tw5107529717915212937 : True := True.intro
theorem PySem.W.Fast.tw9858481659191973639 : True := True.intro
theorem PySem.W.Fast.tw5688371022595189259 : True := True.intro
theorem PySem.W.Fast.tw2697956613866109251 : True := True.intro
theorem PySem.W.Fast.tw6132980315983499446 : True := True.intro
theorem PySem.W.Fast.tw7789471320309296009 : True := True.intro
theorem PySem.W.Fast.tw13988630716901071292 : True := True.intro
theorem PySem.W.Fast.tw6788700755878725334 : True := True.intro
theorem PySem.W.Fast.tw1933803924287515067 : True := True.intro
theorem PySem.W.Fast.tw14982248554364921709 : True := True.intro
theorem PySem.W.Fast.tw9375318625142992067 : True := True.intro
theorem PySem.W.Fast.tw4906945498145484370 : True := True.intro
theorem PySem.W.Fast.tw18377250901693989292 : True := True.intro
theorem PySem.W.Fast.tw14316289204125222441 : True := True.intro
theorem PySem.W.Fast.tw5838554349249309589 : True := True.intro
theorem PySem.W.Fast.tw17845050048860685894 : True := True.intro
theorem PySem.W.Fast.tw14019549696903444488 : True := True.intro
theorem PySem.W.Fast.tw15324849087898722503 : True := True.intro
theorem PySem.W.Fast.tw16396757808349556822 : True := True.intro
theorem PySem.W.Fast.tw6070925091672675068 : True := True.intro
theorem PySem.W.Fast.tw13185548099555099300 : True := True.intro
theorem PySem.W.Fast.tw6143427910588412293 : True := True.intro
theorem PySem.W.Fast.tw3796730480272927400 : True := True.intro
theorem PySem.W.Fast.tw10255568829968033505 : True := True.intro
theorem PySem.W.Fast.tw17187743607946939962 : True := True.intro
theorem PySem.W.Fast.tw2593388847023999492 : True := True.intro
theorem PySem.W.Fast.tw4690497204645108196 : True := True.intro
theorem PySem.W.Fast.tw5058468407492176935 : True := True.intro
theorem PySem.W.Fast.tw8634313463245942634 : True := True.intro
theorem PySem.W.Fast.tw8925463564571711006 : True := True.intro
theorem PySem.W.Fast.tw6777809905918398654 : True := True.intro
theorem PySem.W.Fast.tw13045072631549190501 : True := True.intro
theorem PySem.W.Fast.tw9332563197957481973 : True := True.intro
theorem PySem.W.Fast.tw17310240997282730214 : True := True.intro
theorem PySem.W.Fast.tw8215905985699841787 : True := True.intro
theorem PySem.W.Fast.tw528037282213898086 : True := True.intro
theorem PySem.W.Fast.tw6677213138188299385 : True := True.intro
theorem PySem.W.Fast.tw5933103942918508921 : True := True.intro
theorem PySem.W.Fast.tw8752048662661332385 : True := True.intro
theorem PySem.W.Fast.tw3743389250373144125 : True := True.intro
theorem PySem.W.Fast.tw11899463196226486374 : True := True.intro
theorem PySem.W.Fast.tw1922620506446960448 : True := True.intro
theorem PySem.W.Fast.tw16812963140215257388 : True := True.intro
theorem PySem.W.Fast.tw15575666880706110042 : True := True.intro
theorem PySem.W.Fast.tw17867629627178167345 : True := True.intro
theorem PySem.W.Fast.tw12672255815554113468 : True := True.intro
theorem PySem.W.Fast.tw7142746867108829386 : True := True.intro
theorem PySem.W.Fast.tw4872481691802102685 : True := True.intro
theorem PySem.W.Fast.tw18039272962731888620 : True := True.intro
theorem PySem.W.Fast.tw15363595200859763937 : True := True.intro
theorem PySem.W.Fast.tw1026806132359269365 : True := True.intro
theorem PySem.W.Fast.tw13039153920971551161 : True := True.intro
theorem PySem.W.Fast.tw2632037054328738223 : True := True.intro
theorem PySem.W.Fast.tw7879973610449025657 : True := True.intro
theorem PySem.W.Fast.tw7829717572650582691 : True := True.intro
theorem PySem.W.Fast.tw6662099189288555812 : True := True.intro
theorem PySem.W.Fast.tw11154628103135681703 : True := True.intro
theorem PySem.W.Fast.tw8975330535902277041 : True := True.intro
theorem PySem.W.Fast.tw5206212130163872683 : True := True.intro
theorem PySem.W.Fast.tw10522429261779471183 : True := True.intro
theorem PySem.W.Fast.tw16132071051141682158 : True := True.intro
theorem PySem.W.Fast.tw555415715263796950 : True := True.intro
theorem PySem.W.Fast.tw13464347977557538 : True := True.intro
theorem PySem.W.Fast.tw14693198903667193191 : True := True.intro
theorem PySem.W.Fast.tw8106210444129499491 : True := True.intro
theorem PySem.W.Fast.tw9174355782175634571 : True := True.intro
theorem PySem.W.Fast.tw12354975661699707840 : True := True.intro
theorem PySem.W.Fast.tw9621274398374201297 : True := True.intro
theorem PySem.W.Fast.tw7956085294571695326 : True := True.intro
theorem PySem.W.Fast.tw7943574137513853608 : True := True.intro
theorem PySem.W.Fast.tw3382476068591455812 : True := True.intro
theorem PySem.W.Fast.tw16339070018087716480 : True := True.intro
theorem PySem.W.Fast.tw15163514598983066114 : True := True.intro
theorem PySem.W.Fast.tw15673316691671093138 : True := True.intro
theorem PySem.W.Fast.tw15302818922177154374 : True := True.intro
theorem PySem.W.Fast.tw5091378760238270326 : True := True.intro
theorem PySem.W.Fast.tw10053911971204755162 : True := True.intro
theorem PySem.W.Fast.tw17376374895782093013 : True := True.intro
theorem PySem.W.Fast.tw184607624294198157 : True := True.intro
theorem PySem.W.Fast.tw5163918084261574825 : True := True.intro
theorem PySem.W.Fast.tw2275024180156988457 : True := True.intro
theorem PySem.W.Fast.tw5934193323841731448 : True := True.intro
theorem PySem.W.Fast.tw11783162809776246750 : True := True.intro
theorem PySem.W.Fast.tw14515036380211331860 : True := True.intro
theorem PySem.W.Fast.tw15617623734141961341 : True := True.intro
theorem PySem.W.Fast.tw2127857009821266819 : True := True.intro
theorem PySem.W.Fast.tw18062801098011981458 : True := True.intro
theorem PySem.W.Fast.tw10095495363337117514 : True := True.intro
theorem PySem.W.Fast.tw5323143653328817340 : True := True.intro
theorem PySem.W.Fast.tw246055793807669979 : True := True.intro
theorem PySem.W.Fast.tw14483385030250743779 : True := True.intro
theorem PySem.W.Fast.tw18000790011974938857 : True := True.intro
theorem PySem.W.Fast.tw12291017612486425116 : True := True.intro
theorem PySem.W.Fast.tw10955271036665158516 : True := True.intro
theorem PySem.W.Fast.tw13713222974609299731 : True := True.intro
theorem PySem.W.Fast.tw9296926930134348477 : True := True.intro
theorem PySem.W.Fast.tw11878222347899194714 : True := True.intro
theorem PySem.W.Fast.tw7048333071763105991 : True := True.intro
theorem PySem.W.Fast.tw1441533118220762519 : True := True.intro
theorem PySem.W.Fast.tw2322010691823751312 : True := True.intro
theorem PySem.W.Fast.tw1697239624570677420 : True := True.intro
theorem PySem.W.Fast.tw17134249347302439484 : True := True.intro
theorem PySem.W.Fast.tw5375866917290023217 : True := True.intro
theorem PySem.W.Fast.tw18162751410183057371 : True := True.intro
theorem PySem.W.Fast.tw565244000228625517 : True := True.intro
theorem PySem.W.Fast.tw4536420423048724574 : True := True.intro
theorem PySem.W.Fast.tw8143333773141206349 : True := True.intro
theorem PySem.W.Fast.tw12715073335678183188 : True := True.intro
theorem PySem.W.Fast.tw948272205161280008 : True := True.intro
theorem PySem.W.Fast.tw13330316821982915489 : True := True.intro
theorem PySem.W.Fast.tw13837770219181548429 : True := True.intro
theorem PySem.W.Fast.tw5461243243110910954 : True := True.intro
theorem PySem.W.Fast.tw62769839830700537 : True := True.intro
theorem PySem.W.Fast.tw6606872666961259204 : True := True.intro
theorem PySem.W.Fast.tw4708226530792867733 : True := True.intro
theorem PySem.W.Fast.tw5475078654494072681 : True := True.intro
theorem PySem.W.Fast.tw16981363205168786907 : True := True.intro
theorem PySem.W.Fast.tw18083043648355497107 : True := True.intro
theorem PySem.W.Fast.tw12897967143281267742 : True := True.intro
theorem PySem.W.Fast.tw12322397969085346557 : True := True.intro
theorem PySem.W.Fast.tw16064654649006268982 : True := True.intro
theorem PySem.W.Fast.tw8226300261418210122 : True := True.intro
theorem PySem.W.Fast.tw17076215337671003217 : True := True.intro
theorem PySem.W.Fast.tw6334553128134971041 : True := True.intro
theorem PySem.W.Fast.tw849848799563787304 : True := True.intro
theorem PySem.W.Fast.tw11818361199375642040 : True := True.intro
theorem PySem.W.Fast.tw11096676641867508409 : True := True.intro
theorem PySem.W.Fast.tw17041846304286351281 : True := True.intro
theorem PySem.W.Fast.tw10356101349157186002 : True := True.intro
theorem PySem.W.Fast.tw5625874091766994948 : True := True.intro
theorem PySem.W.Fast.tw4951272517080890632 : True := True.intro
theorem PySem.W.Fast.tw18318637397815507563 : True := True.intro
theorem PySem.W.Fast.tw3742198960298948260 : True := True.intro
theorem PySem.W.Fast.tw4281936354252023497 : True := True.intro
theorem PySem.W.Fast.tw3204728325467373558 : True := True.intro
theorem PySem.W.Fast.tw17318891147138838152 : True := True.intro
theorem PySem.W.Fast.tw10911419496106119060 : True := True.intro
theorem PySem.W.Fast.tw10602391968895195126 : True := True.intro
theorem PySem.W.Fast.tw12723944727912620938 : True := True.intro
theorem PySem.W.Fast.tw4952678269370120812 : True := True.intro
theorem PySem.W.Fast.tw4162513645988772168 : True := True.intro
theorem PySem.W.Fast.tw14641574123984383808 : True := True.intro
theorem PySem.W.Fast.tw14112220607130581070 : True := True.intro
theorem PySem.W.Fast.tw8215206749110498918 : True := True.intro
theorem PySem.W.Fast.tw7457085310608942951 : True := True.intro
theorem PySem.W.Fast.tw9018559251060528732 : True := True.intro
theorem PySem.W.Fast.tw8763163446156462907 : True := True.intro
theorem PySem.W.Fast.tw6321688397534101327 : True := True.intro
theorem PySem.W.Fast.tw3933268653931795433 : True := True.intro
theorem PySem.W.Fast.tw9576157417810848893 : True := True.intro
theorem PySem.W.Fast.tw5039388244589312003 : True := True.intro
theorem PySem.W.Fast.tw10013541641554615462 : True := True.intro
theorem PySem.W.Fast.tw9308584924184989254 : True := True.intro
theorem PySem.W.Fast.tw14214422016029696648 : True := True.intro
theorem PySem.W.Fast.tw6616539942544114955 : True := True.intro
theorem PySem.W.Fast.tw12828438461141101900 : True := True.intro
theorem PySem.W.Fast.tw3249822835077733391 : True := True.intro
theorem PySem.W.Fast.tw9610533306304492079 : True := True.intro
theorem PySem.W.Fast.tw17176468793825028579 : True := True.intro
theorem PySem.W.Fast.tw8344658361716506396 : True := True.intro
theorem PySem.W.Fast.tw13690382114849805878 : True := True.intro
theorem PySem.W.Fast.tw10884195871266564420 : True := True.intro
theorem PySem.W.Fast.tw9507763470565810631 : True := True.intro
theorem PySem.W.Fast.tw13140654066487119595 : True := True.intro
theorem PySem.W.Fast.tw16806570863424728844 : True := True.intro
theorem PySem.W.Fast.tw14569351429118394438 : True := True.intro
theorem PySem.W.Fast.tw14369599905159382276 : True := True.intro
theorem PySem.W.Fast.tw8914482861959968290 : True := True.intro
theorem PySem.W.Fast.tw3458005026777008245 : True := True.intro
theorem PySem.W.Fast.tw7771263222699971213 : True := True.intro
theorem PySem.W.Fast.tw6435781461524803262 : True := True.intro
theorem PySem.W.Fast.tw5504750976385389111 : True := True.intro
theorem PySem.W.Fast.tw2829909564179984659 : True := True.intro
theorem PySem.W.Fast.tw8629808745656038667 : True := True.intro
theorem PySem.W.Fast.tw8607242378484795077 : True := True.intro
theorem PySem.W.Fast.tw39630322355900373 : True := True.intro
theorem PySem.W.Fast.tw11104905936712567785 : True := True.intro
theorem PySem.W.Fast.tw9592128775293889244 : True := True.intro
theorem PySem.W.Fast.tw12369812318382284371 : True := True.intro
theorem PySem.W.Fast.tw5830015280759127325 : True := True.intro
theorem PySem.W.Fast.tw1628174015818891842 : True := True.intro
theorem PySem.W.Fast.tw16907007318156065803 : True := True.intro
theorem PySem.W.Fast.tw8371147556463713465 : True := True.intro
theorem PySem.W.Fast.tw14373544498692630281 : True := True.intro
theorem PySem.W.Fast.tw11883389856400058662 : True := True.intro
theorem PySem.W.Fast.tw3903578700208782776 : True := True.intro
theorem PySem.W.Fast.tw16430195912601832142 : True := True.intro
theorem PySem.W.Fast.tw14727086189260627111 : True := True.intro
theorem PySem.W.Fast.tw2448603426096333470 : True := True.intro
theorem PySem.W.Fast.tw17887640253883124516 : True := True.intro
theorem PySem.W.Fast.tw8307045265012980863 : True := True.intro
theorem PySem.W.Fast.tw12371356262115064435 : True := True.intro
theorem PySem.W.Fast.tw18194473463381312744 : True := True.intro
theorem PySem.W.Fast.tw11658196451013545835 : True := True.intro
theorem PySem.W.Fast.tw397593961738011446 : True := True.intro
theorem PySem.W.Fast.tw7547023843359055761 : True := True.intro
theorem PySem.W.Fast.tw7458123306615299532 : True := True.intro
theorem PySem.W.Fast.tw12509885330486454653 : True := True.intro
theorem PySem.W.Fast.tw2794874606664784820 : True := True.intro
theorem PySem.W.Fast.tw1651112698568225080 : True := True.intro
theorem PySem.W.Fast.tw16313807054806556421 : True := True.intro
theorem PySem.W.Fast.tw57156341533575035 : True := True.intro
theorem PySem.W.Fast.tw409256748754640159 : True := True.intro
theorem PySem.W.Fast.tw10112834635630260364 : True := True.intro
theorem PySem.W.Fast.tw287182992708905164 : True := True.intro
theorem PySem.W.Fast.tw16539106455615258179 : True := True.intro
theorem PySem.W.Fast.tw9661224878040623847 : True := True.intro
theorem PySem.W.Fast.tw14311504759753193075 : True := True.intro
theorem PySem.W.Fast.tw5264391999290722812 : True := True.intro
theorem PySem.W.Fast.tw6855906351365612058 : True := True.intro
theorem PySem.W.Fast.tw16704335904277220426 : True := True.intro
theorem PySem.W.Fast.tw10371653612276410036 : True := True.intro
theorem PySem.W.Fast.tw820192761681498518 : True := True.intro
theorem PySem.W.Fast.tw8241424181949842698 : True := True.intro
theorem PySem.W.Fast.tw9537891172069181602 : True := True.intro
theorem PySem.W.Fast.tw10194680320568569547 : True := True.intro
theorem PySem.W.Fast.tw3948361081640157263 : True := True.intro
theorem PySem.W.Fast.tw6391255321420913788 : True := True.intro
theorem PySem.W.Fast.tw4722763032129957454 : True := True.intro
theorem PySem.W.Fast.tw16687164438140068157 : True := True.intro
theorem PySem.W.Fast.tw639154846691351416 : True := True.intro
theorem PySem.W.Fast.tw2777255583783749670 : True := True.intro
theorem PySem.W.Fast.tw12015010634572319466 : True := True.intro
theorem PySem.W.Fast.tw10564667626875374510 : True := True.intro
theorem PySem.W.Fast.tw13835938333426651761 : True := True.intro
theorem PySem.W.Fast.tw232880105310400125 : True := True.intro
theorem PySem.W.Fast.tw15677409694809777782 : True := True.intro
theorem PySem.W.Fast.tw16826521118747310550 : True := True.intro
theorem PySem.W.Fast.tw14964881510387120815 : True := True.intro
theorem PySem.W.Fast.tw8598724279798163266 : True := True.intro
theorem PySem.W.Fast.tw4993861650569990604 : True := True.intro
theorem PySem.W.Fast.tw15108410093799656700 : True := True.intro
theorem PySem.W.Fast.tw18412842384673504352 : True := True.intro
theorem PySem.W.Fast.tw9177834868617424252 : True := True.intro
theorem PySem.W.Fast.tw2411118148882984064 : True := True.intro
theorem PySem.W.Fast.tw7863403220000139428 : True := True.intro
theorem PySem.W.Fast.tw8600428224442203908 : True := True.intro
theorem PySem.W.Fast.tw15799303620874282850 : True := True.intro
theorem PySem.W.Fast.tw7350627663453801150 : True := True.intro
theorem PySem.W.Fast.tw16520395370532503224 : True := True.intro
theorem PySem.W.Fast.tw14647393717884780539 : True := True.intro
theorem PySem.W.Fast.tw17205186955421592782 : True := True.intro
theorem PySem.W.Fast.tw13267076308873754014 : True := True.intro
theorem PySem.W.Fast.tw9868958323356719096 : True := True.intro
theorem PySem.W.Fast.tw10395859411424625966 : True := True.intro
theorem PySem.W.Fast.tw3801118838373294195 : True := True.intro
theorem PySem.W.Fast.tw13086852082740295049 : True := True.intro
theorem PySem.W.Fast.tw5691791252916904450 : True := True.intro
theorem PySem.W.Fast.tw18032393288788333671 : True := True.intro
theorem PySem.W.Fast.tw1989166778818405600 : True := True.intro
theorem PySem.W.Fast.tw3009611469617929815 : True := True.intro
theorem PySem.W.Fast.tw2965227676048767801 : True := True.intro
theorem PySem.W.Fast.tw17489148595059449625 : True := True.intro
theorem PySem.W.Fast.tw5784287089165195251 : True := True.intro
theorem PySem.W.Fast.tw11773437129886510880 : True := True.intro
theorem PySem.W.Fast.tw12185977546481640791 : True := True.intro
theorem PySem.W.Fast.tw1905192505669100682 : True := True.intro
theorem PySem.W.Fast.tw2803380955763529626 : True := True.intro
theorem PySem.W.Fast.tw1749909749577703293 : True := True.intro
theorem PySem.W.Fast.tw1320371936871727467 : True := True.intro
theorem PySem.W.Fast.tw15346347108775607751 : True := True.intro
theorem PySem.W.Fast.tw12121637423827819705 : True := True.intro
theorem PySem.W.Fast.tw8566554338422198004 : True := True.intro
theorem PySem.W.Fast.tw17881469160774182772 : True := True.intro
theorem PySem.W.Fast.tw7764013297133907027 : True := True.intro
theorem PySem.W.Fast.tw4596279657241730694 : True := True.intro
theorem PySem.W.Fast.tw11785263528948959342 : True := True.intro
theorem PySem.W.Fast.tw427750048248342695 : True := True.intro
theorem PySem.W.Fast.tw13728045564179782437 : True := True.intro
theorem PySem.W.Fast.tw13376202861037636556 : True := True.intro
theorem PySem.W.Fast.tw18051010854397901382 : True := True.intro
theorem PySem.W.Fast.tw4762833945471858679 : True := True.intro
theorem PySem.W.Fast.tw161699453774188934 : True := True.intro
theorem PySem.W.Fast.tw7348682951234521259 : True := True.intro
theorem PySem.W.Fast.tw10119344445354514626 : True := True.intro
theorem PySem.W.Fast.tw13037614535291305580 : True := True.intro
theorem PySem.W.Fast.tw569883545413475603 : True := True.intro
theorem PySem.W.Fast.tw8321536404522941750 : True := True.intro
theorem PySem.W.Fast.tw9887759465304092689 : True := True.intro
theorem PySem.W.Fast.tw14933819181323959491 : True := True.intro
theorem PySem.W.Fast.tw15646637033367520440 : True := True.intro
theorem PySem.W.Fast.tw16683615193256047447 : True := True.intro
theorem PySem.W.Fast.tw11275747154226858608 : True := True.intro
theorem PySem.W.Fast.tw17383303628908662123 : True := True.intro
theorem PySem.W.Fast.tw12411828599669967400 : True := True.intro
theorem PySem.W.Fast.tw3329981876807639448 : True := True.intro
theorem PySem.W.Fast.tw13692180584005078686 : True := True.intro
theorem PySem.W.Fast.tw13466728663930931668 : True := True.intro
theorem PySem.W.Fast.tw16555096124093498231 : True := True.intro
theorem PySem.W.Fast.tw11839423647833792645 : True := True.intro
theorem PySem.W.Fast.tw5457823120357617959 : True := True.intro
theorem PySem.W.Fast.tw67447154610948467 : True := True.intro
theorem PySem.W.Fast.tw14239099793058546587 : True := True.intro
theorem PySem.W.Fast.tw3976097082304978969 : True := True.intro
theorem PySem.W.Fast.tw7763213453388494238 : True := True.intro
theorem PySem.W.Fast.tw13727918633016480893 : True := True.intro
theorem PySem.W.Fast.tw3214331112330981757 : True := True.intro
theorem PySem.W.Fast.tw15798120626038607084 : True := True.intro
theorem PySem.W.Fast.tw17017087886252283558 : True := True.intro
theorem PySem.W.Fast.tw774169926250761557 : True := True.intro
theorem PySem.W.Fast.tw1229855253769571612 : True := True.intro
theorem PySem.W.Fast.tw17924305418688727581 : True := True.intro
theorem PySem.W.Fast.tw10788354366872408556 : True := True.intro
theorem PySem.W.Fast.tw1342183452148251038 : True := True.intro
theorem PySem.W.Fast.tw367960758779811070 : True := True.intro
theorem PySem.W.Fast.tw4362317499443842255 : True := True.intro
theorem PySem.W.Fast.tw10956842343498693562 : True := True.intro
theorem PySem.W.Fast.tw11844660354897025276 : True := True.intro
theorem PySem.W.Fast.tw11730115863676567554 : True := True.intro
theorem PySem.W.Fast.tw215186953815436744 : True := True.intro
theorem PySem.W.Fast.tw6995889848781129585 : True := True.intro
theorem PySem.W.Fast.tw10646376419343466003 : True := True.intro
theorem PySem.W.Fast.tw2776848894827568453 : True := True.intro
theorem PySem.W.Fast.tw4736337116766991376 : True := True.intro
theorem PySem.W.Fast.tw11640475386274410286 : True := True.intro
theorem PySem.W.Fast.tw11692878375567486326 : True := True.intro
theorem PySem.W.Fast.tw15500927913380527763 : True := True.intro
theorem PySem.W.Fast.tw10165600052990390661 : True := True.intro
theorem PySem.W.Fast.tw12474980231486217155 : True := True.intro
theorem PySem.W.Fast.tw13349940725067111540 : True := True.intro
theorem PySem.W.Fast.tw3541571113303077134 : True := True.intro
theorem PySem.W.Fast.tw17319558593441928939 : True := True.intro
theorem PySem.W.Fast.tw7797906779256837640 : True := True.intro
theorem PySem.W.Fast.tw3766674054455606881 : True := True.intro
theorem PySem.W.Fast.tw7036042311260880283 : True := True.intro
theorem PySem.W.Fast.tw7067225081593281487 : True := True.intro
theorem PySem.W.Fast.tw3869205143485915634 : True := True.intro
theorem PySem.W.Fast.tw3626261528242271305 : True := True.intro
theorem PySem.W.Fast.tw5459051116471797112 : True := True.intro
theorem PySem.W.Fast.tw1295739875073837582 : True := True.intro
theorem PySem.W.Fast.tw11440237600432174381 : True := True.intro
theorem PySem.W.Fast.tw16771132437897782534 : True := True.intro
theorem PySem.W.Fast.tw6817798072707547346 : True := True.intro
theorem PySem.W.Fast.tw3249180050157641165 : True := True.intro
theorem PySem.W.Fast.tw5040919846189235769 : True := True.intro
theorem PySem.W.Fast.tw6454933635571270890 : True := True.intro
theorem PySem.W.Fast.tw7022792989356149683 : True := True.intro
theorem PySem.W.Fast.tw6534986659134957919 : True := True.intro
theorem PySem.W.Fast.tw6282504573274321526 : True := True.intro
theorem PySem.W.Fast.tw7379005760738148082 : True := True.intro
theorem PySem.W.Fast.tw1713821552148786784 : True := True.intro
theorem PySem.W.Fast.tw5255860330791115840 : True := True.intro
theorem PySem.W.Fast.tw12113171487553571299 : True := True.intro
theorem PySem.W.Fast.tw7509519620137549985 : True := True.intro
theorem PySem.W.Fast.tw15555931237824565679 : True := True.intro
theorem PySem.W.Fast.tw10280390177184353967 : True := True.intro
theorem PySem.W.Fast.tw7636582264968189229 : True := True.intro
theorem PySem.W.Fast.tw635423898550450308 : True := True.intro
theorem PySem.W.Fast.tw3712955415661775682 : True := True.intro
theorem PySem.W.Fast.tw10970993247615031937 : True := True.intro
theorem PySem.W.Fast.tw14075514410642762072 : True := True.intro
theorem PySem.W.Fast.tw16864272592916264972 : True := True.intro
theorem PySem.W.Fast.tw2639334597519315434 : True := True.intro
theorem PySem.W.Fast.tw3142552342207305749 : True := True.intro
theorem PySem.W.Fast.tw1979257694043665263 : True := True.intro
theorem PySem.W.Fast.tw12987259221902435244 : True := True.intro
theorem PySem.W.Fast.tw1794923666646459234 : True := True.intro
theorem PySem.W.Fast.tw4799800596949909211 : True := True.intro
theorem PySem.W.Fast.tw5057552774235057444 : True := True.intro
theorem PySem.W.Fast.tw5393634001208656734 : True := True.intro
theorem PySem.W.Fast.tw738735322547532488 : True := True.intro
theorem PySem.W.Fast.tw5723470781666062433 : True := True.intro
theorem PySem.W.Fast.tw14516592002228490160 : True := True.intro
theorem PySem.W.Fast.tw16315681979962821628 : True := True.intro
theorem PySem.W.Fast.tw16288255209912657925 : True := True.intro
theorem PySem.W.Fast.tw10953328936962481411 : True := True.intro
theorem PySem.W.Fast.tw5557258207536839628 : True := True.intro
theorem PySem.W.Fast.tw6480676027727605058 : True := True.intro
theorem PySem.W.Fast.tw15164883424925938016 : True := True.intro
theorem PySem.W.Fast.tw9237345104061439706 : True := True.intro
theorem PySem.W.Fast.tw5116132137161711657 : True := True.intro
theorem PySem.W.Fast.tw9797005591978718372 : True := True.intro
theorem PySem.W.Fast.tw11705684637758973353 : True := True.intro
theorem PySem.W.Fast.tw7535902710621493523 : True := True.intro
theorem PySem.W.Fast.tw10733073400866926184 : True := True.intro
theorem PySem.W.Fast.tw9012232651404965667 : True := True.intro
theorem PySem.W.Fast.tw4626797337116561641 : True := True.intro
theorem PySem.W.Fast.tw15159403455469472669 : True := True.intro
theorem PySem.W.Fast.tw10933065067585725410 : True := True.intro
theorem PySem.W.Fast.tw8138827209199115592 : True := True.intro
theorem PySem.W.Fast.tw3523989556882027721 : True := True.intro
theorem PySem.W.Fast.tw1233888006120906120 : True := True.intro
theorem PySem.W.Fast.tw2606641194174686106 : True := True.intro
theorem PySem.W.Fast.tw10381015939315753119 : True := True.intro
theorem PySem.W.Fast.tw206695750399659904 : True := True.intro
theorem PySem.W.Fast.tw9855606822591798890 : True := True.intro
theorem PySem.W.Fast.tw12490531452050364123 : True := True.intro
theorem PySem.W.Fast.tw12941533200521223218 : True := True.intro
theorem PySem.W.Fast.tw18130820050481380660 : True := True.intro
theorem PySem.W.Fast.tw10548630030966145475 : True := True.intro
theorem PySem.W.Fast.tw6326872945633453518 : True := True.intro
theorem PySem.W.Fast.tw17933319244005513728 : True := True.intro
theorem PySem.W.Fast.tw12952618343727103439 : True := True.intro
theorem PySem.W.Fast.tw6864776996220416933 : True := True.intro
theorem PySem.W.Fast.tw11901222703535408283 : True := True.intro
theorem PySem.W.Fast.tw17130577381520927458 : True := True.intro
theorem PySem.W.Fast.tw11434549783630014174 : True := True.intro
theorem PySem.W.Fast.tw14360585824761061635 : True := True.intro
theorem PySem.W.Fast.tw8626407187006358774 : True := True.intro
theorem PySem.W.Fast.tw1247692552773543160 : True := True.intro
theorem PySem.W.Fast.tw17761549356023094791 : True := True.intro
theorem PySem.W.Fast.tw12499646390954391963 : True := True.intro
theorem PySem.W.Fast.tw3610704082156160387 : True := True.intro
theorem PySem.W.Fast.tw13533173824405672690 : True := True.intro
theorem PySem.W.Fast.tw15383228602852704250 : True := True.intro
theorem PySem.W.Fast.tw2629779327389318400 : True := True.intro
theorem PySem.W.Fast.tw3380300829899888638 : True := True.intro
theorem PySem.W.Fast.tw15656078468720897816 : True := True.intro
theorem PySem.W.Fast.tw12410809973854732762 : True := True.intro
theorem PySem.W.Fast.tw2247495475335399171 : True := True.intro
theorem PySem.W.Fast.tw1440187574442731202 : True := True.intro
theorem PySem.W.Fast.tw14322950893478386513 : True := True.intro
theorem PySem.W.Fast.tw9099697893794149039 : True := True.intro
theorem PySem.W.Fast.tw1354932256373868854 : True := True.intro
theorem PySem.W.Fast.tw4936173765757287091 : True := True.intro
theorem PySem.W.Fast.tw215101925381770951 : True := True.intro
theorem PySem.W.Fast.tw2304842768846779302 : True := True.intro
theorem PySem.W.Fast.tw1747591357775016308 : True := True.intro
theorem PySem.W.Fast.tw5936366987535793574 : True := True.intro
theorem PySem.W.Fast.tw13340430995632650886 : True := True.intro
theorem PySem.W.Fast.tw8301111616257917423 : True := True.intro
theorem PySem.W.Fast.tw11230295357992848066 : True := True.intro
theorem PySem.W.Fast.tw14403980893723879275 : True := True.intro
theorem PySem.W.Fast.tw4853088762727584851 : True := True.intro
theorem PySem.W.Fast.tw4422845576796049139 : True := True.intro
theorem PySem.W.Fast.tw7881843180678225634 : True := True.intro
theorem PySem.W.Fast.tw1742547180976102712 : True := True.intro
theorem PySem.W.Fast.tw14270320056717301261 : True := True.intro
theorem PySem.W.Fast.tw13800937444654715763 : True := True.intro
theorem PySem.W.Fast.tw16452943218134242108 : True := True.intro
theorem PySem.W.Fast.tw12532574037487928988 : True := True.intro
theorem PySem.W.Fast.tw8781815096152333583 : True := True.intro
theorem PySem.W.Fast.tw13878310679838220328 : True := True.intro
theorem PySem.W.Fast.tw13672184822360694543 : True := True.intro
theorem PySem.W.Fast.tw12119543131448928829 : True := True.intro
theorem PySem.W.Fast.tw4233092100477997806 : True := True.intro
theorem PySem.W.Fast.tw6063549209398083605 : True := True.intro
theorem PySem.W.Fast.tw13877297070911934933 : True := True.intro
theorem PySem.W.Fast.tw16534422728733030118 : True := True.intro
theorem PySem.W.Fast.tw3805529769158638695 : True := True.intro
theorem PySem.W.Fast.tw9048164831441158161 : True := True.intro
theorem PySem.W.Fast.tw8184995724737493024 : True := True.intro
theorem PySem.W.Fast.tw5619474338286250115 : True := True.intro
theorem PySem.W.Fast.tw16548473196547729091 : True := True.intro
theorem PySem.W.Fast.tw11132648603815453066 : True := True.intro
theorem PySem.W.Fast.tw6474847319408414772 : True := True.intro
theorem PySem.W.Fast.tw1854418723526090702 : True := True.intro
theorem PySem.W.Fast.tw11638715702236296109 : True := True.intro
theorem PySem.W.Fast.tw3616535246984205892 : True := True.intro
theorem PySem.W.Fast.tw8762895323359280586 : True := True.intro
theorem PySem.W.Fast.tw14907941735518842657 : True := True.intro
theorem PySem.W.Fast.tw4923183813796583153 : True := True.intro
theorem PySem.W.Fast.tw4238721593414726571 : True := True.intro
theorem PySem.W.Fast.tw18302026961609764569 : True := True.intro
theorem PySem.W.Fast.tw10906816127562916223 : True := True.intro
theorem PySem.W.Fast.tw12047990492355494184 : True := True.intro
theorem PySem.W.Fast.tw10906024862795460813 : True := True.intro
theorem PySem.W.Fast.tw5285810920351756538 : True := True.intro
theorem PySem.W.Fast.tw13973639121604091138 : True := True.intro
theorem PySem.W.Fast.tw7964699491984712321 : True := True.intro
theorem PySem.W.Fast.tw11903844477170712607 : True := True.intro
theorem PySem.W.Fast.tw11891784364654345665 : True := True.intro
theorem PySem.W.Fast.tw4745514779372062912 : True := True.intro
theorem PySem.W.Fast.tw11360738431333971283 : True := True.intro
theorem PySem.W.Fast.tw12994491415036264311 : True := True.intro
theorem PySem.W.Fast.tw1077055226941303512 : True := True.intro
theorem PySem.W.Fast.tw12178646431076512191 : True := True.intro
theorem PySem.W.Fast.tw11633156864847248014 : True := True.intro
theorem PySem.W.Fast.tw10546194602643370828 : True := True.intro
theorem PySem.W.Fast.tw3756541530548803609 : True := True.intro
theorem PySem.W.Fast.tw14113614065465585240 : True := True.intro
theorem PySem.W.Fast.tw18420418699968002752 : True := True.intro
theorem PySem.W.Fast.tw1007885328627713691 : True := True.intro
theorem PySem.W.Fast.tw16996591908376118882 : True := True.intro
theorem PySem.W.Fast.tw2081190662978460356 : True := True.intro
theorem PySem.W.Fast.tw14736639051000316652 : True := True.intro
theorem PySem.W.Fast.tw365958118794030028 : True := True.intro
theorem PySem.W.Fast.tw2080618077659005760 : True := True.intro
theorem PySem.W.Fast.tw5920616697555665862 : True := True.intro
theorem PySem.W.Fast.tw15558527987179044883 : True := True.intro
theorem PySem.W.Fast.tw10846994336403121653 : True := True.intro
theorem PySem.W.Fast.tw12272821473395415501 : True := True.intro
theorem PySem.W.Fast.tw15310411168708120594 : True := True.intro
theorem PySem.W.Fast.tw7443928986957234419 : True := True.intro
theorem PySem.W.Fast.tw9485924067084124798 : True := True.intro
theorem PySem.W.Fast.tw15482125056683474480 : True := True.intro
theorem PySem.W.Fast.tw5138481840150161562 : True := True.intro
theorem PySem.W.Fast.tw12976377834032040014 : True := True.intro
theorem PySem.W.Fast.tw11392353744225788746 : True := True.intro
theorem PySem.W.Fast.tw17607527637874644107 : True := True.intro
theorem PySem.W.Fast.tw16615564276798230047 : True := True.intro
theorem PySem.W.Fast.tw9008961080534128852 : True := True.intro
theorem PySem.W.Fast.tw6613264007917456251 : True := True.intro
theorem PySem.W.Fast.tw975002265809456930 : True := True.intro
theorem PySem.W.Fast.tw1550189395058704888 : True := True.intro
theorem PySem.W.Fast.tw8668745846913479431 : True := True.intro
theorem PySem.W.Fast.tw5932375930821281207 : True := True.intro
theorem PySem.W.Fast.tw14729067651069086648 : True := True.intro
theorem PySem.W.Fast.tw15893379344484508815 : True := True.intro
theorem PySem.W.Fast.tw10447457371777516681 : True := True.intro
theorem PySem.W.Fast.tw7496031156365045000 : True := True.intro
theorem PySem.W.Fast.tw13087639374506637365 : True := True.intro
theorem PySem.W.Fast.tw14329658022404645762 : True := True.intro
theorem PySem.W.Fast.tw17978925399060487351 : True := True.intro
theorem PySem.W.Fast.tw10569234109166610490 : True := True.intro
theorem PySem.W.Fast.tw4608040358746476535 : True := True.intro
theorem PySem.W.Fast.tw5541674328953130566 : True := True.intro
theorem PySem.W.Fast.tw13332827378354353892 : True := True.intro
theorem PySem.W.Fast.tw1838873417429053134 : True := True.intro
theorem PySem.W.Fast.tw5685411080741545214 : True := True.intro
theorem PySem.W.Fast.tw11499098384906067090 : True := True.intro
theorem PySem.W.Fast.tw2144692460068670707 : True := True.intro
theorem PySem.W.Fast.tw9479003933436747616 : True := True.intro
theorem PySem.W.Fast.tw2887551266695284102 : True := True.intro
theorem PySem.W.Fast.tw13704750905569095491 : True := True.intro
theorem PySem.W.Fast.tw8313902487976752219 : True := True.intro
theorem PySem.W.Fast.tw249297490484879324 : True := True.intro
theorem PySem.W.Fast.tw15163303694878755611 : True := True.intro
theorem PySem.W.Fast.tw4145394311797687646 : True := True.intro
theorem PySem.W.Fast.tw10340018277707333664 : True := True.intro
open PySem PySem.W PyProof.Rows in
set_option maxRecDepth 100000 in
set_option maxHeartbeats 0 in
theorem PySem.Challenge.cw_neverlate_k81_dominating_tables_holds : PySem.Challenge.rw_neverlate_k81_dominating_tables.Holds := by
  w_on; o_law; k_head; (case hw => w_witness2)
  k_fill
  refine My.walk (l := PySem.Challenge.rw_neverlate_k81_dominating_tables) rfl rfl (fun w h Y => PySem.W.kIn_of Y) ?hF
  case hF =>
    intro w mg fa h KX G hmg
    refine' My.all_mk KX G hmg ?z_abs ?z_bool ?z_enumerate ?z_int ?z_isinstance ?z_len ?z_list ?z_max ?z_min ?z_range ?z_sum ?z_tuple ?z_zip ?z_lcm ?g_law_row ?l_law_row ?c_law_row ?k_law_row ?g_law_numbers ?l_law_numbers ?c_law_numbers ?k_law_numbers ?g_sums ?l_sums ?c_sums ?k_sums ?g_least_supplies ?l_least_supplies ?c_least_supplies ?k_least_supplies ?g_common_length ?l_common_length ?c_common_length ?k_common_length ?g_first_shortage ?l_first_shortage ?c_first_shortage ?k_first_shortage ?g_dominates ?l_dominates ?c_dominates ?k_dominates ?g_supply_bound ?l_supply_bound ?c_supply_bound ?k_supply_bound ?g_law_is_integer ?l_law_is_integer ?c_law_is_integer ?k_law_is_integer ?g_law_is_integero ?l_law_is_integero ?c_law_is_integero ?k_law_is_integero ?g_law_slot ?l_law_slot ?c_law_slot ?k_law_slot ?g_law_least ?l_law_least ?c_law_least ?k_law_least ?g_law_tables ?l_law_tables ?c_law_tables ?k_law_tables ?g_law_bound ?l_law_bound ?c_law_bound ?k_law_bound ?g_law ?l_law ?c_law ?k_law
    (case z_abs => k_is)
    (case z_bool => k_is)
    (case z_enumerate => k_is)
    (case z_int => k_is)
    (case z_isinstance => k_is)
    (case z_len => k_is)
    (case z_list => k_is)
    (case z_max => k_is)
    (case z_min => k_is)
    (case z_range => k_is)
    (case z_sum => k_is)
    (case z_tuple => k_is)
    (case z_zip => k_is)
    (case z_lcm => k_is)
    (case g_law_row => k_is)
    (case l_law_row => k_is)
    (case c_law_row => k_is)
    (case k_law_row => k_is)
    (case g_law_numbers => k_is)
    (case l_law_numbers => k_is)
    (case c_law_numbers => k_is)
    (case k_law_numbers => k_is)
    (case g_sums => k_is)
    (case l_sums => k_is)
    (case c_sums => k_is)
    (case k_sums => k_is)
    (case g_least_supplies => k_is)
    (case l_least_supplies => k_is)
    (case c_least_supplies => k_is)
    (case k_least_supplies => k_is)
    (case g_common_length => k_is)
    (case l_common_length => k_is)
    (case c_common_length => k_is)
    (case k_common_length => k_is)
    (case g_first_shortage => k_is)
    (case l_first_shortage => k_is)
    (case c_first_shortage => k_is)
    (case k_first_shortage => k_is)
    (case g_dominates => k_is)
    (case l_dominates => k_is)
    (case c_dominates => k_is)
    (case k_dominates => k_is)
    (case g_supply_bound => k_is)
    (case l_supply_bound => k_is)
    (case c_supply_bound => k_is)
    (case k_supply_bound => k_is)
    (case g_law_is_integer => k_is)
    (case l_law_is_integer => k_is)
    (case c_law_is_integer => k_is)
    (case k_law_is_integer => k_is)
    (case g_law_is_integero => k_is)
    (case l_law_is_integero => k_is)
    (case c_law_is_integero => k_is)
    (case k_law_is_integero => k_is)
    (case g_law_slot => k_is)
    (case l_law_slot => k_is)
    (case c_law_slot => k_is)
    (case k_law_slot => k_is)
    (case g_law_least => k_is)
    (case l_law_least => k_is)
    (case c_law_least => k_is)
    (case k_law_least => k_is)
    (case g_law_tables => k_is)
    (case l_law_tables => k_is)
    (case c_law_tables => k_is)
    (case k_law_tables => k_is)
    (case g_law_bound => k_is)
    (case l_law_bound => k_is)
    (case c_law_bound => k_is)
    (case k_law_bound => k_is)
    (case g_law => k_is)
    (case l_law => k_is)
    (case c_law => k_is)
    (case k_law => k_is)
