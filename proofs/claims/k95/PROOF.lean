import PyProof.Rows.All
import Wide.All
import OpenK.AllK
import Wide.FinOn
import HandS.ForMost
import HandS.ForExc
import HandS.IsInst
import HandS.Gcd
import HandS.Wide
import HandS.Property
import HandS.MakeKw
import HandS.MakeKwOnly
import HandS.Iter
import HandS.Strs
import HandS.Text
import KE.GoesMore
import PyProof.EnumMake
import KE.DataEq
import HandS.Style
import KE.KTupSum
import KE.DatumOrd
import HandS.SortKw
import HandS.Defaults
import KE.KMathGC
import KE.GoesZip
import KE.GoesEnum
import KE.SortData
import KE.DataCmp
import HandS.CallSlots
import HandS.ExcIs
import HandS.ExcField
import HandS.ExcInit
import HandS.Nested
import HandS.FStr
import HandS.ExcSuper
import HandS.TryOnly
import KE.KExcSuper
import KE.KExcIs
import PyProof.FitsInt
import PyProof.StrBlock2
import HandS.RaiseMore
import HandS.StrMore
import PyProof.NoPylong
import PyProof.Rows.RuleDivmod
import PyProof.Rows.InDataRows
import PyProof.StrLawsIn
import KE.IntTextLaws
import PySem.Challenge.RW_neverlate_k95_words_of_a_session
set_option Elab.async false
set_option linter.all false
set_option maxRecDepth 100000
set_option maxHeartbeats 0
namespace Nz
open PySem PySem.Spec PyProof.Rows L2
/-- data that never changes any more -/
inductive D where
  | non | bl (b : Bool) | int (i : Int) | str (s : Str)
  | tup (xs : List D) | lst (xs : List D) | obj (c : Str) (fs : List (Str × D))
abbrev Frag := PySem.W.Frag
abbrev Mg := Str → Option Value
mutual
inductive Rep (K : Frag) (mg : Mg) (F : Hp) : D → V → Prop
  | non : Rep K mg F .non .non
  | bl (b : Bool) : Rep K mg F (.bl b) (.bl b)
  | int (i : Int) : Rep K mg F (.int i) (.int i)
  | str (s : Str) : Rep K mg F (.str s) (.str s)
  | tup {a : Addr} {ds : List D} {vs : List V} : SqT K F a vs → Reps K mg F ds vs → Rep K mg F (.tup ds) (.ref a)
  | lst {a : Addr} {ds : List D} {vs : List V} : SqL K F a vs → Reps K mg F ds vs → Rep K mg F (.lst ds) (.ref a)
  | obj {a dx C : Addr} {c : Str} {fs : List (Str × D)} {vs : List (Str × V)} : mg c = some (.ref C) → F a = some (.ins C dx vs) → F dx = some (.own a) →
      RepF K mg F fs vs → Rep K mg F (.obj c fs) (.ref a)
inductive Reps (K : Frag) (mg : Mg) (F : Hp) : List D → List V → Prop
  | nil : Reps K mg F [] []
  | cons {d : D} {v : V} {ds : List D} {vs : List V} : Rep K mg F d v → Reps K mg F ds vs → Reps K mg F (d :: ds) (v :: vs)
inductive RepF (K : Frag) (mg : Mg) (F : Hp) : List (Str × D) → List (Str × V) → Prop
  | nil : RepF K mg F [] []
  | cons {n : Str} {d : D} {v : V} {ds : List (Str × D)} {vs : List (Str × V)} : Rep K mg F d v → RepF K mg F ds vs → RepF K mg F ((n, d) :: ds) ((n, v) :: vs)
end
theorem _root_.L2.Same.seqT {K : Frag} {H H' : Hp} {a : Addr} {xs : List V} (e : Same H H') (h : SqT K H a xs) : SqT K H' a xs := by
  rcases h with (h | ⟨o, h⟩) | h
  · exact .inl (.inl (e _ _ h))
  · exact .inl (.inr ⟨o, e _ _ h⟩)
  · exact .inr h
section
variable {K : Frag} {mg : Mg} {F F' : Hp}
mutual
theorem Rep.mono (s : Same F F') : ∀ {d : D} {v : V}, Rep K mg F d v → Rep K mg F' d v
  | _, _, .non => .non
  | _, _, .bl b => .bl b
  | _, _, .int i => .int i
  | _, _, .str x => .str x
  | _, _, .tup h r => .tup (s.seqT h) (Reps.mono s r)
  | _, _, .lst h r => .lst (s.seq h) (Reps.mono s r)
  | _, _, .obj m h1 h2 r => .obj m (s _ _ h1) (s _ _ h2) (RepF.mono s r)
theorem Reps.mono (s : Same F F') : ∀ {d : List D} {v : List V}, Reps K mg F d v → Reps K mg F' d v
  | _, _, .nil => .nil
  | _, _, .cons h r => .cons (Rep.mono s h) (Reps.mono s r)
theorem RepF.mono (s : Same F F') : ∀ {d : List (Str × D)} {v : List (Str × V)}, RepF K mg F d v → RepF K mg F' d v
  | _, _, .nil => .nil
  | _, _, .cons h r => .cons (Rep.mono s h) (RepF.mono s r)
end
theorem Reps.length : ∀ {ds : List D} {vs : List V}, Reps K mg F ds vs → ds.length = vs.length
  | _, _, .nil => rfl
  | _, _, .cons _ r => congrArg (· + 1) (Reps.length r)
theorem Reps.get : ∀ {ds : List D} {vs : List V} {i : Nat} {d : D}, Reps K mg F ds vs → ds[i]? = some d → ∃ v, vs[i]? = some v ∧ Rep K mg F d v
  | _, _, _, _, .nil, h => by simp at h
  | _, _, 0, _, .cons h r, e => by simp at e; subst e; exact ⟨_, rfl, h⟩
  | _, _, i + 1, _, .cons h r, e => by
    obtain ⟨v, h1, h2⟩ := Reps.get (i := i) r (by simpa using e)
    exact ⟨v, by simpa using h1, h2⟩
theorem Reps.append : ∀ {ds es : List D} {vs us : List V}, Reps K mg F ds vs → Reps K mg F es us → Reps K mg F (ds ++ es) (vs ++ us)
  | _, _, _, _, .nil, s => s
  | _, _, _, _, .cons h r, s => .cons h (r.append s)
theorem Reps.ints : ∀ {ns : List Int}, Reps K mg F (ns.map D.int) (ns.map V.int)
  | [] => .nil
  | _ :: ns => .cons (.int _) (Reps.ints (ns := ns))
theorem Reps.set : ∀ {ds : List D} {vs : List V} (i : Nat) {d : D} {v : V}, Reps K mg F ds vs → Rep K mg F d v → Reps K mg F (ds.set i d) (vs.set i v)
  | _, _, _, _, _, .nil, _ => .nil
  | _, _, 0, _, _, .cons _ r, h => .cons h r
  | _, _, i + 1, _, _, .cons q r, h => .cons q (r.set i h)
theorem Reps.take : ∀ {ds : List D} {vs : List V} (i : Nat), Reps K mg F ds vs → Reps K mg F (ds.take i) (vs.take i)
  | _, _, 0, _ => by simpa using Reps.nil
  | _, _, _ + 1, .nil => .nil
  | _, _, i + 1, .cons q r => .cons q (r.take i)
theorem Reps.drop : ∀ {ds : List D} {vs : List V} (i : Nat), Reps K mg F ds vs → Reps K mg F (ds.drop i) (vs.drop i)
  | _, _, 0, r => r
  | _, _, _ + 1, .nil => .nil
  | _, _, i + 1, .cons _ r => r.drop i
end
/-- a cell: frozen data, or the live object of this name -/
inductive Ce where
  | fr (d : D) | ad (n : Nat) | xv (u : V)
/-- a live object -/
inductive LO where
  | fl (ds : List D)                    -- a list of frozen data
  | cl (cs : List Ce)                   -- a list of cells
  | ins (c : Str) (fs : List (Str × Ce)) -- an instance
  | dT (kvs : List (List Key × D))
  | dK (kvs : List (Key × Ce))
/-- a state: the slots, the live objects -/
structure S where
  ρ : List (Option Ce)
  L : List (Nat × LO)
def names (L : List (Nat × LO)) : List Nat := L.map (·.1)
def CRel (K : Frag) (mg : Mg) (F : Hp) (α : Nat → Addr) (L : List (Nat × LO)) (c : Ce) (v : V) : Prop :=
  match c with
  | .fr d => Rep K mg F d v
  | .ad n => n ∈ names L ∧ v = .ref (α n)
  | .xv u => v = u
inductive CRels (K : Frag) (mg : Mg) (F : Hp) (α : Nat → Addr) (L : List (Nat × LO)) : List Ce → List V → Prop
  | nil : CRels K mg F α L [] []
  | cons {c : Ce} {v : V} {cs : List Ce} {vs : List V} : CRel K mg F α L c v → CRels K mg F α L cs vs → CRels K mg F α L (c :: cs) (v :: vs)
inductive CRelF (K : Frag) (mg : Mg) (F : Hp) (α : Nat → Addr) (L : List (Nat × LO)) : List (Str × Ce) → List (Str × V) → Prop
  | nil : CRelF K mg F α L [] []
  | cons {n : Str} {c : Ce} {v : V} {cs : List (Str × Ce)} {vs : List (Str × V)} : CRel K mg F α L c v → CRelF K mg F α L cs vs → CRelF K mg F α L ((n, c) :: cs) ((n, v) :: vs)
inductive CRelK {κ : Type} (K : Frag) (mg : Mg) (F : Hp) (α : Nat → Addr) (L : List (Nat × LO)) : List (κ × Ce) → List (κ × V) → Prop
  | nil : CRelK K mg F α L [] []
  | cons {n : κ} {c : Ce} {v : V} {cs : List (κ × Ce)} {vs : List (κ × V)} : CRel K mg F α L c v → CRelK K mg F α L cs vs → CRelK K mg F α L ((n, c) :: cs) ((n, v) :: vs)
/-- the slots -/
inductive SlR (K : Frag) (mg : Mg) (F : Hp) (α : Nat → Addr) (L : List (Nat × LO)) : List (Option Ce) → L2.St → Prop
  | nil : SlR K mg F α L [] []
  | no {o : Option V} {cs : List (Option Ce)} {vs : L2.St} : SlR K mg F α L cs vs → SlR K mg F α L (none :: cs) (o :: vs)
  | so {c : Ce} {v : V} {cs : List (Option Ce)} {vs : L2.St} : CRel K mg F α L c v → SlR K mg F α L cs vs → SlR K mg F α L (some c :: cs) (some v :: vs)
/-- what a def was entered with: the frozen heap, the heap, what it may change -/
structure Bd where
  F0 : Hp
  H0 : Hp
  fp : Addr → Prop
  pa : Nat → Option Addr
  hpa : ∀ n, 100 ≤ n → pa n = none
/-- the live object o stands at a -/
def LAt (K : Frag) (mg : Mg) (B : Bd) (F : Hp) (α : Nat → Addr) (L : List (Nat × LO)) (H : Hp) (a : Addr) : LO → Prop
  | .fl ds => ∃ vs, H a = some (.lst vs) ∧ Reps K mg F ds vs
  | .cl cs => ∃ vs, H a = some (.lst vs) ∧ CRels K mg F α L cs vs
  | .ins c fs => ∃ C dx vs, mg c = some (.ref C) ∧ H a = some (.ins C dx vs) ∧ H dx = some (.own a) ∧ F dx = none ∧ (B.H0 dx = none ∨ B.fp dx) ∧ CRelF K mg F α L fs vs
  | .dT kvs => ∃ vs, H a = some (.dT vs) ∧ Paired (fun (p : List Key × D) (q : List Key × V) => p.1 = q.1 ∧ Rep K mg F p.2 q.2) kvs vs
  | .dK kvs => ∃ vs, H a = some (.dK vs) ∧ CRelK K mg F α L kvs vs
structure Rel (K : Frag) (mg : Mg) (B : Bd) (F : Hp) (α : Nat → Addr) (H : Hp) (σ : L2.St) (S : S) : Prop where
  sub : Same F H
  bF : Same B.F0 F
  nF : ∀ b o, F b = some o → B.F0 b = some o ∨ B.H0 b = none ∨ B.fp b
  frame : ∀ b o, B.H0 b = some o → ¬ B.fp b → H b = some o
  nd : (names S.L).Nodup
  inj : ∀ n m, n ∈ names S.L → m ∈ names S.L → α n = α m → n = m
  live : ∀ n o, (n, o) ∈ S.L → F (α n) = none ∧ (B.H0 (α n) = none ∨ B.fp (α n)) ∧ LAt K mg B F α S.L H (α n) o
  slots : SlR K mg F α S.L S.ρ σ
  fix : ∀ n a, B.pa n = some a → n ∈ names S.L → α n = a
/-- a step keeps what is frozen, and the names of what lives -/
structure Stp (F : Hp) (α : Nat → Addr) (L : List (Nat × LO)) (F' : Hp) (α' : Nat → Addr) : Prop where
  fro : Same F F'
  nm : ∀ n, n ∈ names L → α' n = α n
def wE (X : Cx) (e : Expr) (σ : L2.St) (H : Hp) (Q : VK) : Prop :=
  ∀ pins s, Inv X pins σ H s → wpAny (model X.prog X.w) X.A (eval e X.env) (EP X pins σ Q) X.xe s
def wT (X : Cx) (e : Expr) (σ : L2.St) (H : Hp) (Q : Bool → Hp → Prop) : Prop :=
  ∀ pins s, Inv X pins σ H s → wpAny (model X.prog X.w) X.A (isTrue e X.env (eval e X.env)) (TP X pins σ Q) X.xe s
def wA (X : Cx) (es : List Expr) (σ : L2.St) (H : Hp) (Q : List V → Hp → Prop) : Prop :=
  ∀ pos pins s, Inv X pins σ H s → wpAny (model X.prog X.w) X.A (spliced (backTo pos (starEach es X.env))) (AP X pins σ Q) X.xe s
def wS (X : Cx) (st : Stmt) (D : Ends) (σ : L2.St) (H : Hp) : Prop :=
  ∀ pins s, Inv X pins σ H s → wpAny (model X.prog X.w) X.A (exec st X.env) (SP X pins D) X.xe s
def wSs (X : Cx) (st : List Stmt) (D : Ends) (σ : L2.St) (H : Hp) : Prop :=
  ∀ pins s, Inv X pins σ H s → wpAny (model X.prog X.w) X.A (execs st X.env) (SP X pins D) X.xe s
theorem pe_w {X : Cx} {e : Expr} : PE X e (wE X e) := ⟨fun pins s σ H Q I h => h pins s I⟩
theorem pt_w {X : Cx} {e : Expr} : PT X e (wT X e) := ⟨fun pins s σ H Q I h => h pins s I⟩
theorem pa_w {X : Cx} {e : List Expr} : PA X e (wA X e) := ⟨fun pos pins s σ H Q I h => h pos pins s I⟩
theorem ps_w {X : Cx} {e : Stmt} : PS X e (wS X e) := ⟨fun pins s σ H Q I h => h pins s I⟩
theorem pss_w {X : Cx} {e : List Stmt} : PSs X e (wSs X e) := ⟨fun pins s σ H Q I h => h pins s I⟩
theorem wE.of {X : Cx} {e : Expr} {t : TE} {σ : L2.St} {H : Hp} {Q : VK} (h : PE X e t) (q : t σ H Q) : wE X e σ H Q := fun pins s I => h.run pins s σ H Q I q
theorem wT.of {X : Cx} {e : Expr} {t : TT} {σ : L2.St} {H : Hp} {Q : Bool → Hp → Prop} (h : PT X e t) (q : t σ H Q) : wT X e σ H Q := fun pins s I => h.run pins s σ H Q I q
theorem wA.of {X : Cx} {e : List Expr} {t : TA} {σ : L2.St} {H : Hp} {Q : List V → Hp → Prop} (h : PA X e t) (q : t σ H Q) : wA X e σ H Q := fun pos pins s I => h.run pos pins s σ H Q I q
theorem wS.of {X : Cx} {e : Stmt} {t : TS} {σ : L2.St} {H : Hp} {D : Ends} (h : PS X e t) (q : t D σ H) : wS X e D σ H := fun pins s I => h.run pins s σ H D I q
theorem wSs.of {X : Cx} {e : List Stmt} {t : TS} {σ : L2.St} {H : Hp} {D : Ends} (h : PSs X e t) (q : t D σ H) : wSs X e D σ H := fun pins s I => h.run pins s σ H D I q
abbrev RelX (X : Cx) := Rel X.K X.mg
abbrev CR (X : Cx) := CRel X.K X.mg
/-- e in the state S gives c and leaves S' -/
def Ev (X : Cx) (B : Bd) (e : Expr) (S : S) (c : Ce) (S' : Nz.S) : Prop :=
  ∀ F α H σ Q, RelX X B F α H σ S → (∀ F' α' v H', RelX X B F' α' H' σ S' → Stp F α S.L F' α' → CR X F' α' S'.L c v → Q v H') → wE X e σ H Q
def Et (X : Cx) (B : Bd) (e : Expr) (S : S) (b : Bool) (S' : Nz.S) : Prop :=
  ∀ F α H σ Q, RelX X B F α H σ S → (∀ F' α' H', RelX X B F' α' H' σ S' → Stp F α S.L F' α' → Q b H') → wT X e σ H Q
def Ea (X : Cx) (B : Bd) (es : List Expr) (S : S) (cs : List Ce) (S' : Nz.S) : Prop :=
  ∀ F α H σ Q, RelX X B F α H σ S → (∀ F' α' vs H', RelX X B F' α' H' σ S' → Stp F α S.L F' α' → CRels X.K X.mg F' α' S'.L cs vs → Q vs H') → wA X es σ H Q
/-- how a statement ends -/
inductive Out where
  | nx (S : S) | ret (c : Ce) (S : S) | bk (S : S) | ct (S : S)
structure OutOk (X : Cx) (B : Bd) (F : Hp) (K : Out → Prop) (D : Ends) : Prop where
  nx : ∀ S' F' α' H' σ', K (.nx S') → RelX X B F' α' H' σ' S' → Same F F' → D.nx σ' H'
  bk : ∀ S' F' α' H' σ', K (.bk S') → RelX X B F' α' H' σ' S' → Same F F' → D.bk σ' H'
  ct : ∀ S' F' α' H' σ', K (.ct S') → RelX X B F' α' H' σ' S' → Same F F' → D.ct σ' H'
  ret : ∀ c S' F' α' H' σ' v, K (.ret c S') → RelX X B F' α' H' σ' S' → Same F F' → CR X F' α' S'.L c v → D.rt v H'
theorem OutOk.mono {X : Cx} {B : Bd} {F F' : Hp} {K : Out → Prop} {D : Ends} (h : OutOk X B F K D) (s : Same F F') : OutOk X B F' K D :=
  ⟨fun S' F1 α' H' σ' k r q => h.nx _ _ _ _ _ k r (s.trans q), fun S' F1 α' H' σ' k r q => h.bk _ _ _ _ _ k r (s.trans q), fun S' F1 α' H' σ' k r q => h.ct _ _ _ _ _ k r (s.trans q),
    fun c S' F1 α' H' σ' v k r q z => h.ret _ _ _ _ _ _ _ k r (s.trans q) z⟩
def Ex (X : Cx) (B : Bd) (st : Stmt) (S : S) (K : Out → Prop) : Prop :=
  ∀ F α H σ D, RelX X B F α H σ S → OutOk X B F K D → wS X st D σ H
def Exs (X : Cx) (B : Bd) (st : List Stmt) (S : S) (K : Out → Prop) : Prop :=
  ∀ F α H σ D, RelX X B F α H σ S → OutOk X B F K D → wSs X st D σ H
end Nz
namespace Nz
open PySem PySem.Spec PyProof.Rows L2
def getL (n : Nat) : List (Nat × LO) → Option LO
  | [] => none
  | (m, o) :: r => if n = m then some o else getL n r
def setL (n : Nat) (o : LO) : List (Nat × LO) → List (Nat × LO)
  | [] => []
  | (m, u) :: r => if n = m then (m, o) :: r else (m, u) :: setL n o r
theorem getL_mem : ∀ {L : List (Nat × LO)} {n : Nat} {o : LO}, getL n L = some o → (n, o) ∈ L
  | (m, u) :: r, n, o, h => by
    unfold getL at h
    split at h
    · rename_i e; cases h; rw [e]; exact List.mem_cons_self
    · exact List.mem_cons_of_mem _ (getL_mem h)
theorem mem_names {L : List (Nat × LO)} {n : Nat} {o : LO} (h : (n, o) ∈ L) : n ∈ names L := List.mem_map.mpr ⟨_, h, rfl⟩
theorem names_setL : ∀ (L : List (Nat × LO)) (n : Nat) (o : LO), names (setL n o L) = names L
  | [], _, _ => rfl
  | (m, u) :: r, n, o => by
    unfold setL
    split
    · rfl
    · show m :: names (setL n o r) = m :: names r
      rw [names_setL r n o]
theorem mem_setL : ∀ {L : List (Nat × LO)} {n m : Nat} {o u : LO}, (names L).Nodup → (m, u) ∈ setL n o L → (m = n ∧ u = o) ∨ (m ≠ n ∧ (m, u) ∈ L)
  | (k, w) :: r, n, m, o, u, nd, h => by
    have nd' : k ∉ names r ∧ (names r).Nodup := List.nodup_cons.mp nd
    unfold setL at h
    split at h
    · rename_i e
      subst e
      rcases List.mem_cons.mp h with h | h
      · cases h; exact .inl ⟨rfl, rfl⟩
      · exact .inr ⟨fun q => nd'.1 (q ▸ mem_names h), List.mem_cons_of_mem _ h⟩
    · rename_i e
      rcases List.mem_cons.mp h with h | h
      · cases h; exact .inr ⟨fun q => e q.symm, List.mem_cons_self⟩
      · rcases mem_setL nd'.2 h with h | ⟨h1, h2⟩
        · exact .inl h
        · exact .inr ⟨h1, List.mem_cons_of_mem _ h2⟩
section
variable {K : Frag} {mg : Mg} {F F' : Hp} {α α' : Nat → Addr} {L L' : List (Nat × LO)}
theorem Stp.refl : Stp F α L F α := ⟨Same.refl _, fun _ _ => rfl⟩
theorem Stp.trans {F2 : Hp} {α2 : Nat → Addr} (a : Stp F α L F' α') (b : Stp F' α' L' F2 α2) (s : ∀ n, n ∈ names L → n ∈ names L') : Stp F α L F2 α2 :=
  ⟨a.fro.trans b.fro, fun n h => (b.nm n (s n h)).trans (a.nm n h)⟩
theorem CRel.step (st : Stp F α L F' α') (hs : ∀ n, n ∈ names L → n ∈ names L') : ∀ {c : Ce} {v : V}, CRel K mg F α L c v → CRel K mg F' α' L' c v
  | .fr _, _, h => Rep.mono st.fro h
  | .ad n, _, ⟨h1, h2⟩ => ⟨hs n h1, by rw [h2, st.nm n h1]⟩
  | .xv _, _, h => h
theorem CRels.step (st : Stp F α L F' α') (hs : ∀ n, n ∈ names L → n ∈ names L') : ∀ {c : List Ce} {v : List V}, CRels K mg F α L c v → CRels K mg F' α' L' c v
  | _, _, .nil => .nil
  | _, _, .cons h r => .cons (h.step st hs) (r.step st hs)
theorem CRelF.step (st : Stp F α L F' α') (hs : ∀ n, n ∈ names L → n ∈ names L') : ∀ {c : List (Str × Ce)} {v : List (Str × V)}, CRelF K mg F α L c v → CRelF K mg F' α' L' c v
  | _, _, .nil => .nil
  | _, _, .cons h r => .cons (h.step st hs) (r.step st hs)
theorem CRelK.step {κ : Type} (st : Stp F α L F' α') (hs : ∀ n, n ∈ names L → n ∈ names L') : ∀ {c : List (κ × Ce)} {v : List (κ × V)}, CRelK K mg F α L c v → CRelK K mg F' α' L' c v
  | _, _, .nil => .nil
  | _, _, .cons h r => .cons (h.step st hs) (r.step st hs)
theorem SlR.step (st : Stp F α L F' α') (hs : ∀ n, n ∈ names L → n ∈ names L') : ∀ {c : List (Option Ce)} {v : L2.St}, SlR K mg F α L c v → SlR K mg F' α' L' c v
  | _, _, .nil => .nil
  | _, _, .no r => .no (r.step st hs)
  | _, _, .so h r => .so (h.step st hs) (r.step st hs)
theorem SlR.get : ∀ {c : List (Option Ce)} {σ : L2.St} {i : Nat} {x : Ce}, SlR K mg F α L c σ → c[i]? = some (some x) → ∃ v, σ[i]? = some (some v) ∧ CRel K mg F α L x v
  | _, _, _, _, .nil, h => by simp at h
  | _, _, 0, _, .no _, h => by simp at h
  | _, _, 0, _, .so h _, e => by simp at e; subst e; exact ⟨_, rfl, h⟩
  | _, _, i + 1, _, .no r, e => by
    obtain ⟨v, h1, h2⟩ := SlR.get (i := i) r (by simpa using e)
    exact ⟨v, by simpa using h1, h2⟩
  | _, _, i + 1, _, .so _ r, e => by
    obtain ⟨v, h1, h2⟩ := SlR.get (i := i) r (by simpa using e)
    exact ⟨v, by simpa using h1, h2⟩
theorem SlR.set : ∀ {c : List (Option Ce)} {σ : L2.St} (i : Nat) {x : Ce} {v : V}, SlR K mg F α L c σ → CRel K mg F α L x v → SlR K mg F α L (c.set i (some x)) (σ.set i (some v))
  | _, _, _, _, _, .nil, _ => .nil
  | _, _, 0, _, _, .no r, h => .so h r
  | _, _, 0, _, _, .so _ r, h => .so h r
  | _, _, i + 1, _, _, .no r, h => .no (r.set i h)
  | _, _, i + 1, _, _, .so q r, h => .so q (r.set i h)
theorem CRels.fr : ∀ {ds : List D} {vs : List V}, CRels K mg F α L (ds.map Ce.fr) vs → Reps K mg F ds vs
  | [], _, .nil => .nil
  | _ :: _, _, .cons h r => .cons h (CRels.fr r)
theorem CRels.length : ∀ {c : List Ce} {v : List V}, CRels K mg F α L c v → c.length = v.length
  | _, _, .nil => rfl
  | _, _, .cons _ r => congrArg (· + 1) r.length
theorem CRels.append : ∀ {c c' : List Ce} {v v' : List V}, CRels K mg F α L c v → CRels K mg F α L c' v' → CRels K mg F α L (c ++ c') (v ++ v')
  | _, _, _, _, .nil, s => s
  | _, _, _, _, .cons h r, s => .cons h (r.append s)
theorem CRels.get : ∀ {ds : List Ce} {vs : List V} {i : Nat} {d : Ce}, CRels K mg F α L ds vs → ds[i]? = some d → ∃ v, vs[i]? = some v ∧ CRel K mg F α L d v
  | _, _, _, _, .nil, h => by simp at h
  | _, _, 0, _, .cons h r, e => by simp at e; subst e; exact ⟨_, rfl, h⟩
  | _, _, i + 1, _, .cons h r, e => by
    obtain ⟨v, h1, h2⟩ := CRels.get (i := i) r (by simpa using e)
    exact ⟨v, by simpa using h1, h2⟩
variable {B : Bd} {H H' : Hp} {a : Addr}
theorem Paired.imp {κ μ : Type} {R R' : κ → μ → Prop} (h : ∀ a b, R a b → R' a b) : ∀ {xs : List κ} {ys : List μ}, Paired R xs ys → Paired R' xs ys
  | _, _, .nil => .nil
  | _, _, .cons r t => .cons (h _ _ r) (Paired.imp h t)
theorem LAt.step {o : LO} (st : Stp F α L F' α') (hs : ∀ n, n ∈ names L → n ∈ names L') (hH : ∀ b u, H b = some u → H' b = some u) (hF : ∀ b u, F' b = some u → F b = some u ∨ H b = none)
    (h : LAt K mg B F α L H a o) : LAt K mg B F' α' L' H' a o := by
  cases o with
  | fl ds => obtain ⟨vs, e, r⟩ := h; exact ⟨vs, hH _ _ e, r.mono st.fro⟩
  | cl cs => obtain ⟨vs, e, r⟩ := h; exact ⟨vs, hH _ _ e, r.step st hs⟩
  | ins c fs =>
    obtain ⟨C, dx, vs, m, e1, e2, e3, e4, r⟩ := h
    refine ⟨C, dx, vs, m, hH _ _ e1, hH _ _ e2, ?_, e4, r.step st hs⟩
    cases q : F' dx with
    | none => rfl
    | some u =>
      rcases hF _ _ q with z | z
      · rw [e3] at z; cases z
      · rw [e2] at z; cases z
  | dT kvs => obtain ⟨vs, e, r⟩ := h; exact ⟨vs, hH _ _ e, Paired.imp (fun _ _ z => ⟨z.1, z.2.mono st.fro⟩) r⟩
  | dK kvs => obtain ⟨vs, e, r⟩ := h; exact ⟨vs, hH _ _ e, r.step st hs⟩
theorem LAt.is {o : LO} (h : LAt K mg B F α L H a o) : ∃ u, H a = some u := by
  cases o with
  | fl ds => obtain ⟨vs, e, r⟩ := h; exact ⟨_, e⟩
  | cl cs => obtain ⟨vs, e, r⟩ := h; exact ⟨_, e⟩
  | ins c fs => obtain ⟨C, dx, vs, m, e1, _⟩ := h; exact ⟨_, e1⟩
  | dT kvs => obtain ⟨vs, e, r⟩ := h; exact ⟨_, e⟩
  | dK kvs => obtain ⟨vs, e, r⟩ := h; exact ⟨_, e⟩
variable {σ : L2.St} {S : Nz.S}
/-- the heap grows, and what is frozen by new things -/
theorem Rel.grow (R : Rel K mg B F α H σ S) (hF : Same F F') (hH : Same H H') (hs : Same F' H') (hn : ∀ b u, F' b = some u → F b = some u ∨ H b = none) : Rel K mg B F' α H' σ S := by
  have st : Stp F α S.L F' α := ⟨hF, fun _ _ => rfl⟩
  refine ⟨hs, R.bF.trans hF, fun b o e => ?_, fun b o e n => hH _ _ (R.frame b o e n), R.nd, R.inj, fun n o h => ?_, R.slots.step st fun _ z => z, R.fix⟩
  · rcases hn b o e with z | z
    · exact R.nF b o z
    · refine .inr ?_
      by_cases f : B.fp b
      · exact .inr f
      · refine .inl ?_
        cases q : B.H0 b with
        | none => rfl
        | some u => rw [R.frame b u q f] at z; cases z
  · obtain ⟨h1, h2, h3⟩ := R.live n o h
    refine ⟨?_, h2, h3.step st (fun _ z => z) hH hn⟩
    cases q : F' (α n) with
    | none => rfl
    | some u =>
      obtain ⟨w', hw⟩ := h3.is
      rcases hn _ _ q with z | z
      · rw [h1] at z; cases z
      · rw [hw] at z; cases z
theorem same_upd {H : Hp} {p : Addr} {o : HO} (h : H p = none) : Same H (upd H p o) := fun b u e => by rw [upd_ne (ne_of_none e h)]; exact e
theorem Rel.fresh (R : Rel K mg B F α H σ S) {p : Addr} (h : H p = none) : F p = none := R.sub.free h
/-- a new frozen thing -/
theorem Rel.allocF (R : Rel K mg B F α H σ S) {p : Addr} {o : HO} (h : H p = none) : Rel K mg B (upd F p o) α (upd H p o) σ S := by
  refine R.grow (same_upd (R.fresh h)) (same_upd h) (fun b u e => ?_) fun b u e => ?_
  · by_cases q : b = p
    · subst q; rw [upd_same] at e ⊢; exact e
    · rw [upd_ne q] at e ⊢; exact R.sub b u e
  · by_cases q : b = p
    · subst q; exact .inr h
    · rw [upd_ne q] at e; exact .inl e
theorem stp_allocF {p : Addr} {o : HO} (h : F p = none) : Stp F α L (upd F p o) α := ⟨same_upd h, fun _ _ => rfl⟩
def setα (α : Nat → Addr) (n : Nat) (p : Addr) : Nat → Addr := fun m => if m = n then p else α m
theorem stp_setα {n : Nat} {p : Addr} (h : n ∉ names L) : Stp F α L F (setα α n p) := ⟨Same.refl _, fun m hm => by show (if m = n then p else α m) = α m; rw [if_neg (show ¬ m = n from fun q => h (by rw [← q]; exact hm))]⟩
theorem names_append (L : List (Nat × LO)) (n : Nat) (o : LO) : names (L ++ [(n, o)]) = names L ++ [n] := by simp [names]
/-- a new live thing -/
theorem Rel.allocL (R : Rel K mg B F α H σ S) {p : Addr} {o : HO} {n : Nat} {u : LO} (h : H p = none) (hn : n ∉ names S.L) (h100 : 100 ≤ n)
    (new : LAt K mg B F (setα α n p) (S.L ++ [(n, u)]) (upd H p o) p u) : Rel K mg B F (setα α n p) (upd H p o) σ ⟨S.ρ, S.L ++ [(n, u)]⟩ := by
  have st : Stp F α S.L F (setα α n p) := stp_setα hn
  have hsub : ∀ m, m ∈ names S.L → m ∈ names (S.L ++ [(n, u)]) := fun m hm => by rw [names_append]; exact List.mem_append_left _ hm
  have hself : setα α n p n = p := by unfold setα; rw [if_pos rfl]
  have hp0 : B.H0 p = none ∨ B.fp p := by
    by_cases f : B.fp p
    · exact .inr f
    · refine .inl ?_
      cases q : B.H0 p with
      | none => rfl
      | some w' => rw [R.frame p w' q f] at h; cases h
  refine ⟨fun b w' e => same_upd h b w' (R.sub b w' e), R.bF, R.nF, fun b w' e f => same_upd h b w' (R.frame b w' e f), ?_, ?_, ?_, R.slots.step st hsub, fun m a e hm => ?_⟩
  · rw [names_append]
    exact List.nodup_append.mpr ⟨R.nd, by simp, fun a ha b hb => by
      have : b = n := by simpa using hb
      subst this
      exact fun q => hn (q ▸ ha)⟩
  · have key : ∀ m, m ∈ names S.L → setα α n p m ≠ p := fun m hm e => by
      rw [st.nm m hm] at e
      obtain ⟨⟨m', o'⟩, h1, h2⟩ := List.mem_map.mp hm
      cases h2
      obtain ⟨w', hw⟩ := (R.live _ _ h1).2.2.is
      rw [e, h] at hw; cases hw
    intro a b ha hb e
    rw [names_append] at ha hb
    rcases List.mem_append.mp ha with ha' | ha' <;> rcases List.mem_append.mp hb with hb' | hb'
    · rw [st.nm a ha', st.nm b hb'] at e; exact R.inj a b ha' hb' e
    · have h2 : b = n := by simpa using hb'
      rw [h2, hself] at e
      exact absurd e (key a ha')
    · have h2 : a = n := by simpa using ha'
      rw [h2, hself] at e
      exact absurd e.symm (key b hb')
    · have h1 : a = n := by simpa using ha'
      have h2 : b = n := by simpa using hb'
      rw [h1, h2]
  · intro m o' hm
    rcases List.mem_append.mp hm with hm | hm
    · obtain ⟨h1, h2, h3⟩ := R.live m o' hm
      have e : setα α n p m = α m := st.nm m (mem_names hm)
      rw [e]
      exact ⟨h1, h2, h3.step st hsub (same_upd h) fun b w' z => .inl z⟩
    · have e : (m, o') = (n, u) := by simpa using hm
      cases e
      rw [hself]
      exact ⟨R.fresh h, hp0, new⟩
  · have hm : m ∈ names (S.L ++ [(n, u)]) := hm
    rw [names_append] at hm
    rcases List.mem_append.mp hm with hm | hm
    · rw [st.nm m hm]; exact R.fix m a e hm
    · have : m = n := by simpa using hm
      rw [this, B.hpa n h100] at e; cases e
/-- a live thing is changed -/
theorem Rel.write (R : Rel K mg B F α H σ S) {n : Nat} {o u : LO} {o' : HO} (hn : (n, o) ∈ S.L)
    (no : ∀ b y, H b = some (.own y) → b ≠ α n) (new : LAt K mg B F α (setL n u S.L) (upd H (α n) o') (α n) u)
    (oth : ∀ m w', (m, w') ∈ S.L → m ≠ n → LAt K mg B F α S.L H (α m) w' → LAt K mg B F α (setL n u S.L) (upd H (α n) o') (α m) w') :
    Rel K mg B F α (upd H (α n) o') σ ⟨S.ρ, setL n u S.L⟩ := by
  obtain ⟨f0, f1, f2⟩ := R.live n o hn
  obtain ⟨w0, hw0⟩ := f2.is
  have st : Stp F α S.L F α := Stp.refl
  have hsub : ∀ m, m ∈ names S.L → m ∈ names (setL n u S.L) := fun m hm => by rw [names_setL]; exact hm
  refine ⟨fun b w' e => ?_, R.bF, R.nF, fun b w' e f => ?_, by rw [names_setL]; exact R.nd, fun a b ha hb e => R.inj a b (by rw [names_setL] at ha; exact ha) (by rw [names_setL] at hb; exact hb) e, fun m w' hm => ?_, R.slots.step st hsub, fun m a e hm => R.fix m a e (by rw [names_setL] at hm; exact hm)⟩
  · rw [upd_ne (fun q => by rw [q, f0] at e; cases e)]; exact R.sub b w' e
  · have hb : b ≠ α n := fun q => by
      subst q
      rcases f1 with z | z
      · rw [z] at e; cases e
      · exact f z
    rw [upd_ne hb]; exact R.frame b w' e f
  · rcases mem_setL R.nd hm with ⟨h1, h2⟩ | ⟨h1, h2⟩
    · subst h1; subst h2
      exact ⟨f0, f1, new⟩
    · obtain ⟨g0, g1, g2⟩ := R.live m w' h2
      exact ⟨g0, g1, oth m w' h2 h1 g2⟩
theorem LAt.other {o : LO} {p : Addr} {w' : HO} (ne : a ≠ p) (no : ∀ b, H b = some (.own a) → b ≠ p) (hs : ∀ n, n ∈ names L → n ∈ names L') (h : LAt K mg B F α L H a o) : LAt K mg B F α L' (upd H p w') a o := by
  have st : Stp F α L F α := Stp.refl
  cases o with
  | fl ds => obtain ⟨vs, e, r⟩ := h; exact ⟨vs, by rw [upd_ne ne]; exact e, r⟩
  | cl cs => obtain ⟨vs, e, r⟩ := h; exact ⟨vs, by rw [upd_ne ne]; exact e, r.step st hs⟩
  | ins c fs => obtain ⟨C, dx, vs, m, e1, e2, e3, e4, r⟩ := h; exact ⟨C, dx, vs, m, by rw [upd_ne ne]; exact e1, by rw [upd_ne (no _ e2)]; exact e2, e3, e4, r.step st hs⟩
  | dT kvs => obtain ⟨vs, e, r⟩ := h; exact ⟨vs, by rw [upd_ne ne]; exact e, r⟩
  | dK kvs => obtain ⟨vs, e, r⟩ := h; exact ⟨vs, by rw [upd_ne ne]; exact e, r.step st hs⟩
theorem LAt.notown {o : LO} (h : LAt K mg B F α L H a o) : ∀ b y, H b = some (.own y) → b ≠ a := fun b y e q => by
  subst q
  cases o with
  | fl ds => obtain ⟨vs, e1, r⟩ := h; rw [e] at e1; cases e1
  | cl cs => obtain ⟨vs, e1, r⟩ := h; rw [e] at e1; cases e1
  | ins c fs => obtain ⟨C, dx, vs, m, e1, _⟩ := h; rw [e] at e1; cases e1
  | dT kvs => obtain ⟨vs, e1, r⟩ := h; rw [e] at e1; cases e1
  | dK kvs => obtain ⟨vs, e1, r⟩ := h; rw [e] at e1; cases e1
/-- .. in short -/
theorem Rel.put (R : Rel K mg B F α H σ S) {n : Nat} {o u : LO} {o' : HO} (hn : (n, o) ∈ S.L) (new : LAt K mg B F α (setL n u S.L) (upd H (α n) o') (α n) u) : Rel K mg B F α (upd H (α n) o') σ ⟨S.ρ, setL n u S.L⟩ := by
  have no := LAt.notown (R.live n o hn).2.2
  refine R.write hn no new fun m w' hm ne h => h.other (fun q => ne (R.inj _ _ (mem_names hm) (mem_names hn) q)) (fun b e => no b _ e) fun k hk => by rw [names_setL]; exact hk
end
end Nz
namespace Nz
open PySem PySem.Spec PyProof.Rows L2
def Sub (L L' : List (Nat × LO)) : Prop := ∀ n, n ∈ names L → n ∈ names L'
theorem Sub.refl {L : List (Nat × LO)} : Sub L L := fun _ h => h
theorem Sub.app {L M : List (Nat × LO)} : Sub L (L ++ M) := fun n h => by rw [names, List.map_append]; exact List.mem_append_left _ h
/-- the cell c looks like the list ds, the tuple ds -/
def AsL (L : List (Nat × LO)) (c : Ce) (ds : List D) : Prop :=
  match c with
  | .fr d => d = .lst ds
  | .ad n => getL n L = some (.fl ds)
  | .xv _ => False
section
variable {X : Cx} {B : Bd} {F : Hp} {α : Nat → Addr} {H : Hp} {σ : L2.St} {S : Nz.S}
theorem Rel.asL (R : RelX X B F α H σ S) {c : Ce} {ds : List D} {v : V} (h : AsL S.L c ds) (r : CR X F α S.L c v) : ∃ a vs, v = .ref a ∧ SqL X.K H a vs ∧ Reps X.K X.mg F ds vs := by
  cases c with
  | fr d =>
    have e : d = .lst ds := h
    subst e
    have r' : Rep X.K X.mg F (.lst ds) v := r
    cases r' with
    | lst h1 h2 => exact ⟨_, _, rfl, R.sub.seq h1, h2⟩
  | ad n =>
    obtain ⟨_, rfl⟩ := r
    obtain ⟨_, _, vs, e, q⟩ := R.live n _ (getL_mem h)
    exact ⟨_, vs, rfl, SqL.of e, q⟩
  | xv u => exact False.elim h
theorem Rel.asT (R : RelX X B F α H σ S) {ds : List D} {v : V} (r : Rep X.K X.mg F (.tup ds) v) : ∃ a vs, v = .ref a ∧ SqT X.K H a vs ∧ Reps X.K X.mg F ds vs := by
  cases r with
  | tup h1 h2 => exact ⟨_, _, rfl, R.sub.seqT h1, h2⟩
end
def Op2 (X : Cx) (f : Value → Value → Sem Value) (d1 d2 d : D) : Prop :=
  ∀ B F α H σ (S : Nz.S) (Q : VK) x y, RelX X B F α H σ S → Rep X.K X.mg F d1 x → Rep X.K X.mg F d2 y → (∀ F' α' v H', RelX X B F' α' H' σ S → Stp F α S.L F' α' → Rep X.K X.mg F' d v → Q v H') →
    ∀ pins s v u, Inv X pins σ H s → RelV x v → RelV y u → wpAny (model X.prog X.w) X.A (f v u) (EP X pins σ Q) X.xe s
theorem Op2.pure {X : Cx} {f : Value → Value → Sem Value} {d1 d2 d : D} {r : R2} {v : V} (h : OpR X f r) (hd : ∀ F, Rep X.K X.mg F d v)
    (hr : ∀ F H (Q : VK) x y, Same F H → Rep X.K X.mg F d1 x → Rep X.K X.mg F d2 y → Q v H → r x y H Q) : Op2 X f d1 d2 d :=
  fun B F α H σ S Q x y R rx ry k pins s v' u I rv ru => h pins s σ H x y v' u Q I rv ru (hr F H Q x y R.sub rx ry (k F α v H R Stp.refl (hd F)))
section
variable {X : Cx}
theorem op2I {f : Value → Value → Sem Value} {C : Int → Int → Prop} {g : Int → Int → V} {i j : Int} {d : D} (h : OpR X f (rI C g)) (hc : C i j) (hd : ∀ F, Rep X.K X.mg F d (g i j)) : Op2 X f (.int i) (.int j) d :=
  .pure h hd fun F H Q x y _ rx ry q => by cases rx; cases ry; exact ⟨_, _, rfl, rfl, hc, q⟩
theorem op2I0 {f : Value → Value → Sem Value} {g : Int → Int → V} {i j : Int} {d : D} (h : OpR X f (rI0 g)) (hd : ∀ F, Rep X.K X.mg F d (g i j)) : Op2 X f (.int i) (.int j) d :=
  .pure h hd fun F H Q x y _ rx ry q => by cases rx; cases ry; exact ⟨_, _, rfl, rfl, q⟩
theorem o_add {i j : Int} : Op2 X (binaryOp .Add) (.int i) (.int j) (.int (i + j)) := op2I0 op_add fun _ => .int _
theorem o_mul {i j : Int} (h : CMul i j) : Op2 X (binaryOp .Mult) (.int i) (.int j) (.int (i * j)) := op2I op_mul h fun _ => .int _
theorem o_div {i j : Int} (h : 0 < j) (h' : j < 1073741824) : Op2 X (binaryOp .FloorDiv) (.int i) (.int j) (.int (i / j)) := op2I op_fdiv ⟨h, h'⟩ fun _ => .int _
theorem o_mod {i j : Int} (h : 0 < j) : Op2 X (binaryOp .Mod) (.int i) (.int j) (.int (i % j)) := op2I op_mod h fun _ => .int _
theorem o_pow {i j : Int} (h : CPow i j) : Op2 X (binaryOp .Pow) (.int i) (.int j) (.int (i ^ j.toNat)) := op2I op_pow h fun _ => .int _
theorem o_adds {i j : Str} (h : i.length + j.length ≤ sizeLine) : Op2 X (binaryOp .Add) (.str i) (.str j) (.str (i ++ j)) :=
  .pure (v := .str (i ++ j)) op_add_str (fun _ => .str _) fun F H Q x y _ rx ry q => by cases rx; cases ry; exact ⟨_, _, rfl, rfl, h, q⟩
theorem o_lt {i j : Int} : Op2 X (compareOp .Lt) (.int i) (.int j) (.bl (decide (i < j))) := op2I0 op_lt fun _ => .bl _
theorem o_le {i j : Int} : Op2 X (compareOp .LtE) (.int i) (.int j) (.bl (decide (i ≤ j))) := op2I0 op_le fun _ => .bl _
theorem o_gt {i j : Int} : Op2 X (compareOp .Gt) (.int i) (.int j) (.bl (decide (j < i))) := op2I0 op_gt fun _ => .bl _
theorem o_ge {i j : Int} : Op2 X (compareOp .GtE) (.int i) (.int j) (.bl (decide (j ≤ i))) := op2I0 op_ge fun _ => .bl _
theorem o_eqi {i j : Int} : Op2 X (compareOp .Eq) (.int i) (.int j) (.bl (decide (i = j))) :=
  .pure (v := .bl (decide (V.int i = V.int j))) op_eq (fun _ => by rw [show decide (V.int i = V.int j) = decide (i = j) from by simp]; exact .bl _) fun F H Q x y _ rx ry q => by cases rx; cases ry; exact ⟨rfl, q⟩
theorem o_nei {i j : Int} : Op2 X (compareOp .NotEq) (.int i) (.int j) (.bl (!decide (i = j))) :=
  .pure (v := .bl (!decide (V.int i = V.int j))) op_ne (fun _ => by rw [show decide (V.int i = V.int j) = decide (i = j) from by simp]; exact .bl _) fun F H Q x y _ rx ry q => by cases rx; cases ry; exact ⟨rfl, q⟩
theorem o_eqs {i j : Str} : Op2 X (compareOp .Eq) (.str i) (.str j) (.bl (decide (i = j))) :=
  .pure (v := .bl (decide (V.str i = V.str j))) op_eq (fun _ => by rw [show decide (V.str i = V.str j) = decide (i = j) from by simp]; exact .bl _) fun F H Q x y _ rx ry q => by cases rx; cases ry; exact ⟨rfl, q⟩
theorem o_nes {i j : Str} : Op2 X (compareOp .NotEq) (.str i) (.str j) (.bl (!decide (i = j))) :=
  .pure (v := .bl (!decide (V.str i = V.str j))) op_ne (fun _ => by rw [show decide (V.str i = V.str j) = decide (i = j) from by simp]; exact .bl _) fun F H Q x y _ rx ry q => by cases rx; cases ry; exact ⟨rfl, q⟩
theorem o_eqb {i j : Bool} : Op2 X (compareOp .Eq) (.bl i) (.bl j) (.bl (decide (i = j))) :=
  .pure (v := .bl (decide (V.bl i = V.bl j))) op_eq (fun _ => by rw [show decide (V.bl i = V.bl j) = decide (i = j) from by simp]; exact .bl _) fun F H Q x y _ rx ry q => by cases rx; cases ry; exact ⟨rfl, q⟩
theorem o_neb {i j : Bool} : Op2 X (compareOp .NotEq) (.bl i) (.bl j) (.bl (!decide (i = j))) :=
  .pure (v := .bl (!decide (V.bl i = V.bl j))) op_ne (fun _ => by rw [show decide (V.bl i = V.bl j) = decide (i = j) from by simp]; exact .bl _) fun F H Q x y _ rx ry q => by cases rx; cases ry; exact ⟨rfl, q⟩
end
section
variable {X : Cx} {B : Bd} {S S1 S2 S3 : Nz.S} {a b c e : Expr} {es : List Expr} {pos p : Pos} {d d1 d2 d3 : D}
theorem ev_var (i : Nat) {x : Str} {c : Ce} (hN : X.N[i]? = some x) (hv : Vis X.env.scope x) (hρ : S.ρ[i]? = some (some c)) (hd : (x == ("__debug__" : Str)) = false := by decide) (hcd : (x == ("__classdict__" : Str)) = false := by decide) : Ev X B (.Name x pos) S c S :=
  fun F α H σ Q R k => wE.of (pe_var hN hv hd hcd) (by
    obtain ⟨v, e, r⟩ := R.slots.get hρ
    exact ⟨v, e, k F α v H R Stp.refl r⟩)
theorem ev_int {i : Int} {j pos} : Ev X B (.Constant (.int i) j pos) S (.fr (.int i)) S := fun F α H σ Q R k => wE.of pe_int (k F α _ H R Stp.refl (.int i))
theorem ev_bl {i : Bool} {j pos} : Ev X B (.Constant (.bool i) j pos) S (.fr (.bl i)) S := fun F α H σ Q R k => wE.of pe_bl (k F α _ H R Stp.refl (.bl i))
theorem ev_non {j pos} : Ev X B (.Constant .none j pos) S (.fr .non) S := fun F α H σ Q R k => wE.of pe_non (k F α _ H R Stp.refl .non)
theorem ev_str {i : Str} {j pos} : Ev X B (.Constant (.str i) j pos) S (.fr (.str i)) S := fun F α H σ Q R k => wE.of pe_str (k F α _ H R Stp.refl (.str i))
theorem ev_gi {x : Str} {i : Int} {t : Tok} (hg : Gl X x) (hm : X.mg x = some (.int i t)) (hd : (x == ("__debug__" : Str)) = false := by decide) : Ev X B (.Name x pos) S (.fr (.int i)) S :=
  fun F α H σ Q R k => wE.of (pe_glob (v := .int i) hg hm ⟨t, rfl⟩ hd) (k F α _ H R Stp.refl (.int i))
theorem ev_gs {x : Str} {i : Str} {t : Tok} (hg : Gl X x) (hm : X.mg x = some (.str i t)) (hd : (x == ("__debug__" : Str)) = false := by decide) : Ev X B (.Name x pos) S (.fr (.str i)) S :=
  fun F α H σ Q R k => wE.of (pe_glob (v := .str i) hg hm ⟨t, rfl⟩ hd) (k F α _ H R Stp.refl (.str i))
theorem ev_bin {op : Operator} (ho : Op2 X (binaryOp op) d1 d2 d) (ha : Ev X B a S (.fr d1) S1) (hb : Ev X B b S1 (.fr d2) S2) (h1 : Sub S.L S1.L := by exact Sub.refl) (h2 : Sub S1.L S2.L := by exact Sub.refl) : Ev X B (.BinOp a op b pos) S (.fr d) S2 :=
  fun F α H σ Q R k pins s I => by
    refine wpAny_BinOp (thn (ha F α H σ _ R (fun F1 α1 v1 H1 R1 st1 r1 => hb F1 α1 H1 σ (fun v2 H2 => ∃ F2 α2, RelX X B F2 α2 H2 σ S2 ∧ Stp F α S.L F2 α2 ∧ Rep X.K X.mg F2 d1 v1 ∧ Rep X.K X.mg F2 d2 v2) R1 fun F2 α2 v2 H2 R2 st2 r2 =>
      ⟨F2, α2, R2, st1.trans st2 h1, Rep.mono st2.fro r1, r2⟩) pins s I) fun v s1 ⟨x, H1, I1, rv, q1⟩ => thn (q1 pins s1 I1) fun u s2 ⟨y, H2, I2, ru, F2, α2, R2, st, r1, r2⟩ => ?_)
    exact ho B F2 α2 H2 σ S2 Q x y R2 r1 r2 (fun F' α' v' H' R' st' r' => k F' α' v' H' R' (st.trans st' fun n h => h2 n (h1 n h)) r') pins s2 v u I2 rv ru
theorem ev_cmp {op : CmpOp} (ho : Op2 X (compareOp op) d1 d2 d) (ha : Ev X B a S (.fr d1) S1) (hb : Ev X B b S1 (.fr d2) S2) (hm : behindInMarks op b = false) (h1 : Sub S.L S1.L := by exact Sub.refl) (h2 : Sub S1.L S2.L := by exact Sub.refl) : Ev X B (.Compare a [op] [b] pos) S (.fr d) S2 :=
  fun F α H σ Q R k pins s I => by
    refine wpAny_Compare1 (thn (ha F α H σ _ R (fun F1 α1 v1 H1 R1 st1 r1 => hb F1 α1 H1 σ (fun v2 H2 => ∃ F2 α2, RelX X B F2 α2 H2 σ S2 ∧ Stp F α S.L F2 α2 ∧ Rep X.K X.mg F2 d1 v1 ∧ Rep X.K X.mg F2 d2 v2) R1 fun F2 α2 v2 H2 R2 st2 r2 =>
      ⟨F2, α2, R2, st1.trans st2 h1, Rep.mono st2.fro r1, r2⟩) pins s I) fun v s1 ⟨x, H1, I1, rv, q1⟩ => thn (q1 pins s1 I1) fun u s2 ⟨y, H2, I2, ru, F2, α2, R2, st, r1, r2⟩ => ?_) hm
    exact ho B F2 α2 H2 σ S2 Q x y R2 r1 r2 (fun F' α' v' H' R' st' r' => k F' α' v' H' R' (st.trans st' fun n h => h2 n (h1 n h)) r') pins s2 v u I2 rv ru
theorem ev_one {op : BoolOp} {c : Ce} (ha : Ev X B a S c S1) : Ev X B (.BoolOp op [a] pos) S c S1 :=
  fun F α H σ Q R k => wE.of (pe_one pe_w) (ha F α H σ _ R k)
theorem ev_and {i j : Bool} (ha : Ev X B a S (.fr (.bl i)) S) (hb : i = true → Ev X B (.BoolOp .And (b :: es) pos) S (.fr (.bl j)) S) : Ev X B (.BoolOp .And (a :: b :: es) pos) S (.fr (.bl (i && j))) S :=
  fun F α H σ Q R k => wE.of (pe_and pe_w pe_w) (ha F α H σ _ R fun F1 α1 v1 H1 R1 st1 r1 => by
    cases r1
    refine ⟨i, rfl, ?_⟩
    cases i with
    | true => rw [if_pos rfl]; exact hb rfl F1 α1 H1 σ _ R1 fun F2 α2 v2 H2 R2 st2 r2 => k F2 α2 v2 H2 R2 (st1.trans st2 Sub.refl) (by simpa using r2)
    | false => rw [if_neg Bool.false_ne_true]; exact k F1 α1 _ H1 R1 st1 (.bl _))
theorem ev_or {i j : Bool} (ha : Ev X B a S (.fr (.bl i)) S) (hb : i = false → Ev X B (.BoolOp .Or (b :: es) pos) S (.fr (.bl j)) S) : Ev X B (.BoolOp .Or (a :: b :: es) pos) S (.fr (.bl (i || j))) S :=
  fun F α H σ Q R k => wE.of (pe_or pe_w pe_w) (ha F α H σ _ R fun F1 α1 v1 H1 R1 st1 r1 => by
    cases r1
    refine ⟨i, rfl, ?_⟩
    cases i with
    | false => rw [if_neg Bool.false_ne_true]; exact hb rfl F1 α1 H1 σ _ R1 fun F2 α2 v2 H2 R2 st2 r2 => k F2 α2 v2 H2 R2 (st1.trans st2 Sub.refl) (by simpa using r2)
    | true => rw [if_pos rfl]; exact k F1 α1 _ H1 R1 st1 (.bl _))
/-- tests -/
theorem et_val {i : Bool} (ha : Ev X B a S (.fr (.bl i)) S1) (he : ∀ whole, isTrue a X.env whole = (do let v ← whole; standAt a.pos; holding [v] (truthy v)) := by intro _; rfl) : Et X B a S i S1 :=
  fun F α H σ Q R k => wT.of (pt_val pe_w he) (ha F α H σ _ R fun F1 α1 v1 H1 R1 st1 r1 => by cases r1; exact ⟨i, rfl, k F1 α1 H1 R1 st1⟩)
theorem et_cmp {op : CmpOp} {i : Bool} (ho : Op2 X (compareOp op) d1 d2 (.bl i)) (ha : Ev X B a S (.fr d1) S1) (hb : Ev X B b S1 (.fr d2) S2) (hm : behindInMarks op b = false) (h1 : Sub S.L S1.L := by exact Sub.refl) (h2 : Sub S1.L S2.L := by exact Sub.refl) : Et X B (.Compare a [op] [b] pos) S i S2 :=
  fun F α H σ Q R k pins s I => by
    refine wpAny_isTrue_Compare1 (thn (ha F α H σ _ R (fun F1 α1 v1 H1 R1 st1 r1 => hb F1 α1 H1 σ (fun v2 H2 => ∃ F2 α2, RelX X B F2 α2 H2 σ S2 ∧ Stp F α S.L F2 α2 ∧ Rep X.K X.mg F2 d1 v1 ∧ Rep X.K X.mg F2 d2 v2) R1 fun F2 α2 v2 H2 R2 st2 r2 =>
      ⟨F2, α2, R2, st1.trans st2 h1, Rep.mono st2.fro r1, r2⟩) pins s I) fun v s1 ⟨x, H1, I1, rv, q1⟩ => thn (q1 pins s1 I1) fun u s2 ⟨y, H2, I2, ru, F2, α2, R2, st, r1, r2⟩ => ?_) hm
    refine thn (ho B F2 α2 H2 σ S2 (fun v' H' => ∃ k, v' = .bl k ∧ Q k H') x y R2 r1 r2 (fun F' α' v' H' R' st' r' => by cases r'; exact ⟨i, rfl, k F' α' H' R' (st.trans st' fun n h => h2 n (h1 n h))⟩) pins s2 v u I2 rv ru) fun c s3 ⟨z, H3, I3, r3, k', e, q3⟩ => ?_
    subst e
    cases r3
    exact wpAny_truthy_bool ⟨H3, I3, q3⟩
theorem et_not {i : Bool} (ha : Et X B a S i S1) : Et X B (.UnaryOp .Not a pos) S (!i) S1 := fun F α H σ Q R k => wT.of (pt_not pt_w) (ha F α H σ _ R k)
/-- a chain of tests, whatever its whole -/
def Ew (X : Cx) (B : Bd) (e : Expr) (S : Nz.S) (b : Bool) : Prop :=
  ∀ F α H σ (Q : Bool → Hp → Prop), RelX X B F α H σ S → (∀ F' α' H', RelX X B F' α' H' σ S → Stp F α S.L F' α' → Q b H') → ∀ whole pins s, Inv X pins σ H s → wpAny (model X.prog X.w) X.A (isTrue e X.env whole) (TP X pins σ Q) X.xe s
def tW (X : Cx) (e : Expr) : TT := fun σ H Q => ∀ whole pins s, Inv X pins σ H s → wpAny (model X.prog X.w) X.A (isTrue e X.env whole) (TP X pins σ Q) X.xe s
theorem pw_w {e : Expr} : PW X e (tW X e) := ⟨fun whole pins s σ H Q I h => h whole pins s I⟩
theorem Ew.of {e : Expr} {t : TT} {i : Bool} (h : PW X e t) (q : ∀ F α H σ (Q : Bool → Hp → Prop), RelX X B F α H σ S → (∀ F' α' H', RelX X B F' α' H' σ S → Stp F α S.L F' α' → Q i H') → t σ H Q) : Ew X B e S i :=
  fun F α H σ Q R k whole pins s I => h.run whole pins s σ H Q I (q F α H σ Q R k)
theorem Ew.et {e : Expr} {i : Bool} (h : Ew X B e S i) : Et X B e S i S := fun F α H σ Q R k pins s I => h F α H σ Q R k _ pins s I
theorem ew_and1 {i : Bool} (ha : Et X B a S i S) : Ew X B (.BoolOp .And [a] pos) S i := .of (pw_and1 pt_w) fun F α H σ Q R k => ha F α H σ _ R k
theorem ew_or1 {i : Bool} (ha : Et X B a S i S) : Ew X B (.BoolOp .Or [a] pos) S i := .of (pw_or1 pt_w) fun F α H σ Q R k => ha F α H σ _ R k
theorem ew_and {i j : Bool} (ha : Et X B a S i S) (hb : i = true → Ew X B (.BoolOp .And (b :: es) pos) S j) : Ew X B (.BoolOp .And (a :: b :: es) pos) S (i && j) :=
  .of (pw_and pt_w pw_w) fun F α H σ Q R k => ha F α H σ _ R fun F1 α1 H1 R1 st1 => by
    cases i with
    | true => rw [if_pos rfl]; exact hb rfl F1 α1 H1 σ _ R1 fun F2 α2 H2 R2 st2 => by simpa using k F2 α2 H2 R2 (st1.trans st2 Sub.refl)
    | false => rw [if_neg Bool.false_ne_true]; simpa using k F1 α1 H1 R1 st1
theorem ew_or {i j : Bool} (ha : Et X B a S i S) (hb : i = false → Ew X B (.BoolOp .Or (b :: es) pos) S j) : Ew X B (.BoolOp .Or (a :: b :: es) pos) S (i || j) :=
  .of (pw_or pt_w pw_w) fun F α H σ Q R k => ha F α H σ _ R fun F1 α1 H1 R1 st1 => by
    cases i with
    | false => rw [if_neg Bool.false_ne_true]; exact hb rfl F1 α1 H1 σ _ R1 fun F2 α2 H2 R2 st2 => by simpa using k F2 α2 H2 R2 (st1.trans st2 Sub.refl)
    | true => rw [if_pos rfl]; simpa using k F1 α1 H1 R1 st1
theorem ea_nil : Ea X B [] S [] S := fun F α H σ Q R k => wA.of pa_nil (k F α _ H R Stp.refl .nil)
theorem ea_cons {c : Ce} {cs : List Ce} (ha : Ev X B a S c S1) (hr : Ea X B es S1 cs S2) (h1 : Sub S.L S1.L := by exact Sub.refl) (h2 : Sub S1.L S2.L := by exact Sub.refl) (hs : starEach (a :: es) X.env = (false, eval a X.env) :: starEach es X.env := by rfl) : Ea X B (a :: es) S (c :: cs) S2 :=
  fun F α H σ Q R k => wA.of (pa_cons pe_w pa_w hs) (ha F α H σ _ R fun F1 α1 v1 H1 R1 st1 r1 => hr F1 α1 H1 σ _ R1 fun F2 α2 vs H2 R2 st2 r2 => k F2 α2 _ H2 R2 (st1.trans st2 h1) (.cons (r1.step st2 h2) r2))
theorem ev_lst {ds : List D} (h : Ea X B es S (ds.map Ce.fr) S1) (hz : ds.length ≤ sizeLine) : Ev X B (.List es pos) S (.fr (.lst ds)) S1 :=
  fun F α H σ Q R k => wE.of (pe_lst pa_w) (h F α H σ _ R fun F1 α1 vs H1 R1 st1 r1 => by
    have r := r1.fr
    refine ⟨by rw [← r.length]; exact hz, fun p hp => ?_⟩
    have hf := R1.fresh hp
    exact k _ α1 _ _ (R1.allocF hp) ⟨st1.fro.trans (same_upd hf), st1.nm⟩ (Rep.lst (SqL.of upd_same) (r.mono (same_upd hf))))
theorem ev_tup {ds : List D} {k1} (h : Ea X B es S (ds.map Ce.fr) S1) (hz : ds.length ≤ sizeLine) : Ev X B (.Tuple es k1 pos) S (.fr (.tup ds)) S1 :=
  fun F α H σ Q R k => wE.of (pe_tup pa_w) (h F α H σ _ R fun F1 α1 vs H1 R1 st1 r1 => by
    have r := r1.fr
    refine ⟨by rw [← r.length]; exact hz, fun p hp => ?_⟩
    have hf := R1.fresh hp
    exact k _ α1 _ _ (R1.allocF hp) ⟨st1.fro.trans (same_upd hf), st1.nm⟩ (Rep.tup (SqT.of upd_same) (r.mono (same_upd hf))))
theorem ev_lstL (n : Nat) {ds : List D} (h : Ea X B es S (ds.map Ce.fr) S1) (hz : ds.length ≤ sizeLine) (hn : n ∉ names S1.L) (h100 : 100 ≤ n) (h1 : Sub S.L S1.L := by exact Sub.refl) : Ev X B (.List es pos) S (.ad n) ⟨S1.ρ, S1.L ++ [(n, .fl ds)]⟩ :=
  fun F α H σ Q R k => wE.of (pe_lst pa_w) (h F α H σ _ R fun F1 α1 vs H1 R1 st1 r1 => by
    have r := r1.fr
    refine ⟨by rw [← r.length]; exact hz, fun p hp => ?_⟩
    refine k F1 (setα α1 n p) _ _ (R1.allocL hp hn h100 ⟨vs, upd_same, r⟩) (st1.trans (stp_setα hn) h1) ⟨?_, ?_⟩
    · rw [names_append]; exact List.mem_append_right _ (List.mem_singleton.mpr rfl)
    · show V.ref p = V.ref (if n = n then p else α1 n)
      rw [if_pos rfl])
theorem ev_ixL {ca : Ce} {i : Int} {ds : List D} (ha : Ev X B a S ca S1) (hb : Ev X B b S1 (.fr (.int i)) S2) (hl : AsL S2.L ca ds) (hi : atI ds i = some d) (hs : PlainIx b := by exact fun _ _ => rfl) (h1 : Sub S.L S1.L := by exact Sub.refl) (h2 : Sub S1.L S2.L := by exact Sub.refl) :
    Ev X B (.Subscript a b pos) S (.fr d) S2 :=
  fun F α H σ Q R k => wE.of (pe_ix ix_list pe_w pe_w hs) (ha F α H σ _ R fun F1 α1 v1 H1 R1 st1 r1 => hb F1 α1 H1 σ _ R1 fun F2 α2 v2 H2 R2 st2 r2 => by
    obtain ⟨p, vs, rfl, hq, rs⟩ := R2.asL hl (r1.step st2 h2)
    cases r2
    obtain ⟨v, hv, rv⟩ : ∃ v, atI vs i = some v ∧ Rep X.K X.mg F2 d v := by
      unfold atI at hi ⊢
      rw [← rs.length]
      cases q : ixN ds.length i with
      | none => rw [q] at hi; cases hi
      | some j => rw [q] at hi; exact rs.get hi
    exact ⟨p, vs, i, v, rfl, rfl, hq, hv, k F2 α2 v H2 R2 (st1.trans st2 h1) rv⟩)
theorem ev_ixT {i : Int} {ds : List D} (ha : Ev X B a S (.fr (.tup ds)) S1) (hb : Ev X B b S1 (.fr (.int i)) S2) (hi : atI ds i = some d) (hs : PlainIx b := by exact fun _ _ => rfl) (h1 : Sub S.L S1.L := by exact Sub.refl) (h2 : Sub S1.L S2.L := by exact Sub.refl) :
    Ev X B (.Subscript a b pos) S (.fr d) S2 :=
  fun F α H σ Q R k => wE.of (pe_ix ix_tup pe_w pe_w hs) (ha F α H σ _ R fun F1 α1 v1 H1 R1 st1 r1 => hb F1 α1 H1 σ _ R1 fun F2 α2 v2 H2 R2 st2 r2 => by
    obtain ⟨p, vs, rfl, hq, rs⟩ := R2.asT (Rep.mono st2.fro r1)
    cases r2
    obtain ⟨v, hv, rv⟩ : ∃ v, atI vs i = some v ∧ Rep X.K X.mg F2 d v := by
      unfold atI at hi ⊢
      rw [← rs.length]
      cases q : ixN ds.length i with
      | none => rw [q] at hi; cases hi
      | some j => rw [q] at hi; exact rs.get hi
    exact ⟨p, vs, i, v, rfl, rfl, hq, hv, k F2 α2 v H2 R2 (st1.trans st2 h1) rv⟩)
end
end Nz
namespace Nz
open PySem PySem.Spec PyProof.Rows L2
def wI (X : Cx) (tg iter : Expr) (σ : L2.St) (H : Hp) (R : It → Hp → Prop) : Prop :=
  ∀ pins s, Inv X pins σ H s → wpAny (model X.prog X.w) X.A (eval iter X.env) (fun v s1 => wpAny (model X.prog X.w) X.A (pyIter v) (PIE X pins σ tg R) X.xe s1) X.xe s
theorem pi_w {X : Cx} {tg iter : Expr} : PI X tg iter (wI X tg iter) := ⟨fun pins s σ H R I h => h pins s I⟩
theorem wI.of {X : Cx} {tg iter : Expr} {t : TI} {σ : L2.St} {H : Hp} {R : It → Hp → Prop} (h : PI X tg iter t) (q : t σ H R) : wI X tg iter σ H R := fun pins s I => h.run pins s σ H R I q
structure JOk (K : Frag) (mg : Mg) (F : Hp) (J : It) (xs : List D) : Prop where
  go : ∀ (B : Bd) F' α H σ (S : Nz.S) (i : Nat) (d : D), Rel K mg B F' α H σ S → Same F F' → xs[i]? = some d → J.go i H ∧ ∀ x H', J.yld i H x H' → ∃ F2, Rel K mg B F2 α H' σ S ∧ Same F' F2 ∧ Rep K mg F2 d x
  stop : ∀ (B : Bd) F' α H σ (S : Nz.S) (i : Nat), Rel K mg B F' α H σ S → Same F F' → xs.length ≤ i → J.stop i H
def Src (X : Cx) (B : Bd) (tg iter : Expr) (S : Nz.S) (xs : List D) (S1 : Nz.S) : Prop :=
  ∀ F α H σ R, RelX X B F α H σ S → (∀ F' α' H' J, RelX X B F' α' H' σ S1 → Stp F α S.L F' α' → JOk X.K X.mg F' J xs → R J H') → wI X tg iter σ H R
section
variable {X : Cx} {B : Bd} {S S1 S2 S3 : Nz.S} {tg a b c e : Expr} {es : List Expr} {pos p : Pos} {d d1 d2 d3 : D} {xs : List D}
theorem src_list (h : Ev X B e S (.fr (.lst xs)) S1) : Src X B tg e S xs S1 := fun F α H σ R RR k => wI.of (pi_list pe_w) (h F α H σ _ RR fun F1 α1 v1 H1 R1 st1 r1 => by
  cases r1 with
  | lst h1 h2 =>
    rename_i a vs
    refine ⟨a, rfl, ⟨vs, R1.sub.seq h1⟩, k F1 α1 H1 _ R1 st1 ⟨fun B F' α H σ S i d R' hs hi => ?_, fun B F' α H σ S i R' hs hi => ⟨vs, R'.sub.seq (hs.seq h1), by rw [← h2.length]; exact hi⟩⟩⟩
    obtain ⟨v, hv, rv⟩ := h2.get hi
    refine ⟨⟨vs, v, R'.sub.seq (hs.seq h1), hv⟩, fun x H' y => ?_⟩
    obtain ⟨rfl, y⟩ := y
    have := y vs (R'.sub.seq (hs.seq h1))
    rw [hv] at this; cases this
    exact ⟨F', R', Same.refl _, rv.mono hs⟩)
/-- lo, lo + 1, .. -/
def rngD (lo : Int) (n : Nat) : List D := (List.range n).map fun (i : Nat) => D.int (lo + (i : Int))
theorem rngD_get {lo : Int} {n i : Nat} {d : D} (h : (rngD lo n)[i]? = some d) : i < n ∧ d = .int (lo + i) := by
  unfold rngD at h
  rw [List.getElem?_map] at h
  by_cases hi : i < n
  · rw [List.getElem?_range hi] at h
    exact ⟨hi, (Option.some.inj h).symm⟩
  · rw [List.getElem?_eq_none (by simpa using hi)] at h
    cases h
theorem rngD_len {lo : Int} {n : Nat} : (rngD lo n).length = n := by simp [rngD]
theorem jok_range {K : Frag} {mg : Mg} {F : Hp} {lo : Int} {n : Nat} : JOk K mg F (Itr lo n) (rngD lo n) :=
  ⟨fun B F' α H σ S i d R' hs hi => by
    obtain ⟨h1, rfl⟩ := rngD_get hi
    refine ⟨h1, fun x H' y => ?_⟩
    obtain ⟨rfl, rfl⟩ := y
    exact ⟨F', R', Same.refl _, .int _⟩, fun B F' α H σ S i R' hs hi => by rw [rngD_len] at hi; exact hi⟩
theorem src_range1 {j : Int} (h : Ea X B [a] S [.fr (.int j)] S1) (hg : Gl X "range") (hm : X.mg "range" = none) (h1 : -(2 ^ 62) ≤ j) (h2 : j < 2 ^ 62) (hs : starEach [a] X.env = [(false, eval a X.env)] := by rfl) : Src X B tg (.Call (.Name "range" p) [a] [] pos) S (rngD 0 j.toNat) S1 :=
  fun F α H σ R RR k => wI.of (pi_range1 hg hm pa_w hs) (h F α H σ _ RR fun F1 α1 vs H1 R1 st1 r1 => by
    cases r1 with
    | cons r1 r2 =>
      cases r2
      cases r1
      exact ⟨j, rfl, h1, h2, k F1 α1 H1 _ R1 st1 jok_range⟩)
def wG (X : Cx) (tg : Expr) (v : V) (σ : L2.St) (H : Hp) (Q : L2.St → Hp → Prop) : Prop :=
  ∀ pins s u, Inv X pins σ H s → RelV v u → wpAny (model X.prog X.w) X.A (assign tg X.env u) (fun _ s' => ∃ σ' H', Inv X pins σ' H' s' ∧ Q σ' H') X.xe s
theorem pg_w {tg : Expr} : PG X tg (fun v σ H Q => wG X tg v σ H Q) := ⟨fun pins s σ H v u Q I r h => h pins s u I r⟩
def Eg (X : Cx) (B : Bd) (tg : Expr) (c : Ce) (S S2 : Nz.S) : Prop :=
  ∀ F α H σ v Q, RelX X B F α H σ S → CR X F α S.L c v → (∀ σ' F' H', RelX X B F' α H' σ' S2 → Same F F' → Q σ' H') → wG X tg v σ H Q
def setS (S : Nz.S) (i : Nat) (c : Ce) : Nz.S := ⟨S.ρ.set i (some c), S.L⟩
theorem Rel.setS {K : Frag} {mg : Mg} {F : Hp} {α : Nat → Addr} {H : Hp} {σ : L2.St} (R : Rel K mg B F α H σ S) {i : Nat} {c : Ce} {v : V} (r : CRel K mg F α S.L c v) : Rel K mg B F α H (σ.set i (some v)) (setS S i c) :=
  ⟨R.sub, R.bF, R.nF, R.frame, R.nd, R.inj, R.live, R.slots.set i r, R.fix⟩
theorem eg_name (i : Nat) {x : Str} {c : Ce} (hN : X.N.Nodup) (hi : X.N[i]? = some x) (hx : Loc X.env.scope x) (hf : X.fn x = true ∨ X.env.scope.names.lookup x = some .local := by first | exact .inl rfl | exact .inr rfl | assumption) : Eg X B (.Name x pos) c S (setS S i c) :=
  fun F α H σ v Q R r k pins s u I ru => (pg_name hN hi hx hf).run pins s σ H v u Q I ru (k _ F H (R.setS r) (Same.refl _))
/-- several -/
def Egs (X : Cx) (B : Bd) (ts : List Expr) (cs : List D) (S S2 : Nz.S) : Prop :=
  ∀ F α H σ vs (Q : L2.St → Hp → Prop), RelX X B F α H σ S → Reps X.K X.mg F cs vs → (∀ σ' F' H', RelX X B F' α H' σ' S2 → Same F F' → Q σ' H') →
    ∀ pins s us, Inv X pins σ H s → Vals vs us → wpAny (model X.prog X.w) X.A (assignInOrder ((assignEach ts X.env).map (·.2)) us) (fun _ s' => ∃ σ' H', Inv X pins σ' H' s' ∧ Q σ' H') X.xe s
theorem egs_nil : Egs X B [] [] S S := fun F α H σ vs Q R r k pins s us I ru => by
  cases r
  cases ru
  exact assignInOrder_nil ⟨σ, H, I, k σ F H R (Same.refl _)⟩
theorem egs_cons {ds : List D} (h1 : Eg X B e (.fr d) S S1) (h2 : Egs X B es ds S1 S2) (hL : S1.L = S.L := by rfl) (hs : (assignEach (e :: es) X.env).map (·.2) = assign e X.env :: (assignEach es X.env).map (·.2) := by rfl) : Egs X B (e :: es) (d :: ds) S S2 :=
  fun F α H σ vs Q R r k pins s us I ru => by
    cases r with
    | cons r rr =>
      cases ru with
      | cons u uu =>
        rw [hs]
        refine assignInOrder_cons (thn (h1 F α H σ _ (fun σ1 H1 => ∃ F1, RelX X B F1 α H1 σ1 S1 ∧ Same F F1) R r (fun σ' F' H' R' s' => ⟨F', R', s'⟩) pins s _ I u) fun _ s1 ⟨σ1, H1, I1, F1, R1, sm⟩ => ?_)
        exact h2 F1 α H1 σ1 _ Q R1 (rr.mono sm) (fun σ' F' H' R' s' => k σ' F' H' R' (sm.trans s')) pins s1 _ I1 uu
theorem eg_tup {ds : List D} {k1} (hc : X.calm = true) (h : Egs X B es ds S S2) (hn : (assignEach es X.env).length = ds.length := by rfl) (hst : (assignEach es X.env).findIdx? (·.1) = none := by rfl) : Eg X B (.Tuple es k1 pos) (.fr (.tup ds)) S S2 :=
  fun F α H σ v Q R r k pins s u I ru => by
    cases (show Rep X.K X.mg F (.tup ds) v from r) with
    | tup hq hr =>
      have hq' := R.sub.seqT hq
      cases ru
      obtain ⟨its, rv, ht, hz⟩ := I.tuple hq'
      refine assign_Tuple_tuple (I.ok.hd hc) ht (by simp [hn, hr.length, rv.length]) hst fun h' hx => ?_
      have I1 : Inv X pins σ H { s with heap := h' } := I.kept (t' := s.toks) fun b o e => hx b o (Nat.ne_of_lt (Heap.lt_size e)) e
      exact h F α H σ _ Q R hr k pins _ _ I1 (by simpa using rv)
variable {K : Out → Prop} {st : Stmt} {sts body els : List Stmt}
def seqK (X : Cx) (B : Bd) (rest : List Stmt) (K : Out → Prop) : Out → Prop
  | .nx S => Exs X B rest S K
  | .ret c S => K (.ret c S)
  | .bk S => K (.bk S)
  | .ct S => K (.ct S)
theorem exs_nil (h : K (.nx S)) : Exs X B [] S K := fun F α H σ D R o => wSs.of pss_nil (o.nx S F α H σ h R (Same.refl _))
theorem exs_cons (h : Ex X B st S (seqK X B sts K)) : Exs X B (st :: sts) S K := fun F α H σ D R o => wSs.of (pss_cons ps_w pss_w) (h F α H σ _ R
  ⟨fun S' F' α' H' σ' k R' s' => k F' α' H' σ' D R' (o.mono s'), fun S' F' α' H' σ' k R' s' => o.bk S' F' α' H' σ' k R' s', fun S' F' α' H' σ' k R' s' => o.ct S' F' α' H' σ' k R' s',
    fun c S' F' α' H' σ' v k R' s' r => o.ret c S' F' α' H' σ' v k R' s' r⟩)
theorem exs_one (h : Ex X B st S K) : Exs X B [st] S K := fun F α H σ D R o => wSs.of (pss_one ps_w) (h F α H σ _ R o)
theorem ex_asg {cv : Ce} (he : Ev X B e S cv S1) (hg : Eg X B tg cv S1 S2) (k : K (.nx S2)) (hs : swapsWithSole [tg] e pos.line X.env = pure false := by rfl) (hw : swappedStores [tg] e X.env = pure none := by rfl)
    (h1 : (assignEach [tg] X.env).map (·.2) = [assign tg X.env] := by rfl) : Ex X B (.Assign [tg] e pos) S K := fun F α H σ D R o => wS.of (ps_asg pe_w pg_w hs hw h1) (he F α H σ _ R fun F1 α1 v1 H1 R1 st1 r1 =>
      hg F1 α1 H1 σ v1 _ R1 r1 fun σ' F' H' R' s' => o.nx S2 F' α1 H' σ' k R' (st1.fro.trans s'))
theorem ex_set (i : Nat) {x : Str} {c : Ce} {pos' : Pos} (he : Ev X B e S c S1) (k : K (.nx (setS S1 i c))) (hN : X.N.Nodup) (hi : X.N[i]? = some x) (hx : Loc X.env.scope x) (hs : swapsWith e (some (.Name x pos')) pos.line X.env = pure false := by rfl)
    (hf : X.fn x = true ∨ X.env.scope.names.lookup x = some .local := by first | exact .inl rfl | exact .inr rfl | assumption) : Ex X B (.Assign [.Name x pos'] e pos) S K :=
  fun F α H σ D R o => wS.of (ps_set hN hi hx pe_w hs hf) (he F α H σ _ R fun F1 α1 v1 H1 R1 st1 r1 => o.nx _ F1 α1 H1 _ k (R1.setS r1) st1.fro)
theorem ex_ret {c : Ce} (he : Ev X B e S c S1) (k : K (.ret c S1)) : Ex X B (.Return (some e) pos) S K := fun F α H σ D R o => wS.of (ps_ret pe_w) (he F α H σ _ R fun F1 α1 v1 H1 R1 st1 r1 => o.ret c S1 F1 α1 H1 σ v1 k R1 st1.fro r1)
theorem ex_expr {c : Ce} (he : Ev X B e S c S1) (k : K (.nx S1)) (hs : swapsWith e none pos.line X.env = pure false := by rfl) : Ex X B (.Expr e pos) S K := fun F α H σ D R o => wS.of (ps_expr pe_w hs) (he F α H σ _ R fun F1 α1 v1 H1 R1 st1 r1 => o.nx S1 F1 α1 H1 σ k R1 st1.fro)
theorem ex_if {i : Bool} (ht : Et X B e S i S1) (ha : i = true → Exs X B body S1 K) (hb : i = false → Exs X B els S1 K) : Ex X B (.If e body els pos) S K := fun F α H σ D R o => wS.of (ps_if pt_w pss_w pss_w) (ht F α H σ _ R fun F1 α1 H1 R1 st1 => by
  cases i with
  | true => rw [if_pos rfl]; exact ha rfl F1 α1 H1 σ D R1 (o.mono st1.fro)
  | false => rw [if_neg Bool.false_ne_true]; exact hb rfl F1 α1 H1 σ D R1 (o.mono st1.fro))
theorem Exs.mono {K' : Out → Prop} (h : Exs X B sts S K) (hk : ∀ o, K o → K' o) : Exs X B sts S K' := fun F α H σ D R o => h F α H σ D R
  ⟨fun S' F' α' H' σ' k => o.nx S' F' α' H' σ' (hk _ k), fun S' F' α' H' σ' k => o.bk S' F' α' H' σ' (hk _ k), fun S' F' α' H' σ' k => o.ct S' F' α' H' σ' (hk _ k), fun c S' F' α' H' σ' v k => o.ret c S' F' α' H' σ' v (hk _ k)⟩
theorem Ex.mono {K' : Out → Prop} (h : Ex X B st S K) (hk : ∀ o, K o → K' o) : Ex X B st S K' := fun F α H σ D R o => h F α H σ D R
  ⟨fun S' F' α' H' σ' k => o.nx S' F' α' H' σ' (hk _ k), fun S' F' α' H' σ' k => o.bk S' F' α' H' σ' (hk _ k), fun S' F' α' H' σ' k => o.ct S' F' α' H' σ' (hk _ k), fun c S' F' α' H' σ' v k => o.ret c S' F' α' H' σ' v (hk _ k)⟩
end
end Nz
namespace Nz
open PySem PySem.Spec PyProof.Rows L2
def delL (n : Nat) : List (Nat × LO) → List (Nat × LO)
  | [] => []
  | (m, o) :: r => if n = m then delL n r else (m, o) :: delL n r
def frC (n : Nat) (d : D) : Ce → Ce
  | .fr e => .fr e
  | .ad m => if n = m then .fr d else .ad m
  | .xv u => .xv u
def frO (n : Nat) (d : D) : LO → LO
  | .fl ds => .fl ds
  | .cl cs => .cl (cs.map (frC n d))
  | .ins c fs => .ins c (fs.map fun p => (p.1, frC n d p.2))
  | .dT kvs => .dT kvs
  | .dK kvs => .dK (kvs.map fun p => (p.1, frC n d p.2))
def frS (n : Nat) (d : D) (S : Nz.S) : Nz.S := ⟨S.ρ.map (Option.map (frC n d)), (delL n S.L).map fun p => (p.1, frO n d p.2)⟩
section
variable {K : Frag} {mg : Mg} {B : Bd} {F F' : Hp} {α α' : Nat → Addr} {L L' : List (Nat × LO)} {H H' : Hp} {σ : L2.St} {S : Nz.S}
theorem mem_delL : ∀ {L : List (Nat × LO)} {n m : Nat} {o : LO}, (m, o) ∈ delL n L ↔ m ≠ n ∧ (m, o) ∈ L
  | [], n, m, o => by simp [delL]
  | (k, u) :: r, n, m, o => by
    unfold delL
    by_cases q : n = k
    · subst q
      rw [if_pos rfl, mem_delL, List.mem_cons]
      constructor
      · rintro ⟨h1, h2⟩; exact ⟨h1, .inr h2⟩
      · rintro ⟨h1, h2 | h2⟩
        · cases h2; exact absurd rfl h1
        · exact ⟨h1, h2⟩
    · rw [if_neg q, List.mem_cons, mem_delL, List.mem_cons]
      constructor
      · rintro (h | ⟨h1, h2⟩)
        · cases h; exact ⟨fun z => q z.symm, .inl rfl⟩
        · exact ⟨h1, .inr h2⟩
      · rintro ⟨h1, h2 | h2⟩
        · exact .inl h2
        · exact .inr ⟨h1, h2⟩
theorem names_delL {n m : Nat} : m ∈ names (delL n L) ↔ m ≠ n ∧ m ∈ names L := by
  constructor
  · intro h
    obtain ⟨⟨a, o⟩, h1, h2⟩ := List.mem_map.mp h
    have h2 : a = m := h2
    subst h2
    obtain ⟨h3, h4⟩ := mem_delL.mp h1
    exact ⟨h3, mem_names h4⟩
  · rintro ⟨h1, h2⟩
    obtain ⟨⟨a, o⟩, h3, h4⟩ := List.mem_map.mp h2
    have h4 : a = m := h4
    subst h4
    exact mem_names (mem_delL.mpr ⟨h1, h3⟩)
theorem names_frS {n : Nat} {d : D} : names ((delL n L).map fun p => (p.1, frO n d p.2)) = names (delL n L) := by simp [names]
theorem nodup_delL {n : Nat} (h : (names L).Nodup) : (names (delL n L)).Nodup := by
  refine h.sublist (List.Sublist.map _ ?_)
  induction L with
  | nil => exact .slnil
  | cons p r ih =>
    obtain ⟨m, o⟩ := p
    have ih' := ih (List.nodup_cons.mp h).2
    unfold delL
    split
    · exact .cons _ ih'
    · exact .cons₂ _ ih'
theorem CRel.freeze {n : Nat} {d : D} (hF : Same F F') (hd : Rep K mg F' d (.ref (α n))) : ∀ {c : Ce} {v : V}, CRel K mg F α L c v → CRel K mg F' α ((delL n L).map fun p => (p.1, frO n d p.2)) (frC n d c) v
  | .fr e, v, h => Rep.mono hF h
  | .ad m, v, ⟨h1, h2⟩ => by
    subst h2
    show CRel K mg F' α _ (if n = m then .fr d else .ad m) _
    by_cases q : n = m
    · subst q; rw [if_pos rfl]; exact hd
    · rw [if_neg q]
      exact ⟨by rw [names_frS]; exact names_delL.mpr ⟨fun z => q z.symm, h1⟩, rfl⟩
  | .xv _, _, h => h
theorem CRels.freeze {n : Nat} {d : D} (hF : Same F F') (hd : Rep K mg F' d (.ref (α n))) : ∀ {c : List Ce} {v : List V}, CRels K mg F α L c v → CRels K mg F' α ((delL n L).map fun p => (p.1, frO n d p.2)) (c.map (frC n d)) v
  | _, _, .nil => .nil
  | _, _, .cons h r => .cons (h.freeze hF hd) (r.freeze hF hd)
theorem CRelF.freeze {n : Nat} {d : D} (hF : Same F F') (hd : Rep K mg F' d (.ref (α n))) : ∀ {c : List (Str × Ce)} {v : List (Str × V)}, CRelF K mg F α L c v → CRelF K mg F' α ((delL n L).map fun p => (p.1, frO n d p.2)) (c.map fun p => (p.1, frC n d p.2)) v
  | _, _, .nil => .nil
  | _, _, .cons h r => .cons (h.freeze hF hd) (r.freeze hF hd)
theorem CRelK.freeze {κ : Type} {n : Nat} {d : D} (hF : Same F F') (hd : Rep K mg F' d (.ref (α n))) : ∀ {c : List (κ × Ce)} {v : List (κ × V)}, CRelK K mg F α L c v → CRelK K mg F' α ((delL n L).map fun p => (p.1, frO n d p.2)) (c.map fun p => (p.1, frC n d p.2)) v
  | _, _, .nil => .nil
  | _, _, .cons h r => .cons (h.freeze hF hd) (r.freeze hF hd)
theorem SlR.freeze {n : Nat} {d : D} (hF : Same F F') (hd : Rep K mg F' d (.ref (α n))) : ∀ {c : List (Option Ce)} {v : L2.St}, SlR K mg F α L c v → SlR K mg F' α ((delL n L).map fun p => (p.1, frO n d p.2)) (c.map (Option.map (frC n d))) v
  | _, _, .nil => .nil
  | _, _, .no r => .no (r.freeze hF hd)
  | _, _, .so h r => .so (h.freeze hF hd) (r.freeze hF hd)
/-- a live list whose items are frozen is frozen -/
theorem Rel.freeze (R : Rel K mg B F α H σ S) {n : Nat} {ds : List D} (hn : getL n S.L = some (.fl ds)) :
    ∃ F', Rel K mg B F' α H σ (frS n (.lst ds) S) ∧ Stp F α S.L F' α ∧ Rep K mg F' (.lst ds) (.ref (α n)) ∧ ∀ c v, CRel K mg F α S.L c v → CRel K mg F' α (frS n (.lst ds) S).L (frC n (.lst ds) c) v := by
  obtain ⟨f0, f1, vs, e, r⟩ := R.live n _ (getL_mem hn)
  have hF : Same F (upd F (α n) (.lst vs)) := same_upd f0
  have hd : Rep K mg (upd F (α n) (.lst vs)) (.lst ds) (.ref (α n)) := .lst (SqL.of upd_same) (r.mono hF)
  refine ⟨upd F (α n) (.lst vs), ⟨fun b u q => ?_, R.bF.trans hF, fun b u q => ?_, R.frame, ?_, fun a b ha hb => ?_, fun m o hm => ?_, R.slots.freeze hF hd, fun m a e hm => R.fix m a e (names_delL.mp (by rw [← names_frS]; exact hm)).2⟩, ⟨hF, fun _ _ => rfl⟩, hd, fun c v h => h.freeze hF hd⟩
  · by_cases z : b = α n
    · subst z; rw [upd_same] at q; rw [e]; exact q
    · rw [upd_ne z] at q; exact R.sub b u q
  · by_cases z : b = α n
    · subst z; exact .inr f1
    · rw [upd_ne z] at q; exact R.nF b u q
  · show (names ((delL n S.L).map fun p => (p.1, frO n (.lst ds) p.2))).Nodup
    rw [names_frS]; exact nodup_delL R.nd
  · have ha : a ∈ names ((delL n S.L).map fun p => (p.1, frO n (.lst ds) p.2)) := ha
    have hb : b ∈ names ((delL n S.L).map fun p => (p.1, frO n (.lst ds) p.2)) := hb
    rw [names_frS] at ha hb
    exact R.inj a b (names_delL.mp ha).2 (names_delL.mp hb).2
  · obtain ⟨⟨m', o'⟩, h1, h2⟩ := List.mem_map.mp hm
    cases h2
    obtain ⟨h3, h4⟩ := mem_delL.mp h1
    obtain ⟨g0, g1, g2⟩ := R.live m' o' h4
    have ne : α m' ≠ α n := fun q => h3 (R.inj _ _ (mem_names h4) (mem_names (getL_mem hn)) q)
    refine ⟨(upd_ne ne).trans g0, g1, ?_⟩
    cases o' with
    | fl ds' => obtain ⟨us, e1, r1⟩ := g2; exact ⟨us, e1, r1.mono hF⟩
    | cl cs => obtain ⟨us, e1, r1⟩ := g2; exact ⟨us, e1, r1.freeze hF hd⟩
    | ins c fs =>
      obtain ⟨C, dx, us, m1, e1, e2, e3, e4, r1⟩ := g2
      exact ⟨C, dx, us, m1, e1, e2, by rw [upd_ne (fun q => by rw [q, e] at e2; cases e2)]; exact e3, e4, r1.freeze hF hd⟩
    | dT kvs => obtain ⟨us, e1, r1⟩ := g2; exact ⟨us, e1, Paired.imp (fun _ _ z => ⟨z.1, z.2.mono hF⟩) r1⟩
    | dK kvs => obtain ⟨us, e1, r1⟩ := g2; exact ⟨us, e1, r1.freeze hF hd⟩
/-- an object's cells speak of L alone -/
theorem CRel.res : ∀ {c : Ce} {v v1 : V} {F1 : Hp} {α1 : Nat → Addr} {mg1 : Mg}, CRel K mg F α L' c v → CRel K mg1 F1 α1 L c v1 → CRel K mg F α L c v
  | .fr _, _, _, _, _, _, h, _ => h
  | .ad n, _, _, _, _, _, ⟨_, h2⟩, ⟨h3, _⟩ => ⟨h3, h2⟩
  | .xv _, _, _, _, _, _, h, _ => h
theorem CRels.res : ∀ {c : List Ce} {v v1 : List V} {F1 : Hp} {α1 : Nat → Addr}, CRels K mg F α L' c v → CRels K mg F1 α1 L c v1 → CRels K mg F α L c v
  | _, _, _, _, _, .nil, .nil => .nil
  | _, _, _, _, _, .cons h r, .cons h' r' => .cons (h.res h') (r.res r')
theorem CRelF.res : ∀ {c : List (Str × Ce)} {v v1 : List (Str × V)} {F1 : Hp} {α1 : Nat → Addr}, CRelF K mg F α L' c v → CRelF K mg F1 α1 L c v1 → CRelF K mg F α L c v
  | _, _, _, _, _, .nil, .nil => .nil
  | _, _, _, _, _, .cons h r, .cons h' r' => .cons (h.res h') (r.res r')
theorem CRelK.res {κ : Type} : ∀ {c : List (κ × Ce)} {v v1 : List (κ × V)} {F1 : Hp} {α1 : Nat → Addr}, CRelK K mg F α L' c v → CRelK K mg F1 α1 L c v1 → CRelK K mg F α L c v
  | _, _, _, _, _, .nil, .nil => .nil
  | _, _, _, _, _, .cons h r, .cons h' r' => .cons (h.res h') (r.res r')
theorem LAt.res {a a1 : Addr} {o : LO} {F1 H1 : Hp} {α1 : Nat → Addr} (h : LAt K mg B F α L' H a o) (h1 : LAt K mg B F1 α1 L H1 a1 o) : LAt K mg B F α L H a o := by
  cases o with
  | fl ds => exact h
  | cl cs => obtain ⟨us, e1, r1⟩ := h; obtain ⟨_, _, q⟩ := h1; exact ⟨us, e1, r1.res q⟩
  | ins c fs => obtain ⟨C, dx, us, m1, e1, e2, e3, e4, r1⟩ := h; obtain ⟨_, _, _, _, _, _, _, _, q⟩ := h1; exact ⟨C, dx, us, m1, e1, e2, e3, e4, r1.res q⟩
  | dT kvs => exact h
  | dK kvs => obtain ⟨us, e1, r1⟩ := h; obtain ⟨_, _, q⟩ := h1; exact ⟨us, e1, r1.res q⟩
theorem LAt.frz {a p : Addr} {o : LO} {vs : List V} (f0 : F p = none) (e : H p = some (.lst vs)) (h : LAt K mg B F α L H a o) : LAt K mg B (upd F p (.lst vs)) α L H a o := by
  have hF : Same F (upd F p (.lst vs)) := same_upd f0
  have st : Stp F α L (upd F p (.lst vs)) α := ⟨hF, fun _ _ => rfl⟩
  cases o with
  | fl ds => obtain ⟨us, e1, r1⟩ := h; exact ⟨us, e1, r1.mono hF⟩
  | cl cs => obtain ⟨us, e1, r1⟩ := h; exact ⟨us, e1, r1.step st fun _ z => z⟩
  | ins c fs =>
    obtain ⟨C, dx, us, m1, e1, e2, e3, e4, r1⟩ := h
    exact ⟨C, dx, us, m1, e1, e2, by rw [upd_ne (fun q => by rw [q, e] at e2; cases e2)]; exact e3, e4, r1.step st fun _ z => z⟩
  | dT kvs => obtain ⟨us, e1, r1⟩ := h; exact ⟨us, e1, Paired.imp (fun _ _ z => ⟨z.1, z.2.mono hF⟩) r1⟩
  | dK kvs => obtain ⟨us, e1, r1⟩ := h; exact ⟨us, e1, r1.step st fun _ z => z⟩
/-- the last live list is frozen, the rest is as it was -/
theorem Rel.close {F1 H1 : Hp} {α1 : Nat → Addr} {σ1 : L2.St} {ρ ρ1 : List (Option Ce)} {n : Nat} {ds : List D} (R1 : Rel K mg B F1 α1 H1 σ1 ⟨ρ1, L⟩) (R : Rel K mg B F α H σ ⟨ρ, L ++ [(n, .fl ds)]⟩) (st : Stp F1 α1 L F α) (hn : n ∉ names L) :
    ∃ F', Rel K mg B F' α H σ1 ⟨ρ1, L⟩ ∧ Stp F1 α1 L F' α ∧ Rep K mg F' (.lst ds) (.ref (α n)) := by
  obtain ⟨f0, f1, vs, e, r⟩ := R.live n (.fl ds) (List.mem_append_right _ (List.mem_singleton.mpr rfl))
  have hF : Same F (upd F (α n) (.lst vs)) := same_upd f0
  have hd : Rep K mg (upd F (α n) (.lst vs)) (.lst ds) (.ref (α n)) := .lst (SqL.of upd_same) (r.mono hF)
  have st2 : Stp F1 α1 L (upd F (α n) (.lst vs)) α := ⟨st.fro.trans hF, st.nm⟩
  have nn : ∀ m, m ∈ names L → m ∈ names (L ++ [(n, LO.fl ds)]) := fun m h => Sub.app m h
  refine ⟨upd F (α n) (.lst vs), ⟨fun b u q => ?_, R.bF.trans hF, fun b u q => ?_, R.frame, R1.nd, fun a b ha hb => R.inj a b (nn a ha) (nn b hb), fun m o hm => ?_, R1.slots.step st2 fun _ z => z, fun m a e hm => R.fix m a e (nn m hm)⟩, st2, hd⟩
  · by_cases z : b = α n
    · subst z; rw [upd_same] at q; rw [e]; exact q
    · rw [upd_ne z] at q; exact R.sub b u q
  · by_cases z : b = α n
    · subst z; exact .inr f1
    · rw [upd_ne z] at q; exact R.nF b u q
  · have hm' : (m, o) ∈ L := hm
    obtain ⟨g0, g1, g2⟩ := R.live m o (List.mem_append_left _ hm')
    have ne : α m ≠ α n := fun q => hn (by rw [← R.inj _ _ (nn m (mem_names hm')) (by rw [names_append]; exact List.mem_append_right _ (List.mem_singleton.mpr rfl)) q]; exact mem_names hm')
    refine ⟨by rw [upd_ne ne]; exact g0, g1, ?_⟩
    have g3 : LAt K mg B (upd F (α n) (.lst vs)) α (L ++ [(n, .fl ds)]) H (α m) o := g2.frz f0 e
    exact g3.res (R1.live m o hm').2.2
end
end Nz
namespace Nz
open PySem PySem.Spec PyProof.Rows L2
def EgC (X : Cx) (B : Bd) (tg : Expr) (c : Ce) (S S2 : Nz.S) (vs : List Nat) : Prop :=
  ∀ F α H σ v Q, RelX X B F α H σ S → CR X F α S.L c v → (∀ σ' F' H', RelX X B F' α H' σ' S2 → Same F F' → wipe σ' vs = wipe σ vs → Q σ' H') → wG X tg v σ H Q
theorem wipe_set : ∀ {vs : List Nat} {σ : L2.St} {i : Nat} {x : Option V}, i ∈ vs → wipe (σ.set i x) vs = wipe σ vs
  | v :: vs, σ, i, x, h => by
    show (wipe (σ.set i x) vs).set v none = (wipe σ vs).set v none
    by_cases hi : i ∈ vs
    · rw [wipe_set hi]
    · have e : v = i := by
        rcases List.mem_cons.mp h with h | h
        · exact h.symm
        · exact absurd h hi
      subst e
      clear h
      have key : ∀ (vs : List Nat) (σ : L2.St), v ∉ vs → wipe (σ.set v x) vs = (wipe σ vs).set v x := by
        intro vs
        induction vs with
        | nil => intro σ _; rfl
        | cons u us ih =>
          intro σ hn
          show (wipe (σ.set v x) us).set u none = ((wipe σ us).set u none).set v x
          rw [ih σ (fun z => hn (List.mem_cons_of_mem _ z)), List.set_comm _ _ (fun z => hn (by rw [z]; exact List.mem_cons_self))]
      rw [key vs σ hi, List.set_set]
theorem wipe_idem {σ : L2.St} : ∀ {vs : List Nat}, wipe (wipe σ vs) vs = wipe σ vs
  | [] => rfl
  | v :: vs => by
    show (wipe ((wipe σ vs).set v none) vs).set v none = (wipe σ vs).set v none
    by_cases h : v ∈ vs
    · rw [wipe_set h, wipe_idem]
    · have key : ∀ (ws : List Nat) (τ : L2.St), v ∉ ws → wipe (τ.set v none) ws = (wipe τ ws).set v none := by
        intro ws
        induction ws with
        | nil => intro τ _; rfl
        | cons u us ih =>
          intro τ hn
          show (wipe (τ.set v none) us).set u none = ((wipe τ us).set u none).set v none
          rw [ih τ (fun z => hn (List.mem_cons_of_mem _ z)), List.set_comm _ _ (fun z => hn (by rw [z]; exact List.mem_cons_self))]
      rw [key vs _ h, wipe_idem, List.set_set]
theorem getL_app : ∀ {L : List (Nat × LO)} {n : Nat} {o : LO}, n ∉ names L → getL n (L ++ [(n, o)]) = some o
  | [], n, o, _ => by simp [getL]
  | (m, u) :: r, n, o, h => by
    show (if n = m then some u else getL n (r ++ [(n, o)])) = _
    rw [if_neg (fun z => h (by rw [z]; exact List.mem_cons_self)), getL_app (fun z => h (List.mem_cons_of_mem _ z))]
theorem setL_app : ∀ {L : List (Nat × LO)} {n : Nat} {o u : LO}, n ∉ names L → setL n u (L ++ [(n, o)]) = L ++ [(n, u)]
  | [], n, o, u, _ => by simp [setL]
  | (m, w) :: r, n, o, u, h => by
    show (if n = m then (m, u) :: (r ++ [(n, o)]) else (m, w) :: setL n u (r ++ [(n, o)])) = _
    rw [if_neg (fun z => h (by rw [z]; exact List.mem_cons_self)), setL_app (fun z => h (List.mem_cons_of_mem _ z))]
    rfl
theorem eg_nameC {X : Cx} {B : Bd} {S : Nz.S} {vs : List Nat} (i : Nat) {x : Str} {c : Ce} {pos : Pos} (hN : X.N.Nodup) (hi : X.N[i]? = some x) (hx : Loc X.env.scope x) (hv : i ∈ vs) (hf : X.fn x = true ∨ X.env.scope.names.lookup x = some .local) : EgC X B (.Name x pos) c S (setS S i c) vs :=
  fun F α H σ v Q R r k pins s u I ru => (pg_name hN hi hx hf).run pins s σ H v u Q I ru (k _ F H (R.setS r) (Same.refl _) (wipe_set hv))
def wTs (X : Cx) (ifs : List Expr) (σ : L2.St) (H : Hp) (Q : Bool → Hp → Prop) : Prop :=
  ∀ pins s, Inv X pins σ H s → wpAny (model X.prog X.w) X.A (forIn ifs true fun c r => if r = true then do let ok ← isTrue c X.env (eval c X.env); pure (ForInStep.yield ok) else pure (ForInStep.yield r)) (TP X pins σ Q) X.xe s
def Ets (X : Cx) (B : Bd) (ifs : List Expr) (S : Nz.S) (b : Bool) : Prop :=
  ∀ F α H σ Q, RelX X B F α H σ S → (∀ F' α' H', RelX X B F' α' H' σ S → Stp F α S.L F' α' → Q b H') → wTs X ifs σ H Q
theorem ets_nil {X : Cx} {B : Bd} {S : Nz.S} : Ets X B [] S true := fun F α H σ Q R k pins s I => pts_nil.run pins s σ H Q I (k F α H R Stp.refl)
theorem ets_one {X : Cx} {B : Bd} {S : Nz.S} {c : Expr} {b : Bool} (h : Et X B c S b S) : Ets X B [c] S b := fun F α H σ Q R k pins s I => (pts_one pt_w).run pins s σ H Q I (h F α H σ Q R k)
def wipeC (ρ : List (Option Ce)) : List Nat → List (Option Ce)
  | [] => ρ
  | v :: vs => (wipeC ρ vs).set v none
theorem SlR.setN {K : Frag} {mg : Mg} {F : Hp} {α : Nat → Addr} {L : List (Nat × LO)} : ∀ {c : List (Option Ce)} {σ : L2.St} (i : Nat) {o : Option V}, SlR K mg F α L c σ → SlR K mg F α L (c.set i none) (σ.set i o)
  | _, _, _, _, .nil => .nil
  | _, _, 0, _, .no r => .no r
  | _, _, 0, _, .so _ r => .no r
  | _, _, i + 1, _, .no r => .no (r.setN i)
  | _, _, i + 1, _, .so q r => .so q (r.setN i)
theorem SlR.wipe {K : Frag} {mg : Mg} {F : Hp} {α : Nat → Addr} {L : List (Nat × LO)} {c : List (Option Ce)} {σ : L2.St} (h : SlR K mg F α L c σ) : ∀ vs : List Nat, SlR K mg F α L (wipeC c vs) (L2.wipe σ vs)
  | [] => h
  | v :: vs => (h.wipe vs).setN v
/-- the context of a comprehension's block -/
abbrev Blk (X : Cx) (scope : Scope) (s : Shared) (H : Hp) (C : Addr) (cl : List (Str × Addr)) (fp : List Addr) : Cx := X.blk s H scope (compEnvC scope cl C X.env) fp
section
variable {X : Cx} {B : Bd} {S S1 : Nz.S} {elt tg iter : Expr} {ifs : List Expr} {scope : Scope} {own : List (Str × Nat)} {pos : Pos}
/-- [elt for tg in iter if ..] of data -/
theorem lc_reading {τ : Type} (nD : Nat) {ys : List τ} {enc : τ → D} (f : τ → D) (p : τ → Bool) (Sx : Nat → τ → List D → Nz.S)
    (hsrc : Src X B tg iter S (ys.map enc) S1) (hn : nD ∉ names S1.L) (h100 : 100 ≤ nD) (hz : ys.length ≤ sizeLine) (hL : ∀ i y acc, (Sx i y acc).L = S1.L ++ [(nD, .fl acc)])
    (hg : ∀ i y acc, ys[i]? = some y → ∀ s H0 C cl fp, EgC (Blk X scope s H0 C cl fp) B tg (.fr (enc y)) ⟨wipeC S1.ρ (own.map (·.2)), S1.L ++ [(nD, .fl acc)]⟩ (Sx i y acc) (own.map (·.2)))
    (ht : ∀ i y acc, ys[i]? = some y → ∀ s H0 C cl fp, Ets (Blk X scope s H0 C cl fp) B ifs (Sx i y acc) (p y))
    (he : ∀ i y acc, ys[i]? = some y → p y = true → ∀ s H0 C cl fp, Ev (Blk X scope s H0 C cl fp) B elt (Sx i y acc) (.fr (f y)) (Sx i y acc))
    (F : Hp) (α : Nat → Addr) (H : Hp) (σ : L2.St) (Q : VK) (R : RelX X B F α H σ S) (hS : Sub S.L S1.L)
    (k : ∀ F' α' v H', RelX X B F' α' H' σ S1 → Stp F α S.L F' α' → Rep X.K X.mg F' (.lst ((ys.filter p).map f)) v → Q v H') :
    tLc (wI X tg iter) (fun v σ H Q => ∀ s H0 C cl fp, wG (Blk X scope s H0 C cl fp) tg v σ H Q) (fun σ H Q => ∀ s H0 C cl fp, wTs (Blk X scope s H0 C cl fp) ifs σ H Q) (fun σ H Q => ∀ s H0 C cl fp, wE (Blk X scope s H0 C cl fp) elt σ H Q) (own.map (·.2)) σ H Q := by
  refine hsrc F α H σ _ R fun F1 α1 H1 J R1 st1 j => ?_
  intro D hD
  have Rn := R1.allocL (n := nD) (u := .fl []) (o := .lst []) hD hn h100 ⟨[], upd_same, .nil⟩
  have stn : Stp F1 α1 S1.L F1 (setα α1 nD D) := stp_setα hn
  have eD : setα α1 nD D nD = D := by unfold setα; rw [if_pos rfl]
  -- the state at turn i
  let W : Nat → Hp → Prop := fun i H => ∃ F' α', RelX X B F' α' H (L2.wipe σ (own.map (·.2))) ⟨wipeC S1.ρ (own.map (·.2)), S1.L ++ [(nD, .fl (((ys.take i).filter p).map f))]⟩ ∧ Stp F1 (setα α1 nD D) (S1.L ++ [(nD, .fl [])]) F' α'
  have w0 : W 0 (upd H1 D (.lst [])) := ⟨F1, setα α1 nD D, ⟨Rn.sub, Rn.bF, Rn.nF, Rn.frame, Rn.nd, Rn.inj, Rn.live, Rn.slots.wipe _, Rn.fix⟩, Stp.refl⟩
  refine ⟨fun i m H => m = ys.length - i ∧ i ≤ ys.length ∧ W i H, ⟨ys.length, by simp, Nat.zero_le _, w0⟩, ?_⟩
  rintro i m H' ⟨rfl, hi, F', α', R', st'⟩
  have sm : Same F1 F' := st'.fro
  have nmD : α' nD = D := by rw [st'.nm nD (by rw [names_append]; exact List.mem_append_right _ (List.mem_singleton.mpr rfl)), eD]
  by_cases hlt : i < ys.length
  · obtain ⟨y, hy⟩ : ∃ y, ys[i]? = some y := ⟨ys[i], by simp [hlt]⟩
    obtain ⟨g, yl⟩ := j.go B F' α' H' _ _ i (enc y) R' sm (by rw [List.getElem?_map, hy]; rfl)
    have tk : (ys.take (i + 1)) = ys.take i ++ [y] := by rw [List.take_succ, hy]; rfl
    refine .inr ⟨g, W (i + 1), fun H2 w2 => ⟨ys.length - (i + 1), by omega, rfl, hlt, w2⟩, fun x H2 yy => ?_⟩
    obtain ⟨F2, R2, s2, r2⟩ := yl x H2 yy
    intro sA HA CA clA fpA
    refine hg i y (((ys.take i).filter p).map f) hy sA HA CA clA fpA F2 α' H2 _ x _ R2 r2 fun σ3 F3 H3 R3 s3 w3 => ⟨w3.trans wipe_idem, ?_⟩
    intro sB HB CB clB fpB
    refine ht i y (((ys.take i).filter p).map f) hy sB HB CB clB fpB F3 α' H3 σ3 _ R3 fun F4 α4 H4 R4 st4 => ?_
    have hLL := hL i y (((ys.take i).filter p).map f)
    have full : ∀ {F5 : Hp} {α5 : Nat → Addr} {acc : List Nz.D}, Same F' F5 → (∀ n, n ∈ names (S1.L ++ [(nD, LO.fl (((ys.take i).filter p).map f))]) → α5 n = α' n) → Stp F1 (setα α1 nD D) (S1.L ++ [(nD, .fl [])]) F5 α5 := fun {F5 α5 acc} h1 h2 =>
      ⟨sm.trans h1, fun n hn' => by
        rw [h2 n (by rw [names_append] at hn' ⊢; exact hn'), st'.nm n hn']⟩
    have back : ∀ {F5 : Hp} {α5 : Nat → Addr} {H5 : Hp} {acc : List Nz.D}, RelX X B F5 α5 H5 σ3 ⟨(Sx i y (((ys.take i).filter p).map f)).ρ, S1.L ++ [(nD, .fl acc)]⟩ → SlR X.K X.mg F5 α5 (S1.L ++ [(nD, .fl acc)]) (wipeC S1.ρ (own.map (·.2))) (L2.wipe σ (own.map (·.2))) →
        RelX X B F5 α5 H5 (L2.wipe σ (own.map (·.2))) ⟨wipeC S1.ρ (own.map (·.2)), S1.L ++ [(nD, .fl acc)]⟩ := fun {F5 α5 H5 acc} Rr sl => ⟨Rr.sub, Rr.bF, Rr.nF, Rr.frame, Rr.nd, Rr.inj, Rr.live, sl, Rr.fix⟩
    have sl0 : SlR X.K X.mg F' α' (S1.L ++ [(nD, .fl (((ys.take i).filter p).map f))]) (wipeC S1.ρ (own.map (·.2))) (L2.wipe σ (own.map (·.2))) := R'.slots
    have st4' : Stp F' α' (S1.L ++ [(nD, .fl (((ys.take i).filter p).map f))]) F4 α4 := ⟨s2.trans (s3.trans st4.fro), fun n hn' => st4.nm n (by rw [hLL]; exact hn')⟩
    cases hp : p y with
    | false =>
      rw [if_neg Bool.false_ne_true]
      have e2 : ((ys.take (i + 1)).filter p).map f = ((ys.take i).filter p).map f := by rw [tk, List.filter_append]; simp [hp]
      refine ⟨F4, α4, ?_, full (acc := []) st4'.fro st4'.nm⟩
      rw [e2]
      have R4' : RelX X B F4 α4 H4 σ3 ⟨(Sx i y (((ys.take i).filter p).map f)).ρ, S1.L ++ [(nD, .fl (((ys.take i).filter p).map f))]⟩ := by rw [← hLL]; exact R4
      exact back R4' (sl0.step st4' fun _ z => z)
    | true =>
      rw [if_pos rfl]
      intro sC HC CC clC fpC
      refine he i y (((ys.take i).filter p).map f) hy hp sC HC CC clC fpC F4 α4 H4 σ3 _ R4 fun F5 α5 v5 H5 R5 st5 r5 => ?_
      have st5' : Stp F' α' (S1.L ++ [(nD, .fl (((ys.take i).filter p).map f))]) F5 α5 := st4'.trans ⟨st5.fro, fun n hn' => st5.nm n (by rw [hLL]; exact hn')⟩ fun _ z => z
      have R5' : RelX X B F5 α5 H5 σ3 ⟨(Sx i y (((ys.take i).filter p).map f)).ρ, S1.L ++ [(nD, .fl (((ys.take i).filter p).map f))]⟩ := by rw [← hLL]; exact R5
      obtain ⟨q0, q1, vs5, e5, rs5⟩ := R5'.live nD _ (List.mem_append_right _ (List.mem_singleton.mpr rfl))
      have nm5 : α5 nD = D := by rw [st5'.nm nD (by rw [names_append]; exact List.mem_append_right _ (List.mem_singleton.mpr rfl)), nmD]
      have gl := getL_app (o := .fl (((ys.take i).filter p).map f)) hn
      have sl : ∀ (acc : List Nz.D), setL nD (.fl acc) (S1.L ++ [(nD, LO.fl (((ys.take i).filter p).map f))]) = S1.L ++ [(nD, .fl acc)] := fun acc => setL_app hn
      rw [nm5] at e5
      have e2 : ((ys.take (i + 1)).filter p).map f = ((ys.take i).filter p).map f ++ [f y] := by rw [tk, List.filter_append, List.map_append]; simp [hp]
      have lenv : vs5.length < sizeLine := by
        rw [← rs5.length, List.length_map]
        have := List.length_filter_le p (ys.take i)
        rw [List.length_take] at this
        omega
      refine ⟨vs5, e5, lenv, F5, α5, ?_, full (acc := []) st5'.fro st5'.nm⟩
      have Rp := R5'.put (n := nD) (u := .fl (((ys.take i).filter p).map f ++ [f y])) (o' := .lst (vs5 ++ [v5])) (getL_mem gl) ⟨vs5 ++ [v5], upd_same, rs5.append (.cons r5 .nil)⟩
      rw [nm5] at Rp
      rw [e2]
      have Rp' : RelX X B F5 α5 (upd H5 D (.lst (vs5 ++ [v5]))) σ3 ⟨(Sx i y (((ys.take i).filter p).map f)).ρ, S1.L ++ [(nD, .fl (((ys.take i).filter p).map f ++ [f y]))]⟩ := by rw [← sl]; exact Rp
      refine back Rp' (sl0.step (L' := S1.L ++ [(nD, .fl (((ys.take i).filter p).map f ++ [f y]))]) st5' fun n hn' => by rw [names_append] at hn' ⊢; exact hn')
  · have e1 : i = ys.length := by omega
    subst e1
    refine .inl ⟨j.stop B F' α' H' _ _ _ R' sm (by rw [List.length_map]; exact Nat.le_refl _), ?_⟩
    rw [List.take_length] at R'
    have stA : Stp F1 α1 S1.L F' α' := stn.trans ⟨st'.fro, fun n hn' => st'.nm n (Sub.app n hn')⟩ fun _ z => z
    obtain ⟨F6, R6, st6, r6⟩ := Rel.close (L := S1.L) R1 R' stA hn
    rw [nmD] at r6
    exact k F6 α' (.ref D) H' R6 (st1.trans st6 hS) r6
section
variable {τ : Type} {ys : List τ} {enc : τ → D}
theorem ev_lc (nD : Nat) (ys : List τ) (enc : τ → D) (f : τ → D) (p : τ → Bool) (Sx : Nat → τ → List D → Nz.S) (hc : X.calm = true) (hN : X.N.Nodup) (ok : BlkOk X.N X.env.scope scope own)
    (hsrc : Src X B tg iter S (ys.map enc) S1) (hn : nD ∉ names S1.L) (h100 : 100 ≤ nD) (hz : ys.length ≤ sizeLine) (hL : ∀ i y acc, (Sx i y acc).L = S1.L ++ [(nD, .fl acc)])
    (hg : ∀ i y acc, ys[i]? = some y → ∀ s H0 C cl fp, EgC (Blk X scope s H0 C cl fp) B tg (.fr (enc y)) ⟨wipeC S1.ρ (own.map (·.2)), S1.L ++ [(nD, .fl acc)]⟩ (Sx i y acc) (own.map (·.2)))
    (ht : ∀ i y acc, ys[i]? = some y → ∀ s H0 C cl fp, Ets (Blk X scope s H0 C cl fp) B ifs (Sx i y acc) (p y))
    (he : ∀ i y acc, ys[i]? = some y → p y = true → ∀ s H0 C cl fp, Ev (Blk X scope s H0 C cl fp) B elt (Sx i y acc) (.fr (f y)) (Sx i y acc)) (hS : Sub S.L S1.L := by exact Sub.refl) (hs : ∀ x, foldedSetIterable iter X.env x = pure x := by intro _; rfl) :
    Ev X B (.ListComp elt [⟨tg, iter, ifs, 0⟩] scope pos) S (.fr (.lst ((ys.filter p).map f))) S1 :=
  fun F α H σ Q R k => wE.of (pe_lc hc hN pi_w ok (fun s H0 C cl fp => ⟨fun pins s1 σ1 H1 v u Q1 I r h => h s H0 C cl fp pins s1 u I r⟩) (fun s H0 C cl fp => ⟨fun pins s1 σ1 H1 Q1 I h => h s H0 C cl fp pins s1 I⟩) (fun s H0 C cl fp => ⟨fun pins s1 σ1 H1 Q1 I h => h s H0 C cl fp pins s1 I⟩) hs)
    (lc_reading nD f p Sx hsrc hn h100 hz hL hg ht he F α H σ Q R hS k)
theorem ex_setLc (i : Nat) {y : Str} {py spos : Pos} {K : Out → Prop} (nD : Nat) (ys : List τ) (enc : τ → D) (f : τ → D) (p : τ → Bool) (Sx : Nat → τ → List D → Nz.S) (hc : X.calm = true) (hN : X.N.Nodup) (hy : X.N[i]? = some y) (hyl : X.env.scope.names.lookup y = some .local)
    (hsw : swapsWith (.ListComp elt [⟨tg, iter, ifs, 0⟩] scope pos) (some (.Name y py)) spos.line X.env = pure true) (ok : BlkOk X.N X.env.scope scope own)
    (hsrc : Src X B tg iter S (ys.map enc) S1) (hn : nD ∉ names S1.L) (h100 : 100 ≤ nD) (hz : ys.length ≤ sizeLine) (hL : ∀ i y acc, (Sx i y acc).L = S1.L ++ [(nD, .fl acc)])
    (hg : ∀ i y acc, ys[i]? = some y → ∀ s H0 C cl fp, EgC (Blk X scope s H0 C cl fp) B tg (.fr (enc y)) ⟨wipeC S1.ρ (own.map (·.2)), S1.L ++ [(nD, .fl acc)]⟩ (Sx i y acc) (own.map (·.2)))
    (ht : ∀ i y acc, ys[i]? = some y → ∀ s H0 C cl fp, Ets (Blk X scope s H0 C cl fp) B ifs (Sx i y acc) (p y))
    (he : ∀ i y acc, ys[i]? = some y → p y = true → ∀ s H0 C cl fp, Ev (Blk X scope s H0 C cl fp) B elt (Sx i y acc) (.fr (f y)) (Sx i y acc))
    (k : K (.nx (setS S1 i (.fr (.lst ((ys.filter p).map f)))))) (hS : Sub S.L S1.L := by exact Sub.refl) (hs : ∀ x, foldedSetIterable iter X.env x = pure x := by intro _; rfl) :
    Ex X B (.Assign [.Name y py] (.ListComp elt [⟨tg, iter, ifs, 0⟩] scope pos) spos) S K :=
  fun F α H σ D R o => wS.of (ps_setLc hc hN hy hyl hsw pi_w ok (fun s H0 C cl fp => ⟨fun pins s1 σ1 H1 v u Q1 I r h => h s H0 C cl fp pins s1 u I r⟩) (fun s H0 C cl fp => ⟨fun pins s1 σ1 H1 Q1 I h => h s H0 C cl fp pins s1 I⟩) (fun s H0 C cl fp => ⟨fun pins s1 σ1 H1 Q1 I h => h s H0 C cl fp pins s1 I⟩) hs)
    (lc_reading nD f p Sx hsrc hn h100 hz hL hg ht he F α H σ _ R hS fun F' α' v H' R' st r => o.nx _ F' α' H' _ k (R'.setS r) st.fro)
end
end
def Cb (X : Cx) (f : Value) (ds : List D) (d : D) : Prop :=
  ∀ B F α H σ (S : Nz.S) (Q : VK) xs, RelX X B F α H σ S → Reps X.K X.mg F ds xs → (∀ F' α' v H', RelX X B F' α' H' σ S → Stp F α S.L F' α' → Rep X.K X.mg F' d v → Q v H') →
    ∀ pins s us, Inv X pins σ H s → Vals xs us → wpAny (model X.prog X.w) X.A (call f us) (EP X pins σ Q) X.xe s
theorem Cb.of {X : Cx} {f : Value} {ds : List D} {d : D} {r : List V → Hp → VK → Prop} (h : CallR X f r)
    (hr : ∀ B F α H σ (S : Nz.S) (Q : VK) xs, RelX X B F α H σ S → Reps X.K X.mg F ds xs → (∀ F' α' v H', RelX X B F' α' H' σ S → Stp F α S.L F' α' → Rep X.K X.mg F' d v → Q v H') → r xs H Q) : Cb X f ds d :=
  fun B F α H σ S Q xs R rx k pins s us I rv => h pins s σ H xs us Q I rv (hr B F α H σ S Q xs R rx k)
section
variable {X : Cx} {B : Bd} {S S1 : Nz.S} {a e : Expr} {es : List Expr} {pos p : Pos} {x : Str} {ds : List D} {d : D} {id T : String}
theorem ev_callB (hc : Cb X (.builtin id) ds d) (ha : Ea X B (e :: es) S (ds.map Ce.fr) S1) (hg : Gl X x) (hm : X.mg x = none) (hv : bootBuiltins x = some (.builtin id)) (h1 : Sub S.L S1.L := by exact Sub.refl) (hn : x ≠ "__name__" := by decide) (hdb : (x == ("__debug__" : Str)) = false := by decide)
    (he : starEach (e :: es) X.env = (false, eval e X.env) :: starEach es X.env := by rfl) (hpl : (backTo pos (starEach es X.env)).any (·.1) = false := by rfl) : Ev X B (.Call (.Name x p) (e :: es) [] pos) S (.fr d) S1 :=
  fun F α H σ Q R k pins s I => wpAny_Call_Name_kw (ld_blt I hg hm hv (PyProof.Rows.callWith_builtin1 (thn (ha F α H σ (fun vs H1 => ∃ F1 α1, RelX X B F1 α1 H1 σ S1 ∧ Stp F α S.L F1 α1 ∧ Reps X.K X.mg F1 ds vs) R
    (fun F1 α1 vs H1 R1 st1 r1 => ⟨F1, α1, R1, st1, r1.fr⟩) pos pins s I) fun us s1 ⟨vs, H1, I1, rv, F1, α1, R1, st1, r1⟩ =>
      hc B F1 α1 H1 σ S1 Q vs R1 r1 (fun F' α' v H' R' st' r' => k F' α' v H' R' (st1.trans st' h1) r') pins s1 us I1 rv) he hpl) hn hdb)
theorem ev_callTy (hc : Cb X (.type T) ds d) (ha : Ea X B (e :: es) S (ds.map Ce.fr) S1) (hg : Gl X x) (hm : X.mg x = none) (hv : bootBuiltins x = some (.type T)) (h1 : Sub S.L S1.L := by exact Sub.refl) (hn : x ≠ "__name__" := by decide) (hdb : (x == ("__debug__" : Str)) = false := by decide)
    (he : starEach (e :: es) X.env = (false, eval e X.env) :: starEach es X.env := by rfl) (hpl : (backTo pos (starEach es X.env)).any (·.1) = false := by rfl) : Ev X B (.Call (.Name x p) (e :: es) [] pos) S (.fr d) S1 :=
  fun F α H σ Q R k pins s I => wpAny_Call_Name_kw (ld_blt I hg hm hv (PyProof.Rows.callWith_type1 (thn (ha F α H σ (fun vs H1 => ∃ F1 α1, RelX X B F1 α1 H1 σ S1 ∧ Stp F α S.L F1 α1 ∧ Reps X.K X.mg F1 ds vs) R
    (fun F1 α1 vs H1 R1 st1 r1 => ⟨F1, α1, R1, st1, r1.fr⟩) pos pins s I) fun us s1 ⟨vs, H1, I1, rv, F1, α1, R1, st1, r1⟩ =>
      hc B F1 α1 H1 σ S1 Q vs R1 r1 (fun F' α' v H' R' st' r' => k F' α' v H' R' (st1.trans st' h1) r') pins s1 us I1 rv) he hpl) hn hdb)
theorem c_abs {i : Int} : Cb X (.builtin "abs") [.int i] (.int (if i < 0 then -i else i)) := .of call_abs fun B F α H σ S Q xs R rx k => by
  cases rx with | cons r rr => cases rr; cases r; exact ⟨i, rfl, k F α _ H R Stp.refl (.int _)⟩
theorem c_max2 {i j : Int} (hc : X.calm = true) : Cb X (.builtin "max") [.int i, .int j] (.int (if j > i then j else i)) := .of (call_max2 hc) fun B F α H σ S Q xs R rx k => by
  cases rx with | cons r rr => cases rr with | cons r2 rr => cases rr; cases r; cases r2; exact ⟨i, j, rfl, k F α _ H R Stp.refl (.int _)⟩
theorem c_str {i : Int} (h : i.natAbs.log2 < 1920) : Cb X (.type "str") [.int i] (.str (toString i)) := .of call_str_int fun B F α H σ S Q xs R rx k => by
  cases rx with | cons r rr => cases rr; cases r; exact ⟨i, rfl, h, k F α _ H R Stp.refl (.str _)⟩
theorem c_lenT {xs : List D} : Cb X (.builtin "len") [.tup xs] (.int xs.length) := .of call_len_seq fun B F α H σ S Q vs R rx k => by
  cases rx with
  | cons r rr =>
    cases rr
    obtain ⟨a, us, rfl, hq, rs⟩ := R.asT r
    exact ⟨a, us, rfl, .inr hq, by rw [← rs.length]; exact k F α _ H R Stp.refl (.int _)⟩
theorem c_lenS {z : Str} (h : z.length ≤ sizeLine) : Cb X (.builtin "len") [.str z] (.int z.length) := .of call_len_str fun B F α H σ S Q vs R rx k => by
  cases rx with | cons r rr => cases rr; cases r; exact ⟨z, rfl, h, k F α _ H R Stp.refl (.int _)⟩
/-- bools -/
theorem Reps.bls_eq {K : Frag} {mg : Mg} {F : Hp} : ∀ {ns : List Bool} {vs : List V}, Reps K mg F (ns.map D.bl) vs → vs = ns.map V.bl
  | [], _, .nil => rfl
  | _ :: ns, _, .cons h r => by
    cases h
    rw [Reps.bls_eq (ns := ns) r]; rfl
theorem c_all {bs : List Bool} (hc : X.calm = true) : Cb X (.builtin "all") [.lst (bs.map D.bl)] (.bl (bs.all fun b => b)) := .of (cr_all hc) fun B F α H σ S Q vs R rx k => by
  cases rx with
  | cons r rr =>
    cases rr
    obtain ⟨a, us, rfl, hq, rs⟩ := R.asL (c := .fr (.lst (bs.map D.bl))) rfl r
    exact ⟨a, bs, rfl, by rw [← Reps.bls_eq rs]; exact hq, k F α _ H R Stp.refl (.bl _)⟩
/-- len of what lives -/
theorem ev_lenL {ca : Ce} (ha : Ev X B e S ca S1) (hl : AsL S1.L ca ds) (hg : Gl X "len") (hm : X.mg "len" = none) (hs : starEach [e] X.env = (false, eval e X.env) :: starEach [] X.env := by rfl) (hpl : (backTo pos (starEach [] X.env)).any (·.1) = false := by rfl) : Ev X B (.Call (.Name "len" p) [e] [] pos) S (.fr (.int ds.length)) S1 :=
  fun F α H σ Q R k => wE.of (pe_callB call_len_seq hg hm PySem.boot_len (pa_cons pe_w pa_nil hs) (by decide) (by decide) hs hpl) (ha F α H σ _ R fun F1 α1 v1 H1 R1 st1 r1 => by
    obtain ⟨a, us, rfl, hq, rs⟩ := R1.asL hl r1
    exact ⟨a, us, rfl, .inl hq, by rw [← rs.length]; exact k F1 α1 _ H1 R1 st1 (.int _)⟩)
def tyOf : D → Option String
  | .non => some "NoneType" | .bl _ => some "bool" | .int _ => some "int" | .str _ => some "str" | .tup _ => some "tuple" | .lst _ => some "list" | .obj _ _ => none
end
end Nz
namespace Nz
open PySem PySem.Spec PyProof.Rows L2
section
variable {X : Cx} {B : Bd} {S S1 : Nz.S} {a e : Expr} {es : List Expr} {pos p q : Pos} {x : Str} {ds : List D} {d : D}
theorem tyX_lst {K : Frag} {H : Hp} {a : Addr} {vs : List V} (h : SqL K H a vs) : TyX K H (.ref a) (.type "list") := by
  rcases h with (h | ⟨o, h⟩) | ⟨o, its, n, h1, h2, _⟩
  · exact .base (.lst h)
  · exact .base (.frz h)
  · exact .kList h1 h2
theorem tyX_tup {K : Frag} {H : Hp} {a : Addr} {vs : List V} (h : SqT K H a vs) : TyX K H (.ref a) (.type "tuple") := by
  rcases h with (h | ⟨o, h⟩) | ⟨o, its, n, h1, h2, _⟩
  · exact .base (.tup h)
  · exact .fTuple h
  · exact .kTuple h1 h2
theorem Rel.tyX {F : Hp} {α : Nat → Addr} {H : Hp} {σ : L2.St} (R : RelX X B F α H σ S) {v : V} {t : String} (r : Rep X.K X.mg F d v) (h : tyOf d = some t) : TyX X.K H v (.type t) := by
  cases r with
  | non => cases h; exact .base .non
  | bl b => cases h; exact .base (.bl b)
  | int i => cases h; exact .base (.int i)
  | str z => cases h; exact .base (.str z)
  | tup h1 h2 => cases h; exact tyX_tup (R.sub.seqT h1)
  | lst h1 h2 => cases h; exact tyX_lst (R.sub.seq h1)
  | obj m h1 h2 h3 => cases h
/-- isinstance(a, T), T a built-in class -/
theorem ev_isi {T t : String} {b : Bool} {xT : Str} {p2 : Pos} (ha : Ev X B a S (.fr d) S1) (ht : tyOf d = some t) (hk : kitB t T = some b) (hg : Gl X "isinstance") (hm : X.mg "isinstance" = none) (hgT : Gl X xT) (hmT : X.mg xT = none) (hv : bootBuiltins xT = some (.type T))
    (hv2 : bootBuiltins "isinstance" = some (.builtin "isinstance") := by decide +kernel)
    (hn : xT ≠ "__name__" := by decide) (hd : (xT == ("__debug__" : Str)) = false := by decide)
    (he : starEach (a :: [.Name xT p2]) X.env = (false, eval a X.env) :: starEach [.Name xT p2] X.env := by rfl) (he2 : starEach (.Name xT p2 :: []) X.env = (false, eval (.Name xT p2) X.env) :: starEach [] X.env := by rfl) (hpl : (backTo pos (starEach [.Name xT p2] X.env)).any (·.1) = false := by rfl) :
    Ev X B (.Call (.Name "isinstance" p) [a, .Name xT p2] [] pos) S (.fr (.bl b)) S1 :=
  fun F α H σ Q R k => wE.of (pe_callB call_isi hg hm hv2 (pa_cons pe_w (pa_cons (pe_bltn (v := .ty T) hgT hmT hv rfl hn hd) pa_nil he2) he) (by decide) (by decide) he hpl) (ha F α H σ _ R fun F1 α1 v1 H1 R1 st1 r1 => by
    exact ⟨v1, .ty T, .type t, .type T, b, rfl, .ty T, R1.tyX r1 ht, kit_ty hk, k F1 α1 _ H1 R1 st1 (.bl _)⟩)
theorem ev_append {n : Nat} {o : Expr} {apos : Pos} (ho : Ev X B o S (.ad n) S) {ds0 : List D} (ha : Ev X B e S (.fr d) S1) (hn : getL n S1.L = some (.fl ds)) (hn0 : getL n S.L = some (.fl ds0)) (hz : ds.length < sizeLine) (h1 : Sub S.L S1.L := by exact Sub.refl)
    (hbase : attributeBase o "append" X.env (eval o X.env) = eval o X.env := by rfl)
    (hfew : ((backTo pos (starEach (e :: []) X.env)).all (fun x => !x.1) && (backToKw pos (keywordEach [] X.env)).all (fun x => x.1.isSome)
      && decide ((e :: ([] : List Expr)).length + ([] : List Keyword).length + (if ([] : List Keyword).isEmpty then 0 else 1) < 30)) = true := by rfl)
    (hline : (apos.endLine == pos.line) = true := by rfl) (hs : starEach (e :: []) X.env = (false, eval e X.env) :: starEach [] X.env := by rfl) (hplain : (backTo pos (starEach [] X.env)).any (·.1) = false := by rfl) :
    Ev X B (.Call (.Attribute o "append" apos) [e] [] pos) S (.fr .non) ⟨S1.ρ, setL n (.fl (ds ++ [d])) S1.L⟩ :=
  fun F α H σ Q R k => wE.of (pe_bm PySem.F.plainAttrs_list PySem.F.slot_list_append PySem.F.type_list_append mt_append pe_w (pa_cons pe_w pa_nil hs) hbase hfew hline hs hplain) (ho F α H σ _ R fun F1 α1 v1 H1 R1 st1 r1 => by
    obtain ⟨hm, rfl⟩ := r1
    refine ⟨?_, ha F1 α1 H1 σ _ R1 fun F2 α2 v2 H2 R2 st2 r2 => ?_⟩
    · -- it is a list already
      obtain ⟨_, _, vs, e1, rs⟩ := R1.live n _ (getL_mem hn0)
      exact .inl ⟨rfl, _, SqL.of e1⟩
    · have hmm := getL_mem hn
      obtain ⟨f0, f1, vs, e1, rs⟩ := R2.live n _ hmm
      have en : α2 n = α1 n := st2.nm n hm
      refine ⟨α1 n, vs, v2, rfl, rfl, by rw [← en]; exact e1, by rw [← rs.length]; exact hz, ?_⟩
      have Rp := R2.put (n := n) (u := .fl (ds ++ [d])) (o' := .lst (vs ++ [v2])) hmm ⟨vs ++ [v2], upd_same, rs.append (.cons r2 .nil)⟩
      rw [en] at Rp
      exact k F2 α2 .non _ Rp ((st1.trans st2 Sub.refl).trans Stp.refl h1) .non)
/-- what a def promises: of the arguments' cells, the live objects handed in, and what is wanted of the value and of what lives behind -/
abbrev SpN := List Ce → List (Nat × LO) → (Ce → List (Nat × LO) → Prop) → Prop
def bdOf (F H : Hp) (fp : Addr → Prop) (α : Nat → Addr) (L : List (Nat × LO)) : Bd := ⟨F, H, fp, fun n => if n < 100 then some (α n) else none, fun n h => by rw [if_neg (by omega)]⟩
def SpOf (K : Frag) (mg : Mg) (sp : SpN) : Sp := fun vs H Q _ => ∃ F α L cs fp, Rel K mg (bdOf F H fp α L) F α H (vs.map some) ⟨cs.map some, L⟩ ∧
  sp cs L fun c L' => ∀ F' α' v H' ρ' σ', Rel K mg (bdOf F H fp α L) F' α' H' σ' ⟨ρ', L'⟩ → CRel K mg F' α' L' c v → Q v H'
def retK (Kc : Ce → List (Nat × LO) → Prop) : Out → Prop
  | .ret c S => Kc c S.L
  | .nx S => Kc (.fr .non) S.L
  | _ => False
def startC (N : List Str) (cs : List Ce) : List (Option Ce) := cs.map some ++ List.replicate (N.length - cs.length) none
theorem slr_rep {K : Frag} {mg : Mg} {F : Hp} {α : Nat → Addr} {L : List (Nat × LO)} : ∀ n, SlR K mg F α L (List.replicate n none) (List.replicate n none)
  | 0 => .nil
  | n + 1 => .no (slr_rep n)
theorem SlR.append {K : Frag} {mg : Mg} {F : Hp} {α : Nat → Addr} {L : List (Nat × LO)} : ∀ {c c' : List (Option Ce)} {σ σ' : L2.St}, SlR K mg F α L c σ → SlR K mg F α L c' σ' → SlR K mg F α L (c ++ c') (σ ++ σ')
  | _, _, _, _, .nil, h => h
  | _, _, _, _, .no r, h => .no (r.append h)
  | _, _, _, _, .so q r, h => .so q (r.append h)
theorem SlR.length {K : Frag} {mg : Mg} {F : Hp} {α : Nat → Addr} {L : List (Nat × LO)} : ∀ {c : List (Option Ce)} {σ : L2.St}, SlR K mg F α L c σ → c.length = σ.length
  | _, _, .nil => rfl
  | _, _, .no r => congrArg (· + 1) r.length
  | _, _, .so _ r => congrArg (· + 1) r.length
theorem _root_.L2.Fun.okN {P : Program} {w : World} {K : Frag} {mg : Mg} {base : Heap} {x qual : Str} {st : Stmt} {f : Addr} {fd : FuncData} {N ps : List Str} {k : Nat} {sp : SpN} (F : Fun K x qual st f fd) (S : FnScope N ps (defScope st)) (len : ∀ cs L Kc, sp cs L Kc → cs.length = ps.length)
    (hbody : ∀ (cdv : Value) (A : Around) (outer : List Env) (s : Shared) (H : Hp) (E : XK) (B : Bd) (cs : List Ce) (L : List (Nat × LO)) (Kc : Ce → List (Nat × LO) → Prop), Room k (A.deeper (envOfC qual (defScope st) s.heap.objs.size f cdv)) → sp cs L Kc →
      Exs (cxOf CX0 P w K mg base N qual (defScope st) f cdv A outer s H E).nox B (defBody st) ⟨startC N cs, L⟩ (retK Kc)) : FnOk P w K mg base CX0 (k + 1) f fd ps (SpOf K mg sp) := by
  refine F.ok S (fun vs H Q E h => ?_) (fun cdv A outer s H vs Q E hr h => ?_)
  · obtain ⟨F', α, L, cs, fp, R, h⟩ := h
    have e1 := R.slots.length
    have e2 := len _ _ _ h
    simp only [List.length_map] at e1
    omega
  · obtain ⟨F', α, L, cs, fp, R, h⟩ := h
    have e1 : cs.length = vs.length := by have := R.slots.length; simpa using this
    refine ⟨_, pss_w, hbody cdv A outer s H E (bdOf F' H fp α L) cs L _ hr h F' α H _ _ (?_ : Rel _ _ _ _ _ _ _ _) ?_⟩
    · refine ⟨R.sub, R.bF, R.nF, R.frame, R.nd, R.inj, R.live, ?_, R.fix⟩
      show SlR _ _ _ _ _ (cs.map some ++ List.replicate (N.length - cs.length) none) (vs.map some ++ List.replicate (N.length - vs.length) none)
      rw [e1]
      exact R.slots.append (slr_rep _)
    · refine ⟨fun S' F1 α1 H1 σ1 k1 R1 s1 => k1 F1 α1 .non H1 S'.ρ σ1 R1 .non, fun S' F1 α1 H1 σ1 k1 R1 s1 => k1.elim, fun S' F1 α1 H1 σ1 k1 R1 s1 => k1.elim, fun c S' F1 α1 H1 σ1 v k1 R1 s1 r1 => k1 F1 α1 v H1 S'.ρ σ1 R1 r1⟩
theorem paired_slots {K : Frag} {mg : Mg} {F : Hp} {α : Nat → Addr} : ∀ {ds : List D} {vs : List V}, Reps K mg F ds vs → SlR K mg F α [] ((ds.map Ce.fr).map some) (vs.map some)
  | _, _, .nil => .nil
  | _, _, .cons h r => .so h (paired_slots r)
theorem Rel.call0 {K : Frag} {mg : Mg} {B : Bd} {F : Hp} {α : Nat → Addr} {H : Hp} {σ : L2.St} {S : Nz.S} {vs : List V} (R : Rel K mg B F α H σ S) (r : Reps K mg F ds vs) : Rel K mg (bdOf F H (fun _ => False) α []) F α H (vs.map some) ⟨(ds.map Ce.fr).map some, []⟩ :=
  ⟨R.sub, Same.refl _, fun b o e => .inl e, fun b o e _ => e, List.nodup_nil, fun n m h => absurd h (by simp [names]), fun n o h => absurd h (by simp), paired_slots r, fun n a h hn => absurd hn (by simp [names])⟩
/-- behind a call that was handed nothing that lives -/
theorem Rel.back0 {K : Frag} {mg : Mg} {B : Bd} {F F' : Hp} {α α' : Nat → Addr} {H H' : Hp} {σ σ' : L2.St} {S S' : Nz.S} (R : Rel K mg B F α H σ S) (R' : Rel K mg (bdOf F H (fun _ => False) α []) F' α' H' σ' S') : Rel K mg B F' α H' σ S :=
  R.grow R'.bF (fun b o e => R'.frame b o e fun z => z) R'.sub fun b u e => by
    rcases R'.nF b u e with z | z | z
    · exact .inl z
    · exact .inr z
    · exact z.elim
variable {CX : CXT} {f C : Addr} {fd : FuncData} {ps : List Str} {k : Nat} {sp : SpN} {dvs : List D}
/-- a value as the text has it, for a default -/
theorem ev_call {ds' : List D} {dvs : List V} {dfs : List Value} (F : FnOk X.prog X.w X.K X.mg X.base CX0 k f fd ps (SpOf X.K X.mg sp)) (hr : Room k X.A) (hm : X.mg x = some (.ref f)) (hk : PySem.W.keepIn X.K (.ref f) = true) (hb : Binds X.K fd ps dfs) (hd : Vals dvs dfs)
    (hdv : ∀ F', Reps X.K X.mg F' ds' dvs) (ha : Ea X B (e :: es) S (ds.map Ce.fr) S1) (hs : ∀ Kc : Ce → List (Nat × LO) → Prop, (∀ L', Kc (.fr d) L') → sp ((ds ++ ds').map Ce.fr) [] Kc) (hg : Gl X x) (h1 : Sub S.L S1.L := by exact Sub.refl) (hdb : (x == ("__debug__" : Str)) = false := by decide)
    (he : starEach (e :: es) X.env = (false, eval e X.env) :: starEach es X.env := by rfl) (hpl : (backTo pos (starEach es X.env)).any (·.1) = false := by rfl) : Ev X B (.Call (.Name x p) (e :: es) [] pos) S (.fr d) S1 :=
  fun F0 α H σ Q R k => wE.of (pe_call F hr hg hm hk hb hd pass0 pa_w hdb he hpl) (ha F0 α H σ _ R fun F1 α1 vs H1 R1 st1 r1 => by
    have r := Reps.append r1.fr (hdv F1)
    exact ⟨F1, α1, [], _, fun _ => False, R1.call0 r, hs _ fun L' F' α' v H' ρ' σ' R' r' => k F' α1 v H' (R1.back0 R') (st1.trans ⟨R'.bF, fun _ _ => rfl⟩ h1) r'⟩)
/-- c' forgets some of c -/
def Fg : List (Option Ce) → List (Option Ce) → Prop
  | [], [] => True
  | a :: as, b :: bs => (b = none ∨ b = a) ∧ Fg as bs
  | _, _ => False
theorem SlR.fg {K : Frag} {mg : Mg} {F : Hp} {α : Nat → Addr} {L : List (Nat × LO)} : ∀ {c c' : List (Option Ce)} {σ : L2.St}, Fg c c' → SlR K mg F α L c σ → SlR K mg F α L c' σ
  | _, [], _, h, .nil => .nil
  | _, b :: bs, _, h, .no r => by
    obtain ⟨h1 | h1, h2⟩ := h
    · subst h1; exact .no (SlR.fg h2 r)
    · subst h1; exact .no (SlR.fg h2 r)
  | _, b :: bs, _, h, .so q r => by
    obtain ⟨h1 | h1, h2⟩ := h
    · subst h1; exact .no (SlR.fg h2 r)
    · subst h1; exact .so q (SlR.fg h2 r)
  | _, [], _, h, .no r => False.elim h
  | _, [], _, h, .so q r => False.elim h
  | _, _ :: _, _, h, .nil => False.elim h
theorem exs_freeze {sts : List Stmt} {K : Out → Prop} (n : Nat) (hn : getL n S.L = some (.fl ds)) (h : Exs X B sts (frS n (.lst ds) S) K) : Exs X B sts S K := fun F α H σ D R o => by
  obtain ⟨F', R', st, _⟩ := R.freeze hn
  exact h F' α H σ D R' (o.mono st.fro)
end
end Nz
namespace Nz
open PySem PySem.Spec PyProof.Rows L2
section
variable {X : Cx} {B : Bd} {S S1 S2 S3 : Nz.S} {a b c e : Expr} {es : List Expr} {pos p q p2 : Pos} {x : Str} {ds : List D} {d d1 d2 : D}
def Eo (X : Cx) (B : Bd) (e : Option Expr) (S : Nz.S) (o : Option Int) : Prop :=
  ∀ F α H σ (Q : Option Int → Hp → Prop), RelX X B F α H σ S → (∀ F' α' H', RelX X B F' α' H' σ S → Stp F α S.L F' α' → Q o H') →
    ∀ pins s, Inv X pins σ H s → wpAny (model X.prog X.w) X.A (evalPart e X.env) (fun u s' => ∃ o H', Inv X pins σ H' s' ∧ IsPart u o ∧ Q o H') X.xe s
theorem eo_none : Eo X B none S none := fun F α H σ Q R k pins s I => po_none.run pins s σ H Q I (k F α H R Stp.refl)
theorem eo_some {i : Int} (h : Ev X B e S (.fr (.int i)) S) : Eo X B (some e) S (some i) := fun F α H σ Q R k pins s I => (po_some pe_w).run pins s σ H Q I (h F α H σ _ R fun F' α' v H' R' st r => by cases r; exact ⟨i, rfl, k F' α' H' R' st⟩)
def tO (X : Cx) (e : Option Expr) : TO := fun σ H Q => ∀ pins s, Inv X pins σ H s → wpAny (model X.prog X.w) X.A (evalPart e X.env) (fun u s' => ∃ o H', Inv X pins σ H' s' ∧ IsPart u o ∧ Q o H') X.xe s
theorem po_w {e : Option Expr} : PO X e (tO X e) := ⟨fun pins s σ H Q I h => h pins s I⟩
def slcD {τ : Type} (xs : List τ) (lo hi : Option Int) : List τ := (xs.drop (HT.sIx xs.length 0 lo)).take (HT.sIx xs.length xs.length hi - HT.sIx xs.length 0 lo)
theorem slcD_map {τ μ : Type} (f : τ → μ) (xs : List τ) (lo hi : Option Int) : slcD (xs.map f) lo hi = (slcD xs lo hi).map f := by
  unfold slcD
  rw [List.length_map, List.map_take, List.map_drop]
theorem ev_sliceL {ca : Ce} {lo hi : Option Expr} {ol oh : Option Int} (ha : Ev X B a S ca S1) (h1 : Eo X B lo S1 ol) (h2 : Eo X B hi S1 oh) (hl : AsL S1.L ca ds) (hS : Sub S.L S1.L := by exact Sub.refl) : Ev X B (.Subscript a (.Slice lo hi none p2) pos) S (.fr (.lst (slcD ds ol oh))) S1 :=
  fun F α H σ Q R k => wE.of (pe_slice sl_list pe_w po_w po_w) (ha F α H σ _ R fun F1 α1 v1 H1 R1 st1 r1 => h1 F1 α1 H1 σ _ R1 fun F2 α2 H2 R2 st2 => h2 F2 α2 H2 σ _ R2 fun F3 α3 H3 R3 st3 => by
    obtain ⟨pa, vs, rfl, hq, rs⟩ := R3.asL hl (r1.step (st2.trans st3 Sub.refl) Sub.refl)
    refine ⟨pa, vs, rfl, hq, fun l hl' => k _ α3 _ _ (R3.allocF hl') ⟨((st1.trans st2 hS).trans st3 hS).fro.trans (same_upd (R3.fresh hl')), ((st1.trans st2 hS).trans st3 hS).nm⟩ (.lst (SqL.of upd_same) (Reps.mono (same_upd (R3.fresh hl')) ?_))⟩
    unfold slcD cutV
    rw [rs.length]
    exact (rs.drop _).take _)
theorem ev_sliceS {z : Str} {lo hi : Option Expr} {ol oh : Option Int} (ha : Ev X B a S (.fr (.str z)) S1) (h1 : Eo X B lo S1 ol) (h2 : Eo X B hi S1 oh) (hz : z.length ≤ sizeLine) (hS : Sub S.L S1.L := by exact Sub.refl) : Ev X B (.Subscript a (.Slice lo hi none p2) pos) S (.fr (.str (cutS z ol oh))) S1 :=
  fun F α H σ Q R k => wE.of (pe_slice sl_str pe_w po_w po_w) (ha F α H σ _ R fun F1 α1 v1 H1 R1 st1 r1 => h1 F1 α1 H1 σ _ R1 fun F2 α2 H2 R2 st2 => h2 F2 α2 H2 σ _ R2 fun F3 α3 H3 R3 st3 => by
    cases r1
    exact ⟨z, rfl, hz, k F3 α3 _ H3 R3 ((st1.trans st2 hS).trans st3 hS) (.str _)⟩)
end
theorem at_map {τ : Type} [Inhabited τ] {enc : τ → D} {xs : List τ} {i : Int} (h0 : 0 ≤ i) (h1 : i < xs.length) : atI (xs.map enc) i = some (enc (xs.getD i.toNat default)) := by
  unfold atI ixN
  rw [if_pos h0, if_pos (by rw [List.length_map]; exact h1)]
  show (xs.map enc)[i.toNat]? = _
  rw [List.getElem?_map]
  have h2 : i.toNat < xs.length := by omega
  rw [List.getElem?_eq_getElem h2, List.getD_eq_getElem?_getD, List.getElem?_eq_getElem h2]
  rfl
end Nz
namespace Nz
open PySem PySem.Spec PyProof.Rows L2
end Nz
namespace Nz
open PySem PySem.Spec PyProof.Rows L2
def Le (S S' : Nz.S) : Prop := Fg S.ρ S'.ρ ∧ S'.L = S.L
theorem fg_refl : ∀ ρ : List (Option Ce), Fg ρ ρ
  | [] => trivial
  | _ :: r => ⟨.inr rfl, fg_refl r⟩
theorem Le.refl {S : Nz.S} : Le S S := ⟨fg_refl _, rfl⟩
theorem Le.of {S S' : Nz.S} (h : S = S') : Le S S' := h ▸ Le.refl
theorem Rel.le {K : Frag} {mg : Mg} {B : Bd} {F : Hp} {α : Nat → Addr} {H : Hp} {σ : L2.St} {S S' : Nz.S} (R : Rel K mg B F α H σ S) (h : Le S S') : Rel K mg B F α H σ S' := by
  obtain ⟨ρ', L'⟩ := S'
  obtain ⟨h1, h2⟩ := h
  have h2 : L' = S.L := h2
  subst h2
  exact ⟨R.sub, R.bF, R.nF, R.frame, R.nd, R.inj, R.live, R.slots.fg h1, R.fix⟩
def loopS (st : Nat → Nz.S) (P : Nat → Prop) (K : Out → Prop) (i : Nat) : Out → Prop
  | .nx S => Le S (st (i + 1)) ∧ P (i + 1)
  | .ct S => Le S (st (i + 1)) ∧ P (i + 1)
  | .bk S => K (.nx S)
  | .ret c S => K (.ret c S)
section
variable {X : Cx} {B : Bd} {S S1 S2 S3 : Nz.S} {tg a b c e : Expr} {es : List Expr} {pos p q p2 : Pos} {K : Out → Prop} {body : List Stmt}
theorem ex_forT {τ : Type} {ys : List τ} {enc : τ → D} (hp : PassesOwn (model X.prog X.w) X.A X.env X.xe) (hc : X.calm = true) (st : Nat → Nz.S) (P : Nat → Prop) (hsrc : Src X B tg e S (ys.map enc) S1) (h0 : Le S1 (st 0)) (p0 : P 0)
    (hs : ∀ i y, ys[i]? = some y → P i → ∃ S2, Eg X B tg (.fr (enc y)) (st i) S2 ∧ Exs X B body S2 (loopS st P K i)) (hd : P ys.length → K (.nx (st ys.length))) (hf : ∀ x, foldedSetIterable e X.env x = pure x := by intro _; rfl) : Ex X B (.For tg e body [] pos) S K :=
  fun F α H σ D R o => wS.of (ps_for hp hc pi_w pg_w pss_w hf) (hsrc F α H σ _ R fun F1 α1 H1 J R1 st1 j => by
    have o1 := o.mono st1.fro
    refine ⟨fun i m σ' H' => m = ys.length - i ∧ i ≤ ys.length ∧ ∃ F' α', RelX X B F' α' H' σ' (st i) ∧ Same F1 F' ∧ P i, ⟨ys.length, by simp, Nat.zero_le _, F1, α1, R1.le h0, Same.refl _, p0⟩, ?_⟩
    rintro i m σ' H' ⟨rfl, hi, F', α', R', sm, q⟩
    by_cases hlt : i < ys.length
    · have e1 : ys[i]? = some ys[i] := by simp [hlt]
      obtain ⟨g, y⟩ := j.go B F' α' H' σ' (st i) i (enc ys[i]) R' sm (by rw [List.getElem?_map, e1]; rfl)
      obtain ⟨S2, hg, hb⟩ := hs i _ e1 q
      refine .inr ⟨g, fun σ2 H2 => ∃ F2 α2, RelX X B F2 α2 H2 σ2 (st (i + 1)) ∧ Same F1 F2 ∧ P (i + 1), fun σ2 H2 ⟨F2, α2, R2, s2, q2⟩ => ⟨ys.length - (i + 1), by omega, rfl, hlt, F2, α2, R2, s2, q2⟩, fun x H2 yy => ?_⟩
      obtain ⟨F2, R2, s2, r2⟩ := y x H2 yy
      refine hg F2 α' H2 σ' x _ R2 r2 fun σ3 F3 H3 R3 s3 => hb F3 α' H3 σ3 _ R3 ?_
      have sall : Same F1 F3 := sm.trans (s2.trans s3)
      refine ⟨fun S4 F4 α4 H4 σ4 k4 R4 s4 => ⟨F4, α4, R4.le k4.1, sall.trans s4, k4.2⟩, fun S4 F4 α4 H4 σ4 k4 R4 s4 => o1.nx S4 F4 α4 H4 σ4 k4 R4 (sall.trans s4), fun S4 F4 α4 H4 σ4 k4 R4 s4 => ⟨F4, α4, R4.le k4.1, sall.trans s4, k4.2⟩,
        fun c S4 F4 α4 H4 σ4 v k4 R4 s4 r4 => o1.ret c S4 F4 α4 H4 σ4 v k4 R4 (sall.trans s4) r4⟩
    · have e1 : i = ys.length := by omega
      subst e1
      exact .inl ⟨j.stop B F' α' H' σ' _ _ R' sm (by rw [List.length_map]; exact Nat.le_refl _), o1.nx _ F' α' H' σ' (hd q) R' sm⟩)
inductive Ix (L : List (Nat × LO)) : Ce → Int → D → Prop
  | l {c : Ce} {ds : List D} {i : Int} {d : D} (h : AsL L c ds) (h2 : atI ds i = some d) : Ix L c i d
  | t {ds : List D} {i : Int} {d : D} (h2 : atI ds i = some d) : Ix L (.fr (.tup ds)) i d
theorem ev_ix {ca : Ce} {i : Int} {d : D} (hx : Ix S2.L ca i d) (ha : Ev X B a S ca S1) (hb : Ev X B b S1 (.fr (.int i)) S2) (hs : PlainIx b := by exact fun _ _ => rfl) (h1 : Sub S.L S1.L := by exact Sub.refl) (h2 : Sub S1.L S2.L := by exact Sub.refl) :
    Ev X B (.Subscript a b pos) S (.fr d) S2 := by
  cases hx with
  | l h h2' => exact ev_ixL ha hb h h2' hs h1 h2
  | t h2' => exact ev_ixT ha hb h2' hs h1 h2
inductive Ln (L : List (Nat × LO)) : Ce → Nat → Prop
  | l {c : Ce} {ds : List D} (h : AsL L c ds) : Ln L c ds.length
  | t {ds : List D} : Ln L (.fr (.tup ds)) ds.length
  | s {z : Str} (h : z.length ≤ sizeLine) : Ln L (.fr (.str z)) z.length
theorem ev_len {ca : Ce} {n : Nat} (hx : Ln S1.L ca n) (ha : Ev X B e S ca S1) (hg : Gl X "len") (hm : X.mg "len" = none) (h1 : Sub S.L S1.L := by exact Sub.refl) (hs : starEach [e] X.env = (false, eval e X.env) :: starEach [] X.env := by rfl) (hpl : (backTo pos (starEach [] X.env)).any (·.1) = false := by rfl) :
    Ev X B (.Call (.Name "len" p) [e] [] pos) S (.fr (.int n)) S1 := by
  cases hx with
  | l h => exact ev_lenL ha h hg hm hs hpl
  | t => exact ev_callB c_lenT (ea_cons ha ea_nil h1 Sub.refl hs) hg hm PySem.boot_len h1 (by decide) (by decide) hs hpl
  | s h => exact ev_callB (c_lenS h) (ea_cons ha ea_nil h1 Sub.refl hs) hg hm PySem.boot_len h1 (by decide) (by decide) hs hpl
end
theorem seq_range {n i y : Nat} (h : (List.range n)[i]? = some y) : i < n ∧ y = i := by
  by_cases hi : i < n
  · rw [List.getElem?_range hi] at h; exact ⟨hi, (Option.some.inj h).symm⟩
  · rw [List.getElem?_eq_none (by simpa using hi)] at h; cases h
theorem take_snoc {τ : Type} {ys : List τ} {i : Nat} {y : τ} (h : ys[i]? = some y) : ys.take (i + 1) = ys.take i ++ [y] := by rw [List.take_succ, h]; rfl
theorem foldl_snoc {τ β : Type} {ys : List τ} {i : Nat} {y : τ} (f : β → τ → β) (b : β) (h : ys[i]? = some y) : (ys.take (i + 1)).foldl f b = f ((ys.take i).foldl f b) y := by rw [take_snoc h, List.foldl_append]; rfl
end Nz
namespace Nz
open PySem PySem.Spec PyProof.Rows L2
abbrev eL {τ : Type} (e : τ → D) (xs : List τ) : D := .lst (xs.map e)
abbrev eU {τ : Type} (e : τ → D) (xs : List τ) : D := .tup (xs.map e)
abbrev eT2 {τ μ : Type} (e : τ → D) (f : μ → D) (p : τ × μ) : D := .tup [e p.1, f p.2]
abbrev eO {τ : Type} (e : τ → D) : Option τ → D
  | none => .non
  | some x => e x
section
variable {X : Cx} {B : Bd} {S S1 S2 S3 : Nz.S} {tg a b c e : Expr} {es : List Expr} {pos p q p2 : Pos} {K : Out → Prop} {τ : Type} {enc : τ → D}
theorem ix_L [Inhabited τ] {L : List (Nat × LO)} {xs : List τ} {c : Ce} {i : Int} (h : AsL L c (xs.map enc)) (h0 : 0 ≤ i) (h1 : i < xs.length) : Ix L c i (enc (xs.getD i.toNat default)) := .l h (at_map h0 h1)
theorem ix_U [Inhabited τ] {L : List (Nat × LO)} {xs : List τ} {i : Int} (h0 : 0 ≤ i) (h1 : i < xs.length) : Ix L (.fr (eU enc xs)) i (enc (xs.getD i.toNat default)) := .t (at_map h0 h1)
theorem ln_L {L : List (Nat × LO)} {xs : List τ} {c : Ce} (h : AsL L c (xs.map enc)) : Ln L c xs.length := by
  have := Ln.l h
  rwa [List.length_map] at this
theorem ev_sliceT {ca : Ce} {xs : List τ} {lo hi : Option Expr} {ol oh : Option Int} (hl : AsL S1.L ca (xs.map enc)) (ha : Ev X B a S ca S1) (h1 : Eo X B lo S1 ol) (h2 : Eo X B hi S1 oh) (hS : Sub S.L S1.L := by exact Sub.refl) : Ev X B (.Subscript a (.Slice lo hi none p2) pos) S (.fr (eL enc (slcD xs ol oh))) S1 := by
  have := ev_sliceL (pos := pos) (p2 := p2) ha h1 h2 hl hS
  rwa [slcD_map] at this
/-- [..] that lives, by its data -/
theorem ev_lstN (n : Nat) (xs : List τ) {ds : List D} (h : Ea X B es S (ds.map Ce.fr) S1) (hd : ds = xs.map enc) (hz : xs.length ≤ sizeLine) (hn : n ∉ names S1.L) (h100 : 100 ≤ n) (h1 : Sub S.L S1.L := by exact Sub.refl) : Ev X B (.List es pos) S (.ad n) ⟨S1.ρ, S1.L ++ [(n, .fl (xs.map enc))]⟩ := by
  subst hd
  exact ev_lstL n h (by rw [List.length_map]; exact hz) hn h100 h1
theorem ev_appendT {n : Nat} {o : Expr} {apos : Pos} {xs xs0 : List τ} (x : τ) {d : D} (hd : d = enc x) (hn : getL n S1.L = some (.fl (xs.map enc))) (hn0 : getL n S.L = some (.fl (xs0.map enc))) (hz : xs.length < sizeLine) (ho : Ev X B o S (.ad n) S) (ha : Ev X B e S (.fr d) S1) (h1 : Sub S.L S1.L := by exact Sub.refl)
    (hbase : attributeBase o "append" X.env (eval o X.env) = eval o X.env := by rfl)
    (hfew : ((backTo pos (starEach (e :: []) X.env)).all (fun x => !x.1) && (backToKw pos (keywordEach [] X.env)).all (fun x => x.1.isSome)
      && decide ((e :: ([] : List Expr)).length + ([] : List Keyword).length + (if ([] : List Keyword).isEmpty then 0 else 1) < 30)) = true := by rfl)
    (hline : (apos.endLine == pos.line) = true := by rfl) (hs : starEach (e :: []) X.env = (false, eval e X.env) :: starEach [] X.env := by rfl) (hplain : (backTo pos (starEach [] X.env)).any (·.1) = false := by rfl) :
    Ev X B (.Call (.Attribute o "append" apos) [e] [] pos) S (.fr .non) ⟨S1.ρ, setL n (.fl ((xs ++ [x]).map enc)) S1.L⟩ := by
  subst hd
  have := ev_append (pos := pos) (apos := apos) ho ha hn hn0 (by rw [List.length_map]; exact hz) h1 hbase hfew hline hs hplain
  rwa [show xs.map enc ++ [enc x] = (xs ++ [x]).map enc by simp] at this
theorem src_listT {xs : List τ} (h : Ev X B e S (.fr (eL enc xs)) S1) : Src X B tg e S (xs.map enc) S1 := src_list h
theorem exs_freezeT {sts : List Stmt} (n : Nat) {xs : List τ} (hn : getL n S.L = some (.fl (xs.map enc))) (h : Exs X B sts (frS n (eL enc xs) S) K) : Exs X B sts S K := exs_freeze n hn h
/-- an if that only stores: its two ends are one state -/
theorem ex_join {st : Stmt} (Sj : Nz.S) (h : Ex X B st S fun o => ∃ S', o = .nx S' ∧ Le S' Sj) (k : K (.nx Sj)) : Ex X B st S K := fun F α H σ D R o => h F α H σ D R
  ⟨fun S' F' α' H' σ' k' R' s' => (by
      obtain ⟨S2, e1, e2⟩ := k'
      cases e1
      exact o.nx Sj F' α' H' σ' k (R'.le e2) s'),
    fun S' F' α' H' σ' k' R' s' => (by obtain ⟨_, e1, _⟩ := k'; cases e1), fun S' F' α' H' σ' k' R' s' => (by obtain ⟨_, e1, _⟩ := k'; cases e1), fun c S' F' α' H' σ' v k' R' s' r => (by obtain ⟨_, e1, _⟩ := k'; cases e1)⟩
end
theorem PassesOwn.nox {P : Program} {w : World} {A : Around} {env : Env} : PassesOwn (model P w) A env (fun _ _ => False) := PassesOwn.never
end Nz
namespace Nz
open PySem PySem.Spec PyProof.Rows L2
theorem lm_map {τ μ : Type} (ys : List τ) (g : τ → μ) (enc2 : μ → D) : ((ys.filter fun _ => true).map fun y => enc2 (g y)) = (ys.map g).map enc2 := by
  rw [List.filter_eq_self.mpr (fun _ _ => rfl), List.map_map]; rfl
theorem lm_filt {τ μ : Type} (ys : List τ) (p : τ → Bool) (g : τ → μ) (enc2 : μ → D) : ((ys.filter p).map fun y => enc2 (g y)) = ((ys.filter p).map g).map enc2 := by
  rw [List.map_map]; rfl
theorem bd_d {p : Prop} [Decidable p] : decide p = true ↔ p := decide_eq_true_iff
theorem bd_and {a b : Bool} {p q : Prop} (h1 : a = true ↔ p) (h2 : b = true ↔ q) : (a && b) = true ↔ (p ∧ q) := by rw [Bool.and_eq_true, h1, h2]
theorem bd_or {a b : Bool} {p q : Prop} (h1 : a = true ↔ p) (h2 : b = true ↔ q) : (a || b) = true ↔ (p ∨ q) := by rw [Bool.or_eq_true, h1, h2]
theorem bd_not {a : Bool} {p : Prop} (h1 : a = true ↔ p) : (!a) = true ↔ ¬ p := by rw [← h1]; cases a <;> simp
theorem bd_n {p : Prop} [Decidable p] : (!decide p) = true ↔ ¬ p := bd_not bd_d
section
variable {X : Cx} {B : Bd} {S S1 S2 S3 : Nz.S} {tg a b c e : Expr} {es : List Expr} {pos p q p2 : Pos} {K : Out → Prop} {body els : List Stmt}
theorem ex_ifP {i : Bool} {P : Prop} (h : i = true ↔ P) (ht : Et X B e S i S1) (ha : P → Exs X B body S1 K) (hb : ¬ P → Exs X B els S1 K) : Ex X B (.If e body els pos) S K :=
  ex_if ht (fun z => ha (h.mp z)) fun z => hb fun w => by rw [h.mpr w] at z; cases z
theorem ev_andP {i j : Bool} {P : Prop} (h : i = true ↔ P) (ha : Ev X B a S (.fr (.bl i)) S) (hb : P → Ev X B (.BoolOp .And (b :: es) pos) S (.fr (.bl j)) S) : Ev X B (.BoolOp .And (a :: b :: es) pos) S (.fr (.bl (i && j))) S := ev_and ha fun z => hb (h.mp z)
theorem ev_orP {i j : Bool} {P : Prop} (h : i = true ↔ P) (ha : Ev X B a S (.fr (.bl i)) S) (hb : ¬ P → Ev X B (.BoolOp .Or (b :: es) pos) S (.fr (.bl j)) S) : Ev X B (.BoolOp .Or (a :: b :: es) pos) S (.fr (.bl (i || j))) S := ev_or ha fun z => hb fun w => by rw [h.mpr w] at z; cases z
theorem ew_andP {i j : Bool} {P : Prop} (h : i = true ↔ P) (ha : Et X B a S i S) (hb : P → Ew X B (.BoolOp .And (b :: es) pos) S j) : Ew X B (.BoolOp .And (a :: b :: es) pos) S (i && j) := ew_and ha fun z => hb (h.mp z)
theorem ew_orP {i j : Bool} {P : Prop} (h : i = true ↔ P) (ha : Et X B a S i S) (hb : ¬ P → Ew X B (.BoolOp .Or (b :: es) pos) S j) : Ew X B (.BoolOp .Or (a :: b :: es) pos) S (i || j) := ew_or ha fun z => hb fun w => by rw [h.mpr w] at z; cases z
/-- a op b op' c -/
theorem ev_chain {op op' : CmpOp} {d1 d2 d3 : D} {i j : Bool} {P : Prop} (h : i = true ↔ P) (ho : Op2 X (compareOp op) d1 d2 (.bl i)) (ho' : Op2 X (compareOp op') d2 d3 (.bl j)) (ha : Ev X B a S (.fr d1) S) (hb : Ev X B b S (.fr d2) S) (hc : P → Ev X B c S (.fr d3) S)
    (hm : lastMarks [op, op'] [b, c] = false := by with_unfolding_all rfl) : Ev X B (.Compare a [op, op'] [b, c] pos) S (.fr (.bl (i && j))) S := fun F α H σ Q R k => by
  intro pins s I
  refine Compare_chain (thn (ha F α H σ _ R (fun F1 α1 v1 H1 R1 st1 r1 => hb F1 α1 H1 σ (fun v2 H2 => ∃ F2 α2, RelX X B F2 α2 H2 σ S ∧ Stp F α S.L F2 α2 ∧ Rep X.K X.mg F2 d1 v1 ∧ Rep X.K X.mg F2 d2 v2) R1 fun F2 α2 v2 H2 R2 st2 r2 => ⟨F2, α2, R2, st1.trans st2 Sub.refl, Rep.mono st2.fro r1, r2⟩) pins s I)
    fun v s1 ⟨x, H1, I1, rv, q1⟩ => chain_link (thn (q1 pins s1 I1) fun u s2 ⟨y, H2, I2, ru, F2, α2, R2, st, r1, r2⟩ =>
    thn (ho B F2 α2 H2 σ S (fun v' H' => ∃ F3 α3, v' = .bl i ∧ RelX X B F3 α3 H' σ S ∧ Stp F2 α2 S.L F3 α3) x y R2 r1 r2 (fun F3 α3 v' H3 R3 st3 r3 => by cases r3; exact ⟨F3, α3, rfl, R3, st3⟩) pins s2 v u I2 rv ru) fun d s3 ⟨z, H3, I3, r3, F3, α3, e, R3, st3⟩ => ?_)) hm
  subst e
  cases r3
  refine wpAny_truthy_bool ?_
  have stA : Stp F α S.L F3 α3 := st.trans st3 Sub.refl
  cases i with
  | false => exact ite_ff ⟨.bl false, H3, I3, rfl, k F3 α3 (.bl false) H3 R3 stA (show Rep X.K X.mg F3 (.bl (false && j)) (.bl false) from .bl false)⟩
  | true =>
    refine ite_tt (chain_last (thn (hc (h.mp rfl) F3 α3 H3 σ (fun v3 H4 => ∃ F4 α4, RelX X B F4 α4 H4 σ S ∧ Stp F α S.L F4 α4 ∧ Rep X.K X.mg F4 d2 y ∧ Rep X.K X.mg F4 d3 v3) R3 (fun F4 α4 v4 H4 R4 st4 r4 => ⟨F4, α4, R4, stA.trans st4 Sub.refl, Rep.mono (st3.fro.trans st4.fro) r2, r4⟩) pins s3 I3)
      fun w' s4 ⟨z', H4, I4, r4, F4, α4, R4, st4, q2, q3⟩ => ?_))
    exact ho' B F4 α4 H4 σ S Q y z' R4 q2 q3 (fun F5 α5 v5 H5 R5 st5 r5 => k F5 α5 v5 H5 R5 (st4.trans st5 Sub.refl) (show Rep X.K X.mg F5 (.bl (true && j)) v5 from r5)) pins s4 u w' I4 ru r4
/-- .. as a test -/
theorem et_chain {op op' : CmpOp} {d1 d2 d3 : D} {i j : Bool} {P : Prop} (h : i = true ↔ P) (ho : Op2 X (compareOp op) d1 d2 (.bl i)) (ho' : Op2 X (compareOp op') d2 d3 (.bl j)) (ha : Ev X B a S (.fr d1) S) (hb : Ev X B b S (.fr d2) S) (hc : P → Ev X B c S (.fr d3) S)
    (hm : lastMarks [op, op'] [b, c] = false := by with_unfolding_all rfl) : Et X B (.Compare a [op, op'] [b, c] pos) S (i && j) S := fun F α H σ Q R k => by
  intro pins s I
  refine isTrue_chain (thn (ha F α H σ _ R (fun F1 α1 v1 H1 R1 st1 r1 => hb F1 α1 H1 σ (fun v2 H2 => ∃ F2 α2, RelX X B F2 α2 H2 σ S ∧ Stp F α S.L F2 α2 ∧ Rep X.K X.mg F2 d1 v1 ∧ Rep X.K X.mg F2 d2 v2) R1 fun F2 α2 v2 H2 R2 st2 r2 => ⟨F2, α2, R2, st1.trans st2 Sub.refl, Rep.mono st2.fro r1, r2⟩) pins s I)
    fun v s1 ⟨x, H1, I1, rv, q1⟩ => test_link (thn (q1 pins s1 I1) fun u s2 ⟨y, H2, I2, ru, F2, α2, R2, st, r1, r2⟩ =>
    thn (ho B F2 α2 H2 σ S (fun v' H' => ∃ F3 α3, v' = .bl i ∧ RelX X B F3 α3 H' σ S ∧ Stp F2 α2 S.L F3 α3) x y R2 r1 r2 (fun F3 α3 v' H3 R3 st3 r3 => by cases r3; exact ⟨F3, α3, rfl, R3, st3⟩) pins s2 v u I2 rv ru) fun d s3 ⟨z, H3, I3, r3, F3, α3, e, R3, st3⟩ => ?_)) hm
  subst e
  cases r3
  refine wpAny_truthy_bool ?_
  have stA : Stp F α S.L F3 α3 := st.trans st3 Sub.refl
  cases i with
  | false => exact ite_ff ⟨H3, I3, by simpa using k F3 α3 H3 R3 stA⟩
  | true =>
    refine ite_tt (test_last (thn (hc (h.mp rfl) F3 α3 H3 σ (fun v3 H4 => ∃ F4 α4, RelX X B F4 α4 H4 σ S ∧ Stp F α S.L F4 α4 ∧ Rep X.K X.mg F4 d2 y ∧ Rep X.K X.mg F4 d3 v3) R3 (fun F4 α4 v4 H4 R4 st4 r4 => ⟨F4, α4, R4, stA.trans st4 Sub.refl, Rep.mono (st3.fro.trans st4.fro) r2, r4⟩) pins s3 I3)
      fun w' s4 ⟨z', H4, I4, r4, F4, α4, R4, st4, q2, q3⟩ => thn (ho' B F4 α4 H4 σ S (fun v' H' => v' = .bl j ∧ ∃ F5 α5, RelX X B F5 α5 H' σ S ∧ Stp F4 α4 S.L F5 α5) y z' R4 q2 q3 (fun F5 α5 v5 H5 R5 st5 r5 => by cases r5; exact ⟨rfl, F5, α5, R5, st5⟩) pins s4 u w' I4 ru r4) fun d' s5 ⟨z2, H5, I5, r5, e2, F5, α5, R5, st5⟩ => ?_))
    subst e2
    cases r5
    exact wpAny_truthy_bool ⟨H5, I5, by simpa using k F5 α5 H5 R5 (st4.trans st5 Sub.refl)⟩
variable {elt iter : Expr} {ifs : List Expr} {scope : Scope} {own : List (Str × Nat)} {τ μ : Type} {ys : List τ} {enc : τ → D} {enc2 : μ → D}
/-- [g y for y in ys], typed -/
theorem ev_lcM (nD : Nat) (g : τ → μ) (Sx : Nat → τ → List D → Nz.S) (hc : X.calm = true) (hN : X.N.Nodup) (ok : BlkOk X.N X.env.scope scope own)
    (hsrc : Src X B tg iter S (ys.map enc) S1) (hn : nD ∉ names S1.L) (h100 : 100 ≤ nD) (hz : ys.length ≤ sizeLine)
    (hg : ∀ i y acc, ys[i]? = some y → ∀ s H0 C cl fp, EgC (Blk X scope s H0 C cl fp) B tg (.fr (enc y)) ⟨wipeC S1.ρ (own.map (·.2)), S1.L ++ [(nD, .fl acc)]⟩ (Sx i y acc) (own.map (·.2)))
    (he : ∀ i y acc, ys[i]? = some y → ∀ s H0 C cl fp, Ev (Blk X scope s H0 C cl fp) B elt (Sx i y acc) (.fr (enc2 (g y))) (Sx i y acc)) (hL : ∀ i y acc, (Sx i y acc).L = S1.L ++ [(nD, .fl acc)] := by exact fun _ _ _ => rfl) (hS : Sub S.L S1.L := by exact Sub.refl) (hs : ∀ x, foldedSetIterable iter X.env x = pure x := by intro _; rfl) :
    Ev X B (.ListComp elt [⟨tg, iter, [], 0⟩] scope pos) S (.fr (eL enc2 (ys.map g))) S1 := by
  have := ev_lc (pos := pos) nD ys enc (fun y => enc2 (g y)) (fun _ => true) Sx hc hN ok hsrc hn h100 hz hL hg (fun _ _ _ _ _ _ _ _ _ => ets_nil) (fun i y acc h1 _ => he i y acc h1) hS hs
  rwa [lm_map] at this
theorem ex_setLcM (i : Nat) {y : Str} {py spos : Pos} (nD : Nat) (g : τ → μ) (Sx : Nat → τ → List D → Nz.S) (hc : X.calm = true) (hN : X.N.Nodup) (hy : X.N[i]? = some y) (hyl : X.env.scope.names.lookup y = some .local)
    (hsw : swapsWith (.ListComp elt [⟨tg, iter, [], 0⟩] scope pos) (some (.Name y py)) spos.line X.env = pure true) (ok : BlkOk X.N X.env.scope scope own)
    (hsrc : Src X B tg iter S (ys.map enc) S1) (hn : nD ∉ names S1.L) (h100 : 100 ≤ nD) (hz : ys.length ≤ sizeLine)
    (hg : ∀ i y acc, ys[i]? = some y → ∀ s H0 C cl fp, EgC (Blk X scope s H0 C cl fp) B tg (.fr (enc y)) ⟨wipeC S1.ρ (own.map (·.2)), S1.L ++ [(nD, .fl acc)]⟩ (Sx i y acc) (own.map (·.2)))
    (he : ∀ i y acc, ys[i]? = some y → ∀ s H0 C cl fp, Ev (Blk X scope s H0 C cl fp) B elt (Sx i y acc) (.fr (enc2 (g y))) (Sx i y acc))
    (k : K (.nx (setS S1 i (.fr (eL enc2 (ys.map g)))))) (hL : ∀ i y acc, (Sx i y acc).L = S1.L ++ [(nD, .fl acc)] := by exact fun _ _ _ => rfl) (hS : Sub S.L S1.L := by exact Sub.refl) (hs : ∀ x, foldedSetIterable iter X.env x = pure x := by intro _; rfl) :
    Ex X B (.Assign [.Name y py] (.ListComp elt [⟨tg, iter, [], 0⟩] scope pos) spos) S K :=
  ex_setLc i nD ys enc (fun y => enc2 (g y)) (fun _ => true) Sx hc hN hy hyl hsw ok hsrc hn h100 hz hL hg (fun _ _ _ _ _ _ _ _ _ => ets_nil) (fun i y acc h1 _ => he i y acc h1) (by
    rw [lm_map]; exact k) hS hs
/-- [g y for y in ys if p y], typed -/
theorem ev_lcF (nD : Nat) (g : τ → μ) (p : τ → Bool) (Sx : Nat → τ → List D → Nz.S) (hc : X.calm = true) (hN : X.N.Nodup) (ok : BlkOk X.N X.env.scope scope own)
    (hsrc : Src X B tg iter S (ys.map enc) S1) (hn : nD ∉ names S1.L) (h100 : 100 ≤ nD) (hz : ys.length ≤ sizeLine)
    (hg : ∀ i y acc, ys[i]? = some y → ∀ s H0 C cl fp, EgC (Blk X scope s H0 C cl fp) B tg (.fr (enc y)) ⟨wipeC S1.ρ (own.map (·.2)), S1.L ++ [(nD, .fl acc)]⟩ (Sx i y acc) (own.map (·.2)))
    (ht : ∀ i y acc, ys[i]? = some y → ∀ s H0 C cl fp, Et (Blk X scope s H0 C cl fp) B a (Sx i y acc) (p y) (Sx i y acc))
    (he : ∀ i y acc, ys[i]? = some y → p y = true → ∀ s H0 C cl fp, Ev (Blk X scope s H0 C cl fp) B elt (Sx i y acc) (.fr (enc2 (g y))) (Sx i y acc)) (hL : ∀ i y acc, (Sx i y acc).L = S1.L ++ [(nD, .fl acc)] := by exact fun _ _ _ => rfl) (hS : Sub S.L S1.L := by exact Sub.refl) (hs : ∀ x, foldedSetIterable iter X.env x = pure x := by intro _; rfl) :
    Ev X B (.ListComp elt [⟨tg, iter, [a], 0⟩] scope pos) S (.fr (eL enc2 ((ys.filter p).map g))) S1 := by
  have := ev_lc (pos := pos) nD ys enc (fun y => enc2 (g y)) p Sx hc hN ok hsrc hn h100 hz hL hg (fun i y acc h s H0 C cl fp => ets_one (ht i y acc h s H0 C cl fp)) he hS hs
  rwa [lm_filt] at this
end
end Nz
namespace Nz
open PySem PySem.Spec PyProof.Rows L2
def loopF (Sn : Nz.S) (q : Prop) : Out → Prop
  | .nx S => Le S Sn ∧ q
  | .ct S => Le S Sn ∧ q
  | _ => False
def runE {τ σ ρ : Type} (step : σ → τ → Except ρ σ) : List τ → σ → Except ρ σ
  | [], s => .ok s
  | y :: ys, s => match step s y with
    | .error r => .error r
    | .ok s' => runE step ys s'
def loopE {σ ρ : Type} (stF : σ → Nz.S) (o : Except ρ σ) (Q : σ → Prop) (R : ρ → Ce → Nz.S → Prop) : Out → Prop
  | .nx S => ∃ s', o = .ok s' ∧ Le S (stF s') ∧ Q s'
  | .ct S => ∃ s', o = .ok s' ∧ Le S (stF s') ∧ Q s'
  | .ret c S => ∃ r, o = .error r ∧ R r c S
  | _ => False
section
variable {X : Cx} {B : Bd} {S S1 S2 S3 : Nz.S} {tg a b c e : Expr} {es : List Expr} {pos p q p2 : Pos} {K : Out → Prop} {body : List Stmt} {τ σ ρ : Type} {ys : List τ} {enc : τ → D}
theorem take_foldl {step : σ → τ → σ} {s0 : σ} {i : Nat} {y : τ} (h : ys[i]? = some y) : (ys.take (i + 1)).foldl step s0 = step ((ys.take i).foldl step s0) y := foldl_snoc step s0 h
theorem ex_forF (stF : σ → Nz.S) (step : σ → τ → σ) (s0 : σ) (Q : Nat → σ → Prop) (hsrc : Src X B tg e S (ys.map enc) S1) (h0 : Le S1 (stF s0)) (q0 : Q 0 s0)
    (hs : ∀ i y s, ys[i]? = some y → Q i s → ∃ S2, Eg X B tg (.fr (enc y)) (stF s) S2 ∧ Exs X B body S2 (loopF (stF (step s y)) (Q (i + 1) (step s y)))) (hd : Q ys.length (ys.foldl step s0) → K (.nx (stF (ys.foldl step s0))))
    (hp : PassesOwn (model X.prog X.w) X.A X.env X.xe) (hc : X.calm = true) (hf : ∀ x, foldedSetIterable e X.env x = pure x := by intro _; rfl) : Ex X B (.For tg e body [] pos) S K := by
  refine ex_forT hp hc (fun i => stF ((ys.take i).foldl step s0)) (fun i => Q i ((ys.take i).foldl step s0)) hsrc h0 q0 (fun i y hy hP => ?_) (fun hP => ?_) hf
  · obtain ⟨S2, h1, h2⟩ := hs i y _ hy hP
    refine ⟨S2, h1, h2.mono fun o ho => ?_⟩
    cases o with
    | nx S => show Le S (stF ((ys.take (i + 1)).foldl step s0)) ∧ Q (i + 1) ((ys.take (i + 1)).foldl step s0); rw [take_foldl hy]; exact ho
    | ct S => show Le S (stF ((ys.take (i + 1)).foldl step s0)) ∧ Q (i + 1) ((ys.take (i + 1)).foldl step s0); rw [take_foldl hy]; exact ho
    | bk S => exact False.elim ho
    | ret c S => exact False.elim ho
  · rw [List.take_length] at hP ⊢
    exact hd hP
theorem runE_cons {step : σ → τ → Except ρ σ} {x : τ} {xs : List τ} {s : σ} : runE step (x :: xs) s = (match step s x with | .error r => Except.error r | .ok s' => runE step xs s') := rfl
theorem runE_append {step : σ → τ → Except ρ σ} : ∀ {xs ys : List τ} {s : σ}, runE step (xs ++ ys) s = (match runE step xs s with | .error r => .error r | .ok s' => runE step ys s')
  | [], _, _ => rfl
  | x :: xs, ys, s => by
    rw [List.cons_append, runE_cons, runE_cons]
    cases step s x with
    | error r => rfl
    | ok s' => exact runE_append
theorem runE_split {step : σ → τ → Except ρ σ} {i : Nat} {y : τ} {s0 s : σ} (h : ys[i]? = some y) (hs : runE step (ys.take i) s0 = .ok s) : runE step (ys.take (i + 1)) s0 = step s y := by
  rw [take_snoc h, runE_append, hs]
  show runE step [y] s = step s y
  unfold runE
  cases step s y <;> rfl
theorem runE_err {step : σ → τ → Except ρ σ} {i : Nat} {y : τ} {s0 s : σ} {r : ρ} (h : ys[i]? = some y) (hs : runE step (ys.take i) s0 = .ok s) (hr : step s y = .error r) : runE step ys s0 = .error r := by
  have e : ys = ys.take (i + 1) ++ ys.drop (i + 1) := (List.take_append_drop _ _).symm
  rw [e, runE_append, runE_split h hs, hr]
/-- a loop that may return -/
theorem ex_forE (stF : σ → Nz.S) (step : σ → τ → Except ρ σ) (s0 : σ) (Q : Nat → σ → Prop) (R : ρ → Ce → Nz.S → Prop) (hsrc : Src X B tg e S (ys.map enc) S1) (h0 : Le S1 (stF s0)) (q0 : Q 0 s0)
    (hs : ∀ i y s, ys[i]? = some y → runE step (ys.take i) s0 = .ok s → Q i s → ∃ S2, Eg X B tg (.fr (enc y)) (stF s) S2 ∧ Exs X B body S2 (loopE stF (step s y) (Q (i + 1)) R))
    (hr : ∀ r c S', runE step ys s0 = .error r → R r c S' → K (.ret c S')) (hd : ∀ s, runE step ys s0 = .ok s → Q ys.length s → K (.nx (stF s)))
    (hp : PassesOwn (model X.prog X.w) X.A X.env X.xe) (hc : X.calm = true) (hf : ∀ x, foldedSetIterable e X.env x = pure x := by intro _; rfl) : Ex X B (.For tg e body [] pos) S K := by
  let sI : Nat → σ := fun i => match runE step (ys.take i) s0 with | .ok s => s | .error _ => s0
  refine ex_forT hp hc (fun i => stF (sI i)) (fun i => runE step (ys.take i) s0 = .ok (sI i) ∧ Q i (sI i)) hsrc h0 ⟨rfl, q0⟩ (fun i y hy hP => ?_) (fun hP => ?_) hf
  · obtain ⟨S2, h1, h2⟩ := hs i y _ hy hP.1 hP.2
    refine ⟨S2, h1, h2.mono fun o ho => ?_⟩
    have nx : ∀ s', step (sI i) y = .ok s' → sI (i + 1) = s' ∧ runE step (ys.take (i + 1)) s0 = .ok s' := fun s' e => by
      have := runE_split hy hP.1
      rw [e] at this
      refine ⟨?_, this⟩
      show (match runE step (ys.take (i + 1)) s0 with | .ok s => s | .error _ => s0) = s'
      rw [this]
    cases o with
    | nx S =>
      obtain ⟨s', e, l, q⟩ := ho
      obtain ⟨e1, e2⟩ := nx s' e
      show Le S (stF (sI (i + 1))) ∧ runE step (ys.take (i + 1)) s0 = .ok (sI (i + 1)) ∧ Q (i + 1) (sI (i + 1))
      rw [e1]; exact ⟨l, e2, q⟩
    | ct S =>
      obtain ⟨s', e, l, q⟩ := ho
      obtain ⟨e1, e2⟩ := nx s' e
      show Le S (stF (sI (i + 1))) ∧ runE step (ys.take (i + 1)) s0 = .ok (sI (i + 1)) ∧ Q (i + 1) (sI (i + 1))
      rw [e1]; exact ⟨l, e2, q⟩
    | bk S => exact False.elim ho
    | ret c S =>
      obtain ⟨r, e, l⟩ := ho
      exact hr r c S (runE_err hy hP.1 e) l
  · obtain ⟨h1, h2⟩ := hP
    rw [List.take_length] at h1
    exact hd _ h1 h2
end
end Nz
namespace Nz
open PySem PySem.Spec PyProof.Rows L2
section
variable {X : Cx} {B : Bd} {S S1 : Nz.S} {es : List Expr} {pos : Pos} {τ : Type} {enc : τ → D}
theorem ev_lstF (xs : List τ) {ds : List D} (h : Ea X B es S (ds.map Ce.fr) S1) (hd : ds = xs.map enc) (hz : xs.length ≤ sizeLine) : Ev X B (.List es pos) S (.fr (eL enc xs)) S1 := by
  subst hd
  exact ev_lst h (by rw [List.length_map]; exact hz)
end
end Nz
namespace Nz
open PySem PySem.Spec PyProof.Rows L2
mutual
def toP : D → PyData
  | .non => .none
  | .bl b => .bool b
  | .int i => .int i
  | .str s => .str s
  | .tup xs => .tuple (toPs xs)
  | .lst xs => .list (toPs xs)
  | .obj _ _ => .none
def toPs : List D → List PyData
  | [] => []
  | x :: xs => toP x :: toPs xs
end
mutual
def dataOk : D → Bool
  | .obj _ _ => false
  | .tup xs => datasOk xs
  | .lst xs => datasOk xs
  | _ => true
def datasOk : List D → Bool
  | [] => true
  | x :: xs => dataOk x && datasOk xs
end
mutual
theorem plain_toP : ∀ d : D, (toP d).plain = true
  | .non => rfl
  | .bl b => rfl
  | .int i => rfl
  | .str s => rfl
  | .tup xs => by simp only [toP, PyData.plain]; exact plain_toPs xs
  | .lst xs => by simp only [toP, PyData.plain]; exact plain_toPs xs
  | .obj _ _ => rfl
theorem plain_toPs : ∀ ds : List D, PyData.plainAll (toPs ds) = true
  | [] => rfl
  | x :: xs => by simp only [toPs, PyData.plainAll, plain_toP x, plain_toPs xs, Bool.and_self]
end
section
variable {K : Frag} {mg : Mg} {F H : Hp}
mutual
theorem dp_of (s : Same F H) : ∀ (d : D) (v : V), Rep K mg F d v → dataOk d = true → Dp K H v (toP d)
  | .non, _, r, h => by cases r; exact .non
  | .bl b, _, r, h => by cases r; exact .bl b
  | .int i, _, r, h => by cases r; exact .int i
  | .str z, _, r, h => by cases r; exact .str z
  | .tup xs, _, r, h => by
    cases r with
    | tup h1 h2 => exact .tup (s.seqT h1) (dps_of s xs _ h2 (by simpa [dataOk] using h))
  | .lst xs, _, r, h => by
    cases r with
    | lst h1 h2 => exact .lst (s.seq h1) (dps_of s xs _ h2 (by simpa [dataOk] using h))
  | .obj _ _, _, r, h => by simp [dataOk] at h
theorem dps_of (s : Same F H) : ∀ (ds : List D) (vs : List V), Reps K mg F ds vs → datasOk ds = true → DpAll K H vs (toPs ds)
  | [], _, r, h => by cases r; exact .nil
  | x :: xs, _, r, h => by
    cases r with
    | cons h1 h2 =>
      simp only [datasOk, Bool.and_eq_true] at h
      exact .cons (dp_of s x _ h1 h.1) (dps_of s xs _ h2 h.2)
end
end
/-- an encoding that == reads as = -/
structure EqEnc {τ : Type} [DecidableEq τ] (n : Nat) (e : τ → D) : Prop where
  ok : ∀ x, dataOk (e x) = true
  eqv : ∀ x y, PyData.eqv (toP (e x)) (toP (e y)) = decide (x = y)
  dep : ∀ x, (toP (e x)).depth ≤ n
theorem ee_str : EqEnc 0 D.str := ⟨fun _ => rfl, fun x y => by simp only [toP, PyData.eqv]; rw [Bool.eq_iff_iff]; simp, fun _ => Nat.zero_le _⟩
section
variable {τ μ ν κ ι : Type} [DecidableEq τ] [DecidableEq μ] [DecidableEq ν] [DecidableEq κ] [DecidableEq ι] {a b c d f n : Nat} {e : τ → D} {e2 : μ → D} {e3 : ν → D} {e4 : κ → D} {e5 : ι → D}
theorem ees_ok (h : EqEnc n e) : ∀ xs : List τ, datasOk (xs.map e) = true
  | [] => rfl
  | x :: xs => by simp only [List.map_cons, datasOk, h.ok, ees_ok h xs, Bool.and_self]
theorem ees_eqv (h : EqEnc n e) : ∀ xs ys : List τ, PyData.eqvAll (toPs (xs.map e)) (toPs (ys.map e)) = decide (xs = ys)
  | [], [] => by simp [toPs, PyData.eqvAll]
  | [], _ :: _ => by simp [toPs, PyData.eqvAll]
  | _ :: _, [] => by simp [toPs, PyData.eqvAll]
  | x :: xs, y :: ys => by
    simp only [List.map_cons, toPs, PyData.eqvAll, h.eqv, ees_eqv h xs ys]
    rw [Bool.eq_iff_iff]; simp
theorem ees_dep (h : EqEnc n e) : ∀ xs : List τ, PyData.depthAll (toPs (xs.map e)) ≤ n
  | [] => by simp [toPs, PyData.depthAll]
  | x :: xs => by
    simp only [List.map_cons, toPs, PyData.depthAll]
    have h1 := h.dep x
    have h2 := ees_dep h xs
    omega
theorem ee_L (h : EqEnc n e) : EqEnc (n + 1) (eL e) := ⟨fun xs => by simp only [dataOk]; exact ees_ok h xs, fun xs ys => by simp only [toP, PyData.eqv]; exact ees_eqv h xs ys, fun xs => by simp only [toP, PyData.depth]; have := ees_dep h xs; omega⟩
theorem ee_U (h : EqEnc n e) : EqEnc (n + 1) (eU e) := ⟨fun xs => by simp only [dataOk]; exact ees_ok h xs, fun xs ys => by simp only [toP, PyData.eqv]; exact ees_eqv h xs ys, fun xs => by simp only [toP, PyData.depth]; have := ees_dep h xs; omega⟩
variable {X : Cx}
theorem o_neD (hu : X.A.units + 64 < cLine) (h : EqEnc n e) {x y : τ} (hn : n ≤ 60 := by decide) : Op2 X (compareOp .NotEq) (e x) (e y) (.bl (!decide (x = y))) :=
  fun B F α H σ S Q v1 v2 R r1 r2 k pins s u1 u2 I q1 q2 => by
    obtain ⟨as, ra⟩ := Dp.reads I _ _ _ (dp_of R.sub _ _ r1 (h.ok x)) q1
    obtain ⟨bs, rb⟩ := Dp.reads I _ _ _ (dp_of R.sub _ _ r2 (h.ok y)) q2
    refine PySem.SeqAt.ne_plain ra rb (plain_toP _) (plain_toP _) ?_ ?_
    · have := h.dep x; have := Nat.min_le_left (toP (e x)).depth (toP (e y)).depth; omega
    · rw [h.eqv]; exact ⟨.bl _, H, I, rfl, k F α _ H R Stp.refl (.bl _)⟩
theorem toPs_any (h : EqEnc n e) (x : τ) : ∀ ys : List τ, ((toPs (ys.map e)).any fun y => PyData.eqv y (toP (e x))) = decide (x ∈ ys)
  | [] => by simp [toPs]
  | y :: ys => by
    rw [List.map_cons]
    show (PyData.eqv (toP (e y)) (toP (e x)) || (toPs (ys.map e)).any fun y => PyData.eqv y (toP (e x))) = _
    rw [h.eqv, toPs_any h x ys, Bool.eq_iff_iff, Bool.or_eq_true, decide_eq_true_iff, decide_eq_true_iff, decide_eq_true_iff, List.mem_cons]
    exact or_congr eq_comm Iff.rfl
end
def iterW {σ : Type} (c : σ → Bool) (f : σ → σ) : Nat → σ → σ
  | 0, s => s
  | n + 1, s => if c s = true then iterW c f n (f s) else s
theorem iterW_stop {σ : Type} {c : σ → Bool} {f : σ → σ} {s : σ} (h : c s = false) : ∀ n, iterW c f n s = s
  | 0 => rfl
  | n + 1 => by unfold iterW; rw [h, if_neg Bool.false_ne_true]
section
variable {X : Cx} {B : Bd} {S : Nz.S} {e : Expr} {pos : Pos} {K : Out → Prop} {body : List Stmt} {σ : Type}
theorem ex_whileF (stF : σ → Nz.S) (c : σ → Bool) (f : σ → σ) (s0 : σ) (n : Nat) (Q : σ → Prop) (μ : σ → Nat) (h0 : Le S (stF s0)) (q0 : Q s0) (hn : μ s0 ≤ n) (hm : ∀ s, Q s → c s = true → Q (f s) ∧ μ (f s) < μ s)
    (ht : ∀ s, Q s → Et X B e (stF s) (c s) (stF s)) (hs : ∀ s, Q s → c s = true → Exs X B body (stF s) (loopF (stF (f s)) True))
    (hd : Q (iterW c f n s0) → c (iterW c f n s0) = false → K (.nx (stF (iterW c f n s0)))) (hp : PassesOwn (model X.prog X.w) X.A X.env X.xe) : Ex X B (.While e body [] pos) S K :=
  fun F α H τ D R o => wS.of (ps_while hp pt_w pss_w) (by
    refine ⟨fun m σ' H' => ∃ s k F' α', m = μ s ∧ Q s ∧ μ s ≤ k ∧ iterW c f k s = iterW c f n s0 ∧ RelX X B F' α' H' σ' (stF s) ∧ Same F F', ⟨μ s0, s0, n, F, α, rfl, q0, hn, rfl, R.le h0, Same.refl _⟩, ?_⟩
    rintro m σ' H' ⟨s, k, F', α', rfl, q, hk, he, R', sm⟩
    refine ht s q F' α' H' σ' _ R' fun F1 α1 H1 R1 st1 => ?_
    have sall : Same F F1 := sm.trans st1.fro
    cases hc : c s with
    | true =>
      obtain ⟨q', l⟩ := hm s q hc
      rw [if_pos rfl]
      refine ⟨fun σ2 H2 => ∃ F2 α2, RelX X B F2 α2 H2 σ2 (stF (f s)) ∧ Same F F2, fun σ2 H2 ⟨F2, α2, R2, s2⟩ => ⟨μ (f s), l, f s, k - 1, F2, α2, rfl, q', by omega, ?_, R2, s2⟩, hs s q hc F1 α1 H1 σ' _ R1 ?_⟩
      · rw [← he]
        obtain ⟨k', rfl⟩ : ∃ k', k = k' + 1 := ⟨k - 1, by omega⟩
        show iterW c f k' (f s) = if c s = true then iterW c f k' (f s) else s
        rw [if_pos hc]
      · exact ⟨fun S4 F4 α4 H4 σ4 k4 R4 s4 => ⟨F4, α4, R4.le k4.1, sall.trans s4⟩, fun S4 F4 α4 H4 σ4 k4 R4 s4 => k4.elim, fun S4 F4 α4 H4 σ4 k4 R4 s4 => ⟨F4, α4, R4.le k4.1, sall.trans s4⟩, fun c S4 F4 α4 H4 σ4 v k4 R4 s4 r4 => k4.elim⟩
    | false =>
      rw [if_neg Bool.false_ne_true]
      rw [iterW_stop hc] at he
      exact o.nx _ F1 α1 H1 σ' (by rw [he]; exact hd (by rw [← he]; exact q) (by rw [← he]; exact hc)) R1 sall)
end
end Nz
namespace Nz
open PySem PySem.Spec PyProof.Rows L2
/-- the law's promise in the layer's own words -/
def spTrue (K : Frag) : Sp := fun vs H Q _ => ∃ (a : Addr) (ns : List Int), vs = [.ref a] ∧ SqL K H a (ns.map V.int) ∧ ns.length ≤ 63 ∧ ∀ H', Q (.bl true) H'
theorem spTrue_of {K : Frag} {mg : Mg} {mir : List Int → Bool} (hm : ∀ ns : List Int, ns.length ≤ 63 → mir ns = true) {vs : List V} {H : Hp} {Q : VK} {E : XK} (h : spTrue K vs H Q E) :
    SpOf K mg (fun cs L Kc => ∃ script : List Int, cs = [.fr (eL D.int script)] ∧ L = [] ∧ script.length ≤ 63 ∧ ∀ L', Kc (.fr (D.bl (mir script))) L') vs H Q E := by
  obtain ⟨a, ns, rfl, hs, hl, q⟩ := h
  refine ⟨H, fun _ => 0, [], [.fr (eL D.int ns)], fun _ => False, ⟨Same.refl _, Same.refl _, fun b o e => .inl e, fun b o e _ => e, List.nodup_nil, fun n m h => absurd h (by simp [names]), fun n o h => absurd h (by simp), .so (Rep.lst hs Reps.ints) .nil, fun n a h hn => absurd hn (by simp [names])⟩, ns, rfl, rfl, hl, fun L' F' α' v H' ρ' σ' R' r' => ?_⟩
  rw [hm ns hl] at r'
  cases (show Rep K mg F' (.bl true) v from r')
  exact q H'
end Nz
namespace Nz
open PySem PySem.Spec PyProof.Rows L2
def minL : List Int → Int
  | [] => 0
  | x :: xs => xs.foldl (fun a b => if b < a then b else a) x
def maxL : List Int → Int
  | [] => 0
  | x :: xs => xs.foldl (fun a b => if b > a then b else a) x
theorem foldmin : ∀ (xs : List Int) (a : Int), (xs.foldl (fun a b => if b < a then b else a) a = a ∨ xs.foldl (fun a b => if b < a then b else a) a ∈ xs) ∧ xs.foldl (fun a b => if b < a then b else a) a ≤ a ∧ ∀ y ∈ xs, xs.foldl (fun a b => if b < a then b else a) a ≤ y
  | [], a => ⟨.inl rfl, Int.le_refl _, fun y h => absurd h (by simp)⟩
  | x :: xs, a => by
    rw [List.foldl_cons]
    have ih := foldmin xs (if x < a then x else a)
    refine ⟨?_, ?_, fun y hy => ?_⟩
    · rcases ih.1 with h | h
      · rw [h]; split
        · exact .inr List.mem_cons_self
        · exact .inl rfl
      · exact .inr (List.mem_cons_of_mem _ h)
    · have := ih.2.1; split at this <;> omega
    · rcases List.mem_cons.mp hy with rfl | hy
      · have := ih.2.1; split at this <;> omega
      · exact ih.2.2 y hy
theorem foldmax : ∀ (xs : List Int) (a : Int), (xs.foldl (fun a b => if b > a then b else a) a = a ∨ xs.foldl (fun a b => if b > a then b else a) a ∈ xs) ∧ a ≤ xs.foldl (fun a b => if b > a then b else a) a ∧ ∀ y ∈ xs, y ≤ xs.foldl (fun a b => if b > a then b else a) a
  | [], a => ⟨.inl rfl, Int.le_refl _, fun y h => absurd h (by simp)⟩
  | x :: xs, a => by
    rw [List.foldl_cons]
    have ih := foldmax xs (if x > a then x else a)
    refine ⟨?_, ?_, fun y hy => ?_⟩
    · rcases ih.1 with h | h
      · rw [h]; split
        · exact .inr List.mem_cons_self
        · exact .inl rfl
      · exact .inr (List.mem_cons_of_mem _ h)
    · have := ih.2.1; split at this <;> omega
    · rcases List.mem_cons.mp hy with rfl | hy
      · have := ih.2.1; split at this <;> omega
      · exact ih.2.2 y hy
theorem minL_mem {ns : List Int} (h : ns ≠ []) : minL ns ∈ ns := by
  cases ns with
  | nil => exact absurd rfl h
  | cons x xs =>
    rcases (foldmin xs x).1 with e | e
    · show xs.foldl _ x ∈ _; rw [e]; exact List.mem_cons_self
    · exact List.mem_cons_of_mem _ e
theorem maxL_mem {ns : List Int} (h : ns ≠ []) : maxL ns ∈ ns := by
  cases ns with
  | nil => exact absurd rfl h
  | cons x xs =>
    rcases (foldmax xs x).1 with e | e
    · show xs.foldl _ x ∈ _; rw [e]; exact List.mem_cons_self
    · exact List.mem_cons_of_mem _ e
section
variable {X : Cx} {B : Bd} {S S1 S2 S3 : Nz.S} {tg a b c e : Expr} {es : List Expr} {pos p q p2 : Pos} {d : D} {ds : List D} {x : Str} {id : String} {τ : Type} {enc : τ → D}
theorem mulW_of {i j : Int} (h : -(2 ^ 900) < i ∧ i < 2 ^ 900 ∧ -(2 ^ 900) < j ∧ j < 2 ^ 900) : CMulW i j :=
  wide_mul (a := 900) (b := 900) (by omega) (by omega) (by decide) (by decide) (by decide)
theorem divW_of {i j : Int} (h : 0 < j ∧ j < 2 ^ 900) : CDivW i j := wide_div (b := 900) h.1 (by omega) (by decide) (by decide)
def isNonD : D → Bool
  | .non => true
  | _ => false
theorem o_nisD : Op2 X (compareOp .IsNot) d .non (.bl (!isNonD d)) := fun B F α H σ S Q x y R rx ry k pins s v u I rv ru =>
  op_notN pins s σ H x y v u Q I rv ru ⟨by cases ry; rfl, by
    have : decide (x = .non) = isNonD d := by cases rx <;> simp [isNonD]
    rw [this]; exact k F α _ H R Stp.refl (.bl _)⟩
theorem isNon_O {y : Option τ} (h : ∀ z, isNonD (enc z) = false) : isNonD (eO enc y) = y.isNone := by
  cases y with
  | none => rfl
  | some z => exact h z
theorem o_nisO {y : Option τ} (h : ∀ z, isNonD (enc z) = false) : Op2 X (compareOp .IsNot) (eO enc y) .non (.bl (!y.isNone)) := by rw [← isNon_O h]; exact o_nisD
end
end Nz
namespace Nz
open PySem PySem.Spec PyProof.Rows L2
section
variable {K : Frag} {mg : Mg} {B : Bd} {F F' : Hp} {α : Nat → Addr} {H H' : Hp} {σ : L2.St} {S : Nz.S} {L : List (Nat × LO)} {Q : VK} {E : XK}
theorem CRelF.fr : ∀ {fs : List (Str × D)} {vs : List (Str × V)}, CRelF K mg F α L (fs.map fun p => (p.1, Ce.fr p.2)) vs → RepF K mg F fs vs
  | [], _, .nil => .nil
  | _ :: _, _, .cons h r => .cons h (CRelF.fr r)
end
section
variable {X : Cx} {B : Bd} {S S1 S2 : Nz.S} {a e o : Expr} {es : List Expr} {pos apos p q : Pos} {d d1 : D} {ds : List D} {c f m x : Str} {fs : List (Str × D)} {C g pr : Addr} {fd : FuncData} {ps : List Str} {k : Nat} {sp : SpN}
/-- the fields behind self.f = .. -/
def putC (f : Str) (c : Ce) : List (Str × Ce) → List (Str × Ce)
  | [] => [(f, c)]
  | (g, x) :: r => if g = f then (g, c) :: r else (g, x) :: putC f c r
theorem CRelF.put {K : Frag} {mg : Mg} {F : Hp} {α : Nat → Addr} {L : List (Nat × LO)} {f : Str} {c : Ce} {v : V} (h : CRel K mg F α L c v) : ∀ {fs : List (Str × Ce)} {vs : List (Str × V)}, CRelF K mg F α L fs vs → CRelF K mg F α L (putC f c fs) (putF f v vs)
  | [], _, .nil => .cons h .nil
  | (g, _) :: _, _, .cons r rs => by
    unfold putC putF
    by_cases q : g = f
    · rw [if_pos q, if_pos q]; exact .cons h rs
    · rw [if_neg q, if_neg q]; exact .cons r (rs.put h)
end
end Nz
namespace Nz
open PySem PySem.Spec PyProof.Rows L2
open AutoSeq1 (wpAny_loadPart')
open Sem (wp)
end Nz
namespace Nz
open PySem PySem.Spec PyProof.Rows L2
end Nz
namespace Nz
open PySem PySem.Spec PyProof.Rows L2
theorem Reps.strs_eq {K : Frag} {mg : Mg} {F : Hp} : ∀ {ns : List Str} {vs : List V}, Reps K mg F (ns.map D.str) vs → vs = ns.map V.str
  | [], _, .nil => rfl
  | _ :: _, _, .cons h r => by cases h; rw [Reps.strs_eq r]; rfl
section
variable {X : Cx} {B : Bd} {S S1 S2 S3 : Nz.S} {tg a b c e : Expr} {es elts : List Expr} {kk : Nat} {tpos pos p q p2 : Pos} {d : D} {ds : List D} {x : Str} {τ : Type} {enc : τ → D}
def chs (z : Str) : List Str := z.cps.toList.map fun c => ⟨#[c]⟩
theorem src_str {z : Str} (h : Ev X B e S (.fr (.str z)) S1) : Src X B tg e S ((chs z).map D.str) S1 := fun F α H σ R RR k => wI.of (pi_str pe_w) (h F α H σ _ RR fun F1 α1 v1 H1 R1 st1 r1 => by
  cases (show Rep X.K X.mg F1 (.str z) v1 from r1) with
  | str =>
    have hlen : ((chs z).map D.str).length = z.cps.size := by simp [chs]
    refine ⟨z, rfl, k F1 α1 H1 _ R1 st1 ⟨fun B F' α H σ S i d R' hs hi => ?_, fun B F' α H σ S i R' hs hi => by rw [hlen] at hi; exact hi⟩⟩
    have hi2 := (List.getElem?_eq_some_iff.mp hi).1
    rw [hlen] at hi2
    refine ⟨hi2, fun x H' y => ?_⟩
    obtain ⟨rfl, c, hc, rfl⟩ := y
    refine ⟨F', R', Same.refl _, ?_⟩
    have e1 : ((chs z).map D.str)[i]? = some (.str ⟨#[c]⟩) := by
      rw [List.getElem?_map]
      unfold chs
      rw [List.getElem?_map, Array.getElem?_toList, hc]; rfl
    rw [e1] at hi
    cases hi
    exact .str _)
def inS (i j : Str) : Bool := !(Builtin.Str.occurrences j i 0 j.length 1).isEmpty
theorem o_inS {i j : Str} : Op2 X (compareOp .In) (.str i) (.str j) (.bl (inS i j)) :=
  .pure (v := .bl (inS i j)) op_in_str (fun _ => .bl _) fun F H Q x y _ rx ry q => by cases rx; cases ry; exact ⟨i, j, rfl, rfl, q⟩
theorem o_ninS {i j : Str} : Op2 X (compareOp .NotIn) (.str i) (.str j) (.bl (!inS i j)) :=
  .pure (v := .bl (!inS i j)) op_notIn_str (fun _ => .bl _) fun F H Q x y _ rx ry q => by cases rx; cases ry; exact ⟨i, j, rfl, rfl, q⟩
end
end Nz
namespace Nz
open PySem PySem.Spec PyProof.Rows L2
def wK (X : Cx) (kws : List Keyword) (σ : L2.St) (H : Hp) (Q : List V → Hp → Prop) : Prop :=
  ∀ pos pins s, Inv X pins σ H s → wpAny (model X.prog X.w) X.A (evalAll ((backToKw pos (keywordEach kws X.env)).map (·.2))) (AP X pins σ Q) X.xe s
theorem wK.of {X : Cx} {kws : List Keyword} {t : TA} (h : PK X kws t) {σ : L2.St} {H : Hp} {Q : List V → Hp → Prop} (q : t σ H Q) : wK X kws σ H Q := fun pos pins s I => h.run pos pins s σ H Q I q
end Nz
namespace Nz
open PySem PySem.Spec PyProof.Rows L2
section
variable {X : Cx} {B : Bd} {S S1 S2 S3 : Nz.S} {tg a b c e o : Expr} {pos apos p q p2 : Pos} {d : D} {ds : List D} {x : Str}
/-- the sign at a place -/
def chA (z : Str) (i : Int) : Str := ⟨#[z.cps.toList.getD i.toNat 0]⟩
theorem ev_ixS {z : Str} {i : Int} (ha : Ev X B a S (.fr (.str z)) S1) (hb : Ev X B b S1 (.fr (.int i)) S2) (hz : z.length ≤ sizeLine) (h0 : 0 ≤ i) (h1 : i < z.length) (hs : PlainIx b := by exact fun _ _ => rfl) (g1 : Sub S.L S1.L := by exact Sub.refl) (g2 : Sub S1.L S2.L := by exact Sub.refl) :
    Ev X B (.Subscript a b pos) S (.fr (.str (chA z i))) S2 :=
  fun F α H σ Q R k => wE.of (pe_ix ix_str pe_w pe_w hs) (ha F α H σ _ R fun F1 α1 v1 H1 R1 st1 r1 => hb F1 α1 H1 σ _ R1 fun F2 α2 v2 H2 R2 st2 r2 => by
    cases r1
    cases r2
    obtain ⟨n, rfl⟩ := Int.eq_ofNat_of_zero_le h0
    have hn : n < z.cps.toList.length := by rw [Array.length_toList]; have : z.length = z.cps.size := rfl; omega
    refine ⟨z, (n : Int), z.cps.toList.getD n 0, rfl, rfl, hz, atI_nat (by rw [List.getD_eq_getElem?_getD, List.getElem?_eq_getElem hn]; rfl), k F2 α2 _ H2 R2 (st1.trans st2 g1) (.str _)⟩)
/-- sep.join(list of texts) -/
theorem ev_join {z : Str} {ys : List Str} (ho : Ev X B o S (.fr (.str z)) S1) (ha : Ev X B e S1 (.fr (eL D.str ys)) S2) (hz : (ys.map (·.length)).sum + ys.length * z.length ≤ 16777216) (g1 : Sub S.L S1.L := by exact Sub.refl)
    (hs : starEach [e] X.env = [(false, eval e X.env)] := by rfl) (hbase : attributeBase o "join" X.env (eval o X.env) = eval o X.env := by rfl) (hline : (apos.endLine == pos.line) = true := by rfl) :
    Ev X B (.Call (.Attribute o "join" apos) [e] [] pos) S (.fr (.str (Txt.join z ys))) S2 :=
  fun F α H σ Q R k => wE.of (pe_join pe_w pe_w hs hbase hline) (ho F α H σ _ R fun F1 α1 v1 H1 R1 st1 r1 => by
    cases r1
    refine ⟨⟨z, rfl⟩, ha F1 α1 H1 σ _ R1 fun F2 α2 v2 H2 R2 st2 r2 => ?_⟩
    obtain ⟨l, us, rfl, hq, rs⟩ := R2.asL (c := .fr (.lst (ys.map D.str))) rfl r2
    rw [Reps.strs_eq rs] at hq
    exact ⟨z, l, ys, rfl, rfl, .inl hq, hz, k F2 α2 _ H2 R2 (st1.trans st2 g1) (.str _)⟩)
end
end Nz
namespace Nz
open PySem PySem.Spec PyProof.Rows L2
end Nz
namespace Nz
open PySem PySem.Spec PyProof.Rows L2
end Nz
namespace Nz
theorem some_of {τ : Type} {y : Option τ} (h : ¬ (y.isNone = true)) : y.isSome = true := by
  cases y with
  | none => exact absurd rfl h
  | some z => rfl
theorem some_of2 {τ : Type} {y : Option τ} (h : ¬ ¬ ¬ (y.isNone = true)) : y.isSome = true := some_of fun z => h fun w => w z
end Nz
namespace Nz
theorem mem_slc {τ : Type} {xs : List τ} {a b : Option Int} {x : τ} (h : x ∈ slcD xs a b) : x ∈ xs := by
  unfold slcD at h
  exact List.mem_of_mem_drop (List.mem_of_mem_take h)
theorem slc_len {τ : Type} {xs : List τ} {a b : Option Int} : (slcD xs a b).length ≤ xs.length := by
  unfold slcD
  rw [List.length_take, List.length_drop]; omega
end Nz
namespace Nz
open PySem PySem.Spec PyProof.Rows L2
end Nz
namespace Nz
open PySem PySem.Spec PyProof.Rows L2
section
variable {X : Cx} {B : Bd} {S S1 S2 : Nz.S} {a b e o : Expr} {es : List Expr} {pos apos p q : Pos} {d d1 : D} {ds xs : List D} {x : Str} {fd : FuncData} {ps : List Str} {k : Nat} {sp : SpN} {f : Addr}
/-- xs[i] = v, the list lives -/
theorem ex_setI {K : Out → Prop} (n : Nat) {i : Int} (he : Ev X B e S (.fr d) S1) (ho : Ev X B o S1 (.ad n) S1) (hi : Ev X B a S1 (.fr (.int i)) S1) (hl : getL n S1.L = some (.fl xs)) (h0 : 0 ≤ i) (h1 : i < xs.length)
    (k : K (.nx ⟨S1.ρ, setL n (.fl (xs.set i.toNat d)) S1.L⟩)) (hs : swapsWithSole [.Subscript o a p] e pos.line X.env = pure false := by rfl) (hw : swappedStores [.Subscript o a p] e X.env = pure none := by rfl)
    (h2 : (assignEach [.Subscript o a p] X.env).map (·.2) = [assign (.Subscript o a p) X.env] := by rfl)
    (hsub : ∀ v, assign (.Subscript o a p) X.env v = (do
      let ov ← holding [v] (eval o X.env)
      let iv ← holding [v, ov] (eval a X.env)
      standAt p
      holding [v, ov, iv] (setItem ov iv v)
      release [v, ov, iv] []) := by intro _; rfl) : Ex X B (.Assign [.Subscript o a p] e pos) S K :=
  fun F α H σ D R oo => wS.of (ps_asg pe_w (pg_sub pe_w pe_w set_list hsub) hs hw h2) (he F α H σ _ R fun F1 α1 v1 H1 R1 st1 r1 => ho F1 α1 H1 σ _ R1 fun F2 α2 v2 H2 R2 st2 r2 => hi F2 α2 H2 σ _ R2 fun F3 α3 v3 H3 R3 st3 r3 => by
    obtain ⟨hn1, rfl⟩ := r2
    cases r3
    have hmm := getL_mem hl
    obtain ⟨f0, f1, vs, e1, rs⟩ := R3.live n _ hmm
    have en : α3 n = α2 n := st3.nm n hn1
    refine ⟨α2 n, vs, i, i.toNat, rfl, rfl, by rw [← en]; exact e1, by unfold ixN; rw [if_pos h0, ← rs.length, if_pos h1], ?_⟩
    have Rp := R3.put (n := n) (u := .fl (xs.set i.toNat d)) (o' := .lst (vs.set i.toNat v1)) hmm ⟨vs.set i.toNat v1, upd_same, rs.set i.toNat (Rep.mono (st2.fro.trans st3.fro) r1)⟩
    rw [en] at Rp
    exact oo.nx _ F3 α3 _ σ k Rp (st1.fro.trans (st2.fro.trans st3.fro)))
end
end Nz
namespace Nz
open PySem PySem.Spec PyProof.Rows L2
section
variable {X : Cx} {B : Bd} {S S1 S2 : Nz.S} {a b e o tg : Expr} {es : List Expr} {pos apos p q : Pos} {d1 : D} {c2 : Ce} {τ : Type} {enc : τ → D} {n : Nat}
/-- xs[i] = v, typed -/
theorem ex_setIT {K : Out → Prop} (n : Nat) {i : Int} {xs : List τ} (v : τ) {d : D} (hd : d = enc v) (hl : getL n S1.L = some (.fl (xs.map enc))) (h0 : 0 ≤ i) (h1 : i < xs.length) (he : Ev X B e S (.fr d) S1) (ho : Ev X B o S1 (.ad n) S1) (hi : Ev X B a S1 (.fr (.int i)) S1)
    (k : K (.nx ⟨S1.ρ, setL n (.fl ((xs.set i.toNat v).map enc)) S1.L⟩)) (hs : swapsWithSole [.Subscript o a p] e pos.line X.env = pure false := by rfl) (hw : swappedStores [.Subscript o a p] e X.env = pure none := by rfl)
    (h2 : (assignEach [.Subscript o a p] X.env).map (·.2) = [assign (.Subscript o a p) X.env] := by rfl)
    (hsub : ∀ v, assign (.Subscript o a p) X.env v = (do
      let ov ← holding [v] (eval o X.env)
      let iv ← holding [v, ov] (eval a X.env)
      standAt p
      holding [v, ov, iv] (setItem ov iv v)
      release [v, ov, iv] []) := by intro _; rfl) : Ex X B (.Assign [.Subscript o a p] e pos) S K := by
  subst hd
  refine ex_setI n he ho hi hl h0 (by rw [List.length_map]; exact h1) ?_ hs hw h2 hsub
  rw [← List.map_set]; exact k
end
end Nz
namespace Nz
open PySem PySem.Spec PyProof.Rows L2
end Nz
namespace Nz
theorem rng_lt {n i y : Nat} (h : (List.range n)[i]? = some y) : y < n := List.mem_range.mp (List.mem_of_getElem? h)
end Nz
namespace Nz
open PySem PySem.Spec PyProof.Rows L2
end Nz
namespace Nz
theorem small_log {i : Int} (h : -1000000 ≤ i ∧ i ≤ 1000000) : i.natAbs.log2 < 1920 := by
  by_cases h0 : i.natAbs = 0
  · rw [h0]; decide
  · have h1 : i.natAbs < 2 ^ 20 := by
      have : (2 : Nat) ^ 20 = 1048576 := by decide
      omega
    have := (Nat.log2_lt h0).mpr h1
    omega
end Nz
namespace Nz
theorem some_of3 {τ : Type} {y : Option τ} {b : Bool} (h : ¬ ¬ ((y.isSome && b) = true)) : y.isSome = true := by
  have := Classical.not_not.mp h
  rw [Bool.and_eq_true] at this
  exact this.1
theorem some_of4 {τ : Type} {y : Option τ} {b : Bool} {q : Prop} (h : ¬ ((¬ ((y.isSome && b) = true)) ∨ q)) : y.isSome = true := some_of3 fun z => h (.inl z)
theorem some_of5 {τ : Type} {y : Option τ} {b : Bool} {q : Prop} (h : ((y.isSome && b) = true)) : y.isSome = true := some_of3 fun z => z h
end Nz
namespace Nz
/-- from the test of a while -/
theorem some_ofW {τ : Type} {y : Option τ} (h : (!y.isNone) = true) : y.isSome = true := by
  cases y with
  | none => exact absurd h (by simp)
  | some z => rfl
end Nz
namespace Nz
open PySem PySem.Spec PyProof.Rows L2
end Nz
namespace Nz
open PySem PySem.Spec PyProof.Rows L2
end Nz
namespace Nz
open PySem PySem.Spec PyProof.Rows L2
end Nz
namespace Nz
open PySem PySem.Spec PyProof.Rows L2
end Nz
namespace Nz
open PySem PySem.Spec PyProof.Rows L2
section
variable {K : Frag} {mg : Mg} {B : Bd} {F F' : Hp} {α : Nat → Addr} {H : Hp} {σ : L2.St} {S : Nz.S}
/-- the ground is moved up -/
def Bd.at (B : Bd) (F : Hp) : Bd := { B with F0 := F }
end
/-- // by any number but 0 -/
def CDivZ (_ j : Int) : Prop := j ≠ 0 ∧ j.natAbs.log2 < 9000
theorem fdivW_of {i j : Int} (h : j ≠ 0) (h2 : -(2 ^ 900) < j ∧ j < 2 ^ 900) : CDivZ i j := ⟨h, Nat.lt_of_lt_of_le (PySem.Flt.log2_lt_of (k := 900) (by decide) (by omega)) (by decide)⟩
end Nz
namespace PySem
open PySem.AutoSeq1
end PySem
namespace L2
open PySem PySem.Spec PyProof.Rows
end L2
namespace Nz
open PySem PySem.Spec PyProof.Rows L2
end Nz
namespace Nz
open PySem PySem.Spec PyProof.Rows L2
end Nz
namespace Nz
open PySem PySem.Spec PyProof.Rows L2
end Nz
namespace Nz
open PySem PySem.Spec PyProof.Rows L2 NdefX
def okD (d : D) : Prop := (∃ i : Int, d = .int i ∧ i.natAbs.log2 < 1920) ∨ ∃ s : Str, d = .str s ∧ s.length ≤ 20000
theorem okD_int {i : Int} (h : -(2 ^ 900) < i ∧ i < 2 ^ 900) : okD (.int i) := .inl ⟨i, rfl, Nat.lt_of_lt_of_le (PySem.Flt.log2_lt_of (k := 900) (by decide) (by omega)) (by decide)⟩
theorem okD_str {s : Str} (h : s.length ≤ 20000) : okD (.str s) := .inr ⟨s, rfl, h⟩
/-- what the ground knows of the error -/
def ExD (K : Frag) (mg : Mg) (F : Hp) (fs : List (Str × D)) (d : Option Addr) : Prop := (fs = [] ∧ d = none) ∨ (fs ≠ [] ∧ ∃ dx vs, d = some dx ∧ F dx = some (.xd vs) ∧ RepF K mg F fs vs)
theorem ExD.mono {K : Frag} {mg : Mg} {F F' : Hp} {fs : List (Str × D)} {d : Option Addr} (h : ExD K mg F fs d) (s : Same F F') : ExD K mg F' fs d := by
  rcases h with h | ⟨h, dx, vs, h1, h2, h3⟩
  · exact .inl h
  · exact .inr ⟨h, dx, vs, h1, s _ _ h2, h3.mono s⟩
end Nz
namespace Nz
open PySem PySem.Spec PyProof.Rows L2
end Nz
namespace Nz
open PySem PySem.Spec PyProof.Rows L2
theorem mulOk_small {x : Str} {n : Int} (h : x.length ≤ 1000) (h0 : 0 ≤ n) (h1 : n ≤ 1000) : MulOk x n := by
  refine ⟨by simp; omega, fun a b => ?_, fun a b => ?_⟩
  · have h2 : (1000 : Int) ≤ (2 ^ 63 - 1) / n := (Int.le_ediv_iff_mul_le (by omega)).mpr (by omega)
    omega
  · have h3 : x.length * n.toNat ≤ 1000 * 1000 := Nat.mul_le_mul h (by omega)
    simp [Builtin.Str.tooLong, sizeLine]; omega
theorem o_muls {X : Cx} {x : Str} {n : Int} (h : MulOk x n) : Op2 X (binaryOp .Mult) (.str x) (.int n) (.str (Txt.mul x n)) :=
  fun B F α H σ S Q x' y' R rx ry k pins s v u I rv ru => by
    cases rx
    cases ry
    obtain ⟨t, rfl⟩ := rv
    obtain ⟨t2, rfl⟩ := ru
    exact SB.mul h fun t' tk => ⟨.str _, H, I.tok _, ⟨_, rfl⟩, k F α _ H R Stp.refl (.str _)⟩
end Nz
namespace Nz
open PySem PySem.Spec PyProof.Rows L2
end Nz
namespace Nz
open PySem PySem.Spec PyProof.Rows L2
end Nz
namespace Nz
open PySem PySem.Spec PyProof.Rows L2
end Nz
namespace Nz
open PySem PySem.Spec PyProof.Rows L2
end Nz
namespace Nz
open PySem PySem.Spec PyProof.Rows L2
open AutoSeq1 (wpAny_loadPart')
open Sem (wp)
end Nz
namespace Nz
open PySem PySem.Spec PyProof.Rows L2
def IsG (t : Bool) (h : Heap) (a : Addr) (items : Array Value) : Prop := match t with | true => h.IsTuple a items | false => h.IsList a items
def ItG (t : Bool) (h : Heap) (it a : Addr) (i : Nat) : Prop := match t with | true => h.IsTupleIter it a i | false => h.IsListIter it a i
theorem ItG.at {t : Bool} {h h' : Heap} {it a : Addr} {i : Nat} (x : ItG t h it a i) (k : ∀ o, h.get? it = some o → h'.get? it = some o) : ItG t h' it a i := by
  cases t
  · exact Heap.IsListIter.at x k
  · exact Heap.IsTupleIter.at x k
theorem ItG.is {t : Bool} {h : Heap} {it a : Addr} {i : Nat} (x : ItG t h it a i) : ∃ o, h.get? it = some o ∧ ∀ v, o.data ≠ .cell v := by
  cases t
  · obtain ⟨o, e, _, d⟩ := x; exact ⟨o, e, fun v q => by rw [d] at q; cases q⟩
  · obtain ⟨o, e, _, d⟩ := x; exact ⟨o, e, fun v q => by rw [d] at q; cases q⟩
theorem IsG.at {t : Bool} {h h' : Heap} {a : Addr} {xs : Array Value} (x : IsG t h a xs) (k : ∀ o, h.get? a = some o → h'.get? a = some o) : IsG t h' a xs := by
  cases t
  · exact Heap.IsList.at x k
  · exact Heap.IsTuple.at x k
end Nz
namespace Nz
open PySem PySem.Spec PyProof.Rows L2
end Nz
namespace PySem
open AutoSeq1
end PySem
namespace Nz
open PySem PySem.Spec PyProof.Rows L2
end Nz
namespace Nz
open PySem PySem.Spec PyProof.Rows L2
end Nz
namespace Nz
open PySem PySem.Spec PyProof.Rows L2
end Nz
namespace L2
open PySem PySem.Spec PyProof.Rows
end L2
namespace Nz
open PySem PySem.Spec PyProof.Rows L2
end Nz
namespace Nz
open PySem PySem.Spec PyProof.Rows L2 SkE TL
abbrev eD : D → D := fun d => d
theorem sum_le_mul {c : Nat} : ∀ ys : List Str, (∀ y ∈ ys, y.length ≤ c) → (ys.map (·.length)).sum ≤ ys.length * c
  | [], _ => Nat.zero_le _
  | a :: r, h => by
    have := sum_le_mul r fun z hz => h z (List.mem_cons_of_mem _ hz)
    have := h a List.mem_cons_self
    rw [List.map_cons, List.sum_cons, List.length_cons, Nat.succ_mul]; omega
theorem tos_le8 {z : Int} (h : z.natAbs < 10 ^ 7) : (Str.ofString (toString z)).length ≤ 8 := by
  rw [PySem.ofString_length]; exact int_text_length_le10 (k := 7) (by decide) h
end Nz
namespace L2
open PySem PySem.Spec PyProof.Rows
end L2
namespace Nz
open PySem PySem.Spec PyProof.Rows L2 SkE TL
end Nz
namespace Nz
open PySem PySem.Spec PyProof.Rows L2
end Nz
namespace Nz
open PySem PySem.Spec PyProof.Rows L2 SkE TL
theorem vals_toks : ∀ (zs : List (Str × Tok)), Vals ((zs.map (·.1)).map V.str) (zs.map fun p => Value.str p.1 p.2)
  | [] => .nil
  | p :: zs => .cons ⟨p.2, rfl⟩ (vals_toks zs)
theorem reps_strs {K : Frag} {mg : Mg} {F : Hp} : ∀ {ys : List Str}, Reps K mg F (ys.map D.str) (ys.map V.str)
  | [] => .nil
  | _ :: _ => .cons (.str _) reps_strs
theorem rep_tupS {K : Frag} {mg : Mg} {a : Addr} {od : Option Addr} {n : Nat} {sl : Array (Option Value)} (zs : List (Str × Tok)) (h : K.lookup a = some ⟨.type "tuple", od, .seq (zs.map fun p => Value.str p.1 p.2).toArray n, sl⟩) (hz : zs.length ≤ sizeLine) (F : Hp) : Rep K mg F (eU D.str (zs.map (·.1))) (.ref a) :=
  .tup (.inr ⟨_, _, n, h, rfl, rfl, by rw [List.size_toArray, List.length_map]; exact hz, by rw [List.toList_toArray]; exact vals_toks zs⟩) reps_strs
section
variable {X : Cx} {B : Bd} {S S1 S2 : Nz.S} {a b o e : Expr} {apos pos p : Pos} {z : Str} {τ : Type} {enc : τ → D}
theorem ev_gt {x : Str} {ad : Addr} {d : D} (hg : Gl X x) (hm : X.mg x = some (.ref ad)) (hr : ∀ F, Rep X.K X.mg F d (.ref ad)) (hd : (x == ("__debug__" : Str)) = false := by decide) : Ev X B (.Name x pos) S (.fr d) S :=
  fun F α H σ Q R k => wE.of (pe_glob (v := .ref ad) hg hm rfl hd) (k F α _ H R Stp.refl (hr F))
theorem ev_splitS {y : Str} (ho : Ev X B o S (.fr (.str z)) S1) (ha : Ev X B e S1 (.fr (.str y)) S2) (hy : (y.length == 0) = false) (hz : z.length + 2 ≤ sizeLine) (g1 : Sub S.L S1.L := by exact Sub.refl)
    (hs : starEach [e] X.env = [(false, eval e X.env)] := by rfl) (hbase : attributeBase o "split" X.env (eval o X.env) = eval o X.env := by rfl) (hline : (apos.endLine == pos.line) = true := by rfl) :
    Ev X B (.Call (.Attribute o "split" apos) [e] [] pos) S (.fr (eL D.str (Txt.split z y))) S2 :=
  fun F α H σ Q R k => wE.of (pe_split pe_w pe_w hs hbase hline) (ho F α H σ _ R fun F1 α1 v1 H1 R1 st1 r1 => by
    cases r1
    refine ⟨⟨z, rfl⟩, ha F1 α1 H1 σ _ R1 fun F2 α2 v2 H2 R2 st2 r2 => ?_⟩
    cases r2
    refine ⟨z, y, rfl, rfl, hy, hz, fun p hp => ?_⟩
    have hf := R2.fresh hp
    exact k _ α2 _ _ (R2.allocF hp) ⟨(st1.trans st2 g1).fro.trans (same_upd hf), (st1.trans st2 g1).nm⟩ (Rep.lst (SqL.of upd_same) reps_strs))
def isStar : Expr → Bool
  | .Starred _ _ => true
  | _ => false
theorem starEach_plain {e : Expr} {rest : List Expr} {env : Env} (h : isStar e = false) : starEach (e :: rest) env = (false, eval e env) :: starEach rest env := by
  cases e <;> first | rfl | cases h
/-- ea_cons without a look at the whole list (many items) -/
theorem ea_consP {S3 : Nz.S} {es : List Expr} {c : Ce} {cs : List Ce} (ha : Ev X B a S c S1) (hr : Ea X B es S1 cs S3) (h1 : Sub S.L S1.L := by exact Sub.refl) (h2 : Sub S1.L S3.L := by exact Sub.refl) (hp : isStar a = false := by rfl) : Ea X B (a :: es) S (c :: cs) S3 :=
  ea_cons ha hr h1 h2 (starEach_plain hp)
theorem ev_tupU {ds : List D} {es : List Expr} {k1} (xs : List τ) (h : Ea X B es S (ds.map Ce.fr) S1) (hd : ds = xs.map enc) (hz : ds.length ≤ sizeLine) : Ev X B (.Tuple es k1 pos) S (.fr (eU enc xs)) S1 := by
  subst hd
  exact ev_tup h hz
theorem c_intS {x : Str} {i : Int} (h : PySem.intText? x = some i) (hl : x.length ≤ 640) : Cb X (.type "int") [.str x] (.int i) := .of call_int_str fun B F α H σ S Q xs R rx k => by
  cases rx with | cons r rr => cases rr; cases r; exact ⟨x, i, rfl, h, hl, k F α _ H R Stp.refl (.int _)⟩
theorem o_inU {n : Nat} {e : τ → D} [DecidableEq τ] (hu : X.A.units + 64 < cLine) (h : EqEnc n e) {x : τ} {ys : List τ} (hn : n ≤ 60 := by decide) : Op2 X (compareOp .In) (e x) (eU e ys) (.bl (decide (x ∈ ys))) :=
  fun B F α H σ S Q v1 v2 R r1 r2 k pins s u1 u2 I q1 q2 => by
    obtain ⟨as, ra⟩ := Dp.reads I _ _ _ (dp_of R.sub _ _ r1 (h.ok x)) q1
    obtain ⟨bs, rb⟩ := Dp.reads I _ _ _ (dp_of R.sub _ _ r2 ((ee_U h).ok ys)) q2
    refine PySem.SeqAt.in_tuple_data (xs := toPs (ys.map e)) rb ra (plain_toPs _) (plain_toP _) ?_ ?_
    · have := h.dep x; have := Nat.min_le_right (PyData.depthAll (toPs (ys.map e))) (toP (e x)).depth; omega
    · rw [toPs_any h]; exact ⟨.bl _, H, I, rfl, k F α _ H R Stp.refl (.bl _)⟩
/-- tuples joined -/
theorem o_catU {xs ys : List τ} (hx : xs ≠ []) (hz : xs.length + ys.length ≤ sizeLine) : Op2 X (binaryOp .Add) (eU enc xs) (eU enc ys) (eU enc (xs ++ ys)) :=
  fun B F α H σ S Q v1 v2 R r1 r2 k pins s u1 u2 I q1 q2 => by
    obtain ⟨p1, vs, rfl, hq, rs⟩ := R.asT r1
    obtain ⟨p2, us, rfl, hq2, rs2⟩ := R.asT r2
    have l1 := rs.length
    have l2 := rs2.length
    rw [List.length_map] at l1 l2
    have hne : vs ≠ [] := fun q => by rw [q, List.length_nil] at l1; exact hx (List.eq_nil_of_length_eq_zero l1)
    refine op_catT pins s σ H _ _ u1 u2 Q I q1 q2 ⟨p1, p2, vs, us, rfl, rfl, hq, hq2, hne, by omega, fun q => ?_, fun q p hp => ?_⟩
    · have : ys = [] := List.eq_nil_of_length_eq_zero (by rw [l2, q]; rfl)
      subst this
      rw [List.append_nil] at k
      exact k F α _ H R Stp.refl r1
    · have hf := R.fresh hp
      refine k _ α _ _ (R.allocF hp) (stp_allocF hf) (.tup (SqT.of upd_same) ?_)
      rw [List.map_append]
      exact (rs.append rs2).mono (same_upd hf)
/-- xs + ys, a new list that lives -/
theorem ev_catN (m : Nat) {xs ys : List τ} {ca cb : Ce} (ha : Ev X B a S ca S1) (hb : Ev X B b S1 cb S2) (hA : AsL S2.L ca (xs.map enc)) (hB : AsL S2.L cb (ys.map enc)) (hz : xs.length + ys.length ≤ sizeLine) (hn : m ∉ names S2.L) (h100 : 100 ≤ m)
    (h1 : Sub S.L S1.L := by exact Sub.refl) (h2 : Sub S1.L S2.L := by exact Sub.refl) : Ev X B (.BinOp a .Add b pos) S (.ad m) ⟨S2.ρ, S2.L ++ [(m, .fl ((xs ++ ys).map enc))]⟩ :=
  fun F α H σ Q R k pins s I => by
    refine wpAny_BinOp (thn (ha F α H σ _ R (fun F1 α1 v1 H1 R1 st1 r1 => hb F1 α1 H1 σ (fun v2 H2 => ∃ F2 α2, RelX X B F2 α2 H2 σ S2 ∧ Stp F α S.L F2 α2 ∧ CR X F2 α2 S2.L ca v1 ∧ CR X F2 α2 S2.L cb v2) R1 fun F2 α2 v2 H2 R2 st2 r2 =>
      ⟨F2, α2, R2, st1.trans st2 h1, CRel.step st2 h2 r1, r2⟩) pins s I) fun v s1 ⟨x, H1, I1, rv, q1⟩ => thn (q1 pins s1 I1) fun u s2 ⟨y, H2, I2, ru, F2, α2, R2, st, r1, r2⟩ => ?_)
    obtain ⟨l1, vs, rfl, hq, rs⟩ := R2.asL hA r1
    obtain ⟨l2, us, rfl, hq2, rs2⟩ := R2.asL hB r2
    cases rv
    cases ru
    obtain ⟨its, r, ⟨⟨cl, od, dt, sl⟩, n, e1, c1, o1, t1⟩, z1⟩ := I2.list hq
    obtain ⟨its2, r2, ⟨⟨cl2, od2, dt2, sl2⟩, n2, e2, c2, o2, t2⟩, z2⟩ := I2.list hq2
    simp only at c1 o1 t1 c2 o2 t2
    subst c1 o1 t1 c2 o2 t2
    have hlen := r.length
    have hlen2 := r2.length
    have g1 := rs.length
    have g2 := rs2.length
    rw [List.length_map] at g1 g2
    have ee : its.toArray ++ its2.toArray = (its ++ its2).toArray := by simp
    refine concat_meets ⟨_, e1, rfl⟩ ⟨_, e2, rfl⟩ noFill_list_add seq_list_add PySem.F.slot_list_add PySem.F.entry_list_add (PySem.F.args_list_add_2 _ _) (list_addW l1 l2 its.toArray its2.toArray n n2 none none sl sl2 (by simp only [List.size_toArray]; omega)) ⟨e1, e2, ?_⟩
    rw [ee]
    have rr : Reps X.K X.mg F2 ((xs ++ ys).map enc) (vs ++ us) := by rw [List.map_append]; exact rs.append rs2
    refine ⟨.ref _, _, I2.lnew (t' := s2.toks) (r.append r2) (by rw [List.length_append]; omega), rfl, k F2 (setα α2 m _) _ _ (R2.allocL I2.fresh hn h100 ⟨_, upd_same, rr⟩) (st.trans (stp_setα hn) fun n h => h2 n (h1 n h)) ⟨?_, ?_⟩⟩
    · rw [names_append]; exact List.mem_append_right _ (List.mem_singleton.mpr rfl)
    · show V.ref _ = V.ref (if m = m then _ else α2 m)
      rw [if_pos rfl]
end
end Nz
namespace Nz
open PySem PySem.Spec PyProof.Rows L2 SkE TL
end Nz
set_option maxRecDepth 100000
set_option maxHeartbeats 4000000
namespace My
open PySem PySem.Spec PyProof.Rows L2 Nz
def top (i : Nat) : Stmt := PySem.Challenge.pw_neverlate_k95_words_of_a_session.main.body.getD i (.Pass ⟨0, 0, 0, 0⟩)
local macro_rules | `(tactic| walk_at "pad") => `(tactic| decide)
local macro_rules | `(tactic| walk_at "okd") => `(tactic| first | exact okD_int (by omega) | exact okD_str (by omega))
local macro_rules | `(tactic| walk_at "intt") => `(tactic| fail)
local macro_rules | `(tactic| walk_at "rep") => `(tactic| omega)
local macro_rules | `(tactic| walk_at "ext") => `(tactic| omega)
local macro_rules | `(tactic| walk_at "lcm") => `(tactic| omega)
local macro_rules | `(tactic| walk_at "fdivw") => `(tactic| exact fdivW_of (by omega) (by omega))
local macro_rules | `(tactic| walk_at "str") => `(tactic| (apply small_log; omega))
local macro_rules | `(tactic| walk_at "scan") => `(tactic| (unfold PySem.scanBound; omega))
local macro_rules | `(tactic| walk_at "mulw") => `(tactic| first | exact mulW_of (by omega) | with_reducible assumption)
local macro_rules | `(tactic| walk_at "divw") => `(tactic| first | exact divW_of (by omega) | with_reducible assumption)
local macro_rules | `(tactic| walk_at "some") => `(tactic| first | assumption | exact some_ofW (by assumption) | exact some_of (by assumption) | exact some_of2 (by assumption) | exact some_of3 (by assumption) | exact some_of4 (by assumption) | exact some_of5 (by assumption) | (simp_all; done))
local macro_rules | `(tactic| walk_at "mem") => `(tactic| first | assumption | exact minL_mem (by walk_at "ne") | exact maxL_mem (by walk_at "ne"))
local macro_rules | `(tactic| walk_at "sd") => `(tactic| first | omega | (have hyy := seq_range (by assumption); omega) | (have hyy := rng_lt (by assumption); omega) | (simp only [List.length_append, List.length_map, List.length_cons, List.length_nil, List.length_range, List.length_replicate] at *; omega) | decide | with_reducible assumption | exact Int.emod_nonneg _ (by omega) | exact Int.emod_lt_of_pos _ (by omega) | (constructor <;> omega) | (refine ⟨?_, ?_⟩ <;> omega))
local macro_rules | `(tactic| walk_at "mul") => `(tactic| first | exact Or.inl ⟨by omega, by omega⟩ | (have hyy := seq_range (by assumption); exact Or.inl ⟨by omega, by omega⟩) | exact Or.inr ⟨by omega, by omega⟩ | with_reducible assumption)
local macro_rules | `(tactic| walk_at "ne") => `(tactic| first | assumption | (intro h; subst h; contradiction) | (intro h; simp only [h, List.isEmpty_nil, not_true_eq_false] at *; done) | (intro h; have := congrArg List.length h; simp only [List.length_map, List.length_range, List.length_nil, List.length_append, List.length_cons] at this; omega) | (simp; done) | (intro h; simp [h] at *; done) | (intro h; simp [h] at *; omega))
local macro_rules | `(tactic| walk_at "pre") => `(tactic| first | omega | with_reducible assumption | (simp only [List.length_map]; omega) | (refine ⟨?_, ?_⟩ <;> first | omega | with_reducible assumption) | (refine ⟨?_, ?_, ?_⟩ <;> first | omega | with_reducible assumption) | (refine ⟨?_, ?_, ?_, ?_⟩ <;> first | omega | with_reducible assumption) | (have hyy := seq_range (by assumption); (repeat' apply And.intro) <;> omega))
abbrev s_law_row : Stmt := top 22
abbrev s_law_numbers : Stmt := top 23
abbrev s_is_name : Stmt := top 4
abbrev s_read_number : Stmt := top 7
abbrev s_split_words : Stmt := top 14
abbrev s_is_number : Stmt := top 15
abbrev s_is_horizon : Stmt := top 18
abbrev s_are_numbers : Stmt := top 19
abbrev s_are_names : Stmt := top 20
abbrev s_is_command : Stmt := top 16
abbrev s_is_block_line : Stmt := top 17
abbrev s_law_word : Stmt := top 24
abbrev s_law_formed : Stmt := top 25
abbrev s_law_is_name : Stmt := top 26
abbrev s_law_is_number : Stmt := top 27
abbrev s_law_all : Stmt := top 28
abbrev s_law_command : Stmt := top 29
abbrev s_law_block : Stmt := top 30
abbrev s_law : Stmt := top 31
structure TX (P : Program) (K : Frag) (mg : Mg) where
  n_abs : mg "abs" = none
  n_all : mg "all" = none
  n_bool : mg "bool" = none
  n_int : mg "int" = none
  n_isinstance : mg "isinstance" = none
  n_len : mg "len" = none
  n_list : mg "list" = none
  n_max : mg "max" = none
  n_range : mg "range" = none
  n_str : mg "str" = none
  A_ALONE : Addr
  c_ALONE : mg "ALONE" = some (.ref A_ALONE)
  r_ALONE : ∀ F : Hp, Rep K mg F (eU D.str [(Str.ofString "undo"), (Str.ofString "redo"), (Str.ofString "answers")]) (.ref A_ALONE)
  t_DIGITS : Tok
  c_DIGITS : mg "DIGITS" = some (.str "0123456789" t_DIGITS)
  t_GREATEST_HORIZON : Tok
  c_GREATEST_HORIZON : mg "GREATEST_HORIZON" = some (.int 1000 t_GREATEST_HORIZON)
  t_LONGEST_NAME : Tok
  c_LONGEST_NAME : mg "LONGEST_NAME" = some (.int 12 t_LONGEST_NAME)
  t_MOST_DIGITS_OF_A_NUMBER : Tok
  c_MOST_DIGITS_OF_A_NUMBER : mg "MOST_DIGITS_OF_A_NUMBER" = some (.int 7 t_MOST_DIGITS_OF_A_NUMBER)
  t_NAME_CHARACTERS : Tok
  c_NAME_CHARACTERS : mg "NAME_CHARACTERS" = some (.str "abcdefghijklmnopqrstuvwxyz0123456789" t_NAME_CHARACTERS)
  A_REMOVED : Addr
  c_REMOVED : mg "REMOVED" = some (.ref A_REMOVED)
  r_REMOVED : ∀ F : Hp, Rep K mg F (eU D.str [(Str.ofString "task"), (Str.ofString "table")]) (.ref A_REMOVED)
  A_SHOWN : Addr
  c_SHOWN : mg "SHOWN" = some (.ref A_SHOWN)
  r_SHOWN : ∀ F : Hp, Rep K mg F (eU D.str [(Str.ofString "tasks"), (Str.ofString "tables"), (Str.ofString "questions")]) (.ref A_SHOWN)
  A_WITH_A_NAME : Addr
  c_WITH_A_NAME : mg "WITH_A_NAME" = some (.ref A_WITH_A_NAME)
  r_WITH_A_NAME : ∀ F : Hp, Rep K mg F (eU D.str [(Str.ofString "task"), (Str.ofString "drop"), (Str.ofString "answer"), (Str.ofString "system")]) (.ref A_WITH_A_NAME)
  a_law_row : Addr
  d_law_row : FuncData
  F_law_row : Fun K "_law_row" "_law_row" s_law_row a_law_row d_law_row
  k_law_row : PySem.W.keepIn K (.ref a_law_row) = true
  m_law_row : mg "_law_row" = some (.ref a_law_row)
  b_law_row : Binds K d_law_row ["cell", "many"] []
  a_law_numbers : Addr
  d_law_numbers : FuncData
  F_law_numbers : Fun K "_law_numbers" "_law_numbers" s_law_numbers a_law_numbers d_law_numbers
  k_law_numbers : PySem.W.keepIn K (.ref a_law_numbers) = true
  m_law_numbers : mg "_law_numbers" = some (.ref a_law_numbers)
  b_law_numbers : Binds K d_law_numbers ["script", "many"] []
  a_is_name : Addr
  d_is_name : FuncData
  F_is_name : Fun K "is_name" "is_name" s_is_name a_is_name d_is_name
  k_is_name : PySem.W.keepIn K (.ref a_is_name) = true
  m_is_name : mg "is_name" = some (.ref a_is_name)
  b_is_name : Binds K d_is_name ["value"] []
  a_read_number : Addr
  d_read_number : FuncData
  F_read_number : Fun K "read_number" "read_number" s_read_number a_read_number d_read_number
  k_read_number : PySem.W.keepIn K (.ref a_read_number) = true
  m_read_number : mg "read_number" = some (.ref a_read_number)
  b_read_number : Binds K d_read_number ["word", "most_digits"] []
  a_split_words : Addr
  d_split_words : FuncData
  F_split_words : Fun K "split_words" "split_words" s_split_words a_split_words d_split_words
  k_split_words : PySem.W.keepIn K (.ref a_split_words) = true
  m_split_words : mg "split_words" = some (.ref a_split_words)
  b_split_words : Binds K d_split_words ["line"] []
  a_is_number : Addr
  d_is_number : FuncData
  F_is_number : Fun K "is_number" "is_number" s_is_number a_is_number d_is_number
  k_is_number : PySem.W.keepIn K (.ref a_is_number) = true
  m_is_number : mg "is_number" = some (.ref a_is_number)
  b_is_number : Binds K d_is_number ["word"] []
  a_is_horizon : Addr
  d_is_horizon : FuncData
  F_is_horizon : Fun K "_is_horizon" "_is_horizon" s_is_horizon a_is_horizon d_is_horizon
  k_is_horizon : PySem.W.keepIn K (.ref a_is_horizon) = true
  m_is_horizon : mg "_is_horizon" = some (.ref a_is_horizon)
  b_is_horizon : Binds K d_is_horizon ["word"] []
  a_are_numbers : Addr
  d_are_numbers : FuncData
  F_are_numbers : Fun K "_are_numbers" "_are_numbers" s_are_numbers a_are_numbers d_are_numbers
  k_are_numbers : PySem.W.keepIn K (.ref a_are_numbers) = true
  m_are_numbers : mg "_are_numbers" = some (.ref a_are_numbers)
  b_are_numbers : Binds K d_are_numbers ["words"] []
  a_are_names : Addr
  d_are_names : FuncData
  F_are_names : Fun K "_are_names" "_are_names" s_are_names a_are_names d_are_names
  k_are_names : PySem.W.keepIn K (.ref a_are_names) = true
  m_are_names : mg "_are_names" = some (.ref a_are_names)
  b_are_names : Binds K d_are_names ["words"] []
  a_is_command : Addr
  d_is_command : FuncData
  F_is_command : Fun K "is_command" "is_command" s_is_command a_is_command d_is_command
  k_is_command : PySem.W.keepIn K (.ref a_is_command) = true
  m_is_command : mg "is_command" = some (.ref a_is_command)
  b_is_command : Binds K d_is_command ["words"] []
  a_is_block_line : Addr
  d_is_block_line : FuncData
  F_is_block_line : Fun K "is_block_line" "is_block_line" s_is_block_line a_is_block_line d_is_block_line
  k_is_block_line : PySem.W.keepIn K (.ref a_is_block_line) = true
  m_is_block_line : mg "is_block_line" = some (.ref a_is_block_line)
  b_is_block_line : Binds K d_is_block_line ["words"] []
  a_law_word : Addr
  d_law_word : FuncData
  F_law_word : Fun K "_law_word" "_law_word" s_law_word a_law_word d_law_word
  k_law_word : PySem.W.keepIn K (.ref a_law_word) = true
  m_law_word : mg "_law_word" = some (.ref a_law_word)
  b_law_word : Binds K d_law_word ["number", "more"] []
  a_law_formed : Addr
  d_law_formed : FuncData
  F_law_formed : Fun K "_law_formed" "_law_formed" s_law_formed a_law_formed d_law_formed
  k_law_formed : PySem.W.keepIn K (.ref a_law_formed) = true
  m_law_formed : mg "_law_formed" = some (.ref a_law_formed)
  b_law_formed : Binds K d_law_formed ["words", "number"] []
  a_law_is_name : Addr
  d_law_is_name : FuncData
  F_law_is_name : Fun K "_law_is_name" "_law_is_name" s_law_is_name a_law_is_name d_law_is_name
  k_law_is_name : PySem.W.keepIn K (.ref a_law_is_name) = true
  m_law_is_name : mg "_law_is_name" = some (.ref a_law_is_name)
  b_law_is_name : Binds K d_law_is_name ["word"] []
  a_law_is_number : Addr
  d_law_is_number : FuncData
  F_law_is_number : Fun K "_law_is_number" "_law_is_number" s_law_is_number a_law_is_number d_law_is_number
  k_law_is_number : PySem.W.keepIn K (.ref a_law_is_number) = true
  m_law_is_number : mg "_law_is_number" = some (.ref a_law_is_number)
  b_law_is_number : Binds K d_law_is_number ["word"] []
  a_law_all : Addr
  d_law_all : FuncData
  F_law_all : Fun K "_law_all" "_law_all" s_law_all a_law_all d_law_all
  k_law_all : PySem.W.keepIn K (.ref a_law_all) = true
  m_law_all : mg "_law_all" = some (.ref a_law_all)
  b_law_all : Binds K d_law_all ["words", "numbers"] []
  a_law_command : Addr
  d_law_command : FuncData
  F_law_command : Fun K "_law_command" "_law_command" s_law_command a_law_command d_law_command
  k_law_command : PySem.W.keepIn K (.ref a_law_command) = true
  m_law_command : mg "_law_command" = some (.ref a_law_command)
  b_law_command : Binds K d_law_command ["words"] []
  a_law_block : Addr
  d_law_block : FuncData
  F_law_block : Fun K "_law_block" "_law_block" s_law_block a_law_block d_law_block
  k_law_block : PySem.W.keepIn K (.ref a_law_block) = true
  m_law_block : mg "_law_block" = some (.ref a_law_block)
  b_law_block : Binds K d_law_block ["words"] []
  a_law : Addr
  d_law : FuncData
  F_law : Fun K "law" "law" s_law a_law d_law
  k_law : PySem.W.keepIn K (.ref a_law) = true
  m_law : mg "law" = some (.ref a_law)
  b_law : Binds K d_law ["script"] []
  e_law : ∀ (s : Shared) (v : Value), BindsTo s d_law ⟨[v], []⟩ [("script", v)]
section
variable {P : Program} {w : World} {K : Frag} {mg : Mg} {base : Heap}
def m_law_row_l0 (cell : Int) (zs0 : (List Int) × Int) (zy0 : Nat) : (List Int) × Int :=
  if (((10 : Int) ^ ((18 : Int)).toNat) ≤ (if cell < 0 then -cell else cell)) then ((zs0.1 ++ [(zs0.2 % (1009 : Int))]), (zs0.2 / (1009 : Int))) else let mixed : Int := (((zs0.2 * (48271 : Int)) + ((((0 : Int) + (zy0 : Int)) + (1 : Int)) * (69621 : Int))) % (2147483647 : Int))
  let mixed : Int := (((mixed * (16807 : Int)) + ((271 : Int) * (((0 : Int) + (zy0 : Int)) + (3 : Int)))) % (2147483629 : Int))
  ((zs0.1 ++ [(mixed % (1009 : Int))]), zs0.2)
def m_law_row (cell : Int) (many : Int) : List Int :=
  let rest1 : Int := (if cell < 0 then -cell else cell)
  ((List.range (many).toNat).foldl (m_law_row_l0 cell) (([] : List Int), rest1)).1
theorem len_row (cell many : Int) : (m_law_row cell many).length = many.toNat := by
  have key : ∀ (n : Nat) (xs : List Nat) (s : List Int × Int), ((xs.foldl (m_law_row_l0 cell) s).1).length = s.1.length + xs.length := by
    intro _ xs
    induction xs with
    | nil => intro s; rfl
    | cons x r ih =>
      intro s
      rw [List.foldl_cons, ih]
      have : ((m_law_row_l0 cell s x).1).length = s.1.length + 1 := by
        unfold m_law_row_l0
        split <;> split <;> simp
      rw [this, List.length_cons]; omega
  have := key 0 (List.range (many).toNat) (([] : List Int), (if cell < 0 then -cell else cell))
  unfold m_law_row
  simpa using this
theorem mem_row (cell many : Int) : ∀ x ∈ m_law_row cell many, 0 ≤ x ∧ x ≤ 1008 := by
  have key : ∀ (xs : List Nat) (s : List Int × Int), (∀ x ∈ s.1, 0 ≤ x ∧ x ≤ 1008) → ∀ x ∈ ((xs.foldl (m_law_row_l0 cell) s).1), 0 ≤ x ∧ x ≤ 1008 := by
    intro xs
    induction xs with
    | nil => intro s h; exact h
    | cons y r ih =>
      intro s h
      rw [List.foldl_cons]
      refine ih _ ?_
      have app : ∀ (v : Int), 0 ≤ v ∧ v ≤ 1008 → ∀ x ∈ s.1 ++ [v], 0 ≤ x ∧ x ≤ 1008 := fun v hv x hx => by
        rcases List.mem_append.mp hx with hx | hx
        · exact h x hx
        · rw [List.mem_singleton.mp hx]; exact hv
      unfold m_law_row_l0
      split <;> split <;> exact app _ (by omega)
  unfold m_law_row
  exact key _ _ (fun x hx => absurd hx (by simp))
theorem sc_law_row : FnScope ["cell", "many", "row", "rest", "k", "mixed"] ["cell", "many"] (defScope s_law_row) := ⟨rfl, rfl, rfl, by decide +kernel, rfl, by decide +kernel, by decide +kernel⟩
def sp_law_row : SpN := fun zcs zL zKc => ∃ cell : Int, ∃ many : Int, zcs = [.fr (D.int cell), .fr (D.int many)] ∧ zL = [] ∧ (0 ≤ many ∧ many ≤ 1001) ∧ ∀ zL', zKc (.fr ((eL D.int) (m_law_row cell many))) zL'
theorem ok_law_row (T : TX P K mg) : FnOk P w K mg base CX0 1 T.a_law_row T.d_law_row ["cell", "many"] (SpOf K mg sp_law_row) := by
  refine T.F_law_row.okN sc_law_row (fun zcs zL zKc zh => by obtain ⟨cell, many, rfl, _⟩ := zh; rfl) fun zcdv zA zout zst zH zE zB zcs zL zKc zhr zh => ?_
  obtain ⟨cell, many, rfl, rfl, hpre, zk⟩ := zh
  have nd := sc_law_row.nd
  have hSL := sizeLine_eq
  show Exs _ _ _ ⟨[some (.fr (D.int cell)), some (.fr (D.int many)), none, none, none, none], []⟩ _
  refine exs_cons (ex_set 2 (ev_lstN 100 (enc := D.int) ([] : List Int) ea_nil rfl (by simp only [List.length_cons, List.length_nil]; decide) (by simp [names]) (by decide)) ?_ nd rfl (.inl rfl))
  show Exs _ _ _ ⟨[some (.fr (D.int cell)), some (.fr (D.int many)), some (.ad 100), none, none, none], [(100, .fl ((([] : List Int)).map D.int))]⟩ _
  refine exs_cons (ex_set 3 (ev_callB (ds := [D.int cell]) c_abs (ea_cons (ev_var 0 rfl (.inl rfl) rfl) ea_nil) (by exact rfl) T.n_abs (by decide +kernel)) ?_ nd rfl (.inl rfl))
  show Exs _ _ _ ⟨[some (.fr (D.int cell)), some (.fr (D.int many)), some (.ad 100), some (.fr (D.int (if cell < 0 then -cell else cell))), none, none], [(100, .fl ((([] : List Int)).map D.int))]⟩ _
  generalize zg_rest : (if cell < 0 then -cell else cell) = rest
  show Exs _ _ _ ⟨[some (.fr (D.int cell)), some (.fr (D.int many)), some (.ad 100), some (.fr (D.int rest)), none, none], [(100, .fl ((([] : List Int)).map D.int))]⟩ _
  refine exs_cons (ex_forF (enc := (fun i : Nat => D.int ((0 : Int) + (i : Int)))) (fun (zs0 : (List Int) × Int) => (⟨[some (.fr (D.int cell)), some (.fr (D.int many)), some (.ad 100), some (.fr (D.int zs0.2)), none, none], [(100, .fl ((zs0.1).map D.int))]⟩ : Nz.S)) (m_law_row_l0 cell) (([] : List Int), rest) (fun (zi0 : Nat) (zs0 : (List Int) × Int) => zs0.1.length ≤ zi0) (src_range1 (ea_cons (ev_var 1 rfl (.inl rfl) rfl) ea_nil) (by exact rfl) T.n_range (by walk_at "sd") (by walk_at "sd")) ⟨⟨.inr rfl, .inr rfl, .inr rfl, .inr rfl, .inl rfl, .inl rfl, trivial⟩, rfl⟩ (by simp) ?_ ?_ PassesOwn.never rfl)
  · intro zi0 zy0 zs0 zhy0 zq0
    skip
    have hi := (List.getElem?_eq_some_iff.mp zhy0).1
    simp only [List.length_range] at hi
    refine ⟨⟨[some (.fr (D.int cell)), some (.fr (D.int many)), some (.ad 100), some (.fr (D.int zs0.2)), some (.fr (D.int ((0 : Int) + (zy0 : Int)))), none], [(100, .fl ((zs0.1).map D.int))]⟩, (eg_name 4 nd rfl (.inl rfl)), ?_⟩
    refine exs_one (ex_ifP bd_d (et_cmp o_ge (ev_callB (ds := [D.int cell]) c_abs (ea_cons (ev_var 0 rfl (.inl rfl) rfl) ea_nil) (by exact rfl) T.n_abs (by decide +kernel)) (ev_bin (o_pow (by unfold CPow; decide)) ev_int ev_int) (nomark _)) (fun (zh1 : (((10 : Int) ^ ((18 : Int)).toNat) ≤ (if cell < 0 then -cell else cell))) => ?_) (fun (zh1 : ¬ (((10 : Int) ^ ((18 : Int)).toNat) ≤ (if cell < 0 then -cell else cell))) => ?_))
    · skip
      refine exs_cons (ex_expr (ev_appendT (n := 100) (enc := D.int) (xs := zs0.1) (xs0 := zs0.1) (zs0.2 % (1009 : Int)) rfl rfl rfl (by walk_at "sd") (ev_var 2 rfl (.inl rfl) rfl) (ev_bin (o_mod (by walk_at "sd")) (ev_var 3 rfl (.inl rfl) rfl) ev_int)) ?_)
      show Exs _ _ _ ⟨[some (.fr (D.int cell)), some (.fr (D.int many)), some (.ad 100), some (.fr (D.int zs0.2)), some (.fr (D.int ((0 : Int) + (zy0 : Int)))), none], [(100, .fl (((zs0.1 ++ [(zs0.2 % (1009 : Int))])).map D.int))]⟩ _
      refine exs_one (ex_set 3 (ev_bin (o_div (by walk_at "sd") (by walk_at "sd")) (ev_var 3 rfl (.inl rfl) rfl) ev_int) ?_ nd rfl (.inl rfl))
      have est : (m_law_row_l0 cell) zs0 zy0 = ((zs0.1 ++ [(zs0.2 % (1009 : Int))]), (zs0.2 / (1009 : Int))) := by simp only [m_law_row_l0, not_true_eq_false, not_false_eq_true, ↓reduceIte, ↓if_pos zh1]
      show Le _ _ ∧ _
      try rw [est]
      exact ⟨⟨⟨.inr rfl, .inr rfl, .inr rfl, .inr rfl, .inl rfl, .inl rfl, trivial⟩, rfl⟩, (by simp; omega)⟩
    · skip
      refine exs_cons (ex_set 5 (ev_bin (o_mod (by walk_at "sd")) (ev_bin o_add (ev_bin (o_mul (by walk_at "mul")) (ev_var 3 rfl (.inl rfl) rfl) ev_int) (ev_bin (o_mul (by walk_at "mul")) (ev_bin o_add (ev_var 4 rfl (.inl rfl) rfl) ev_int) ev_int)) ev_int) ?_ nd rfl (.inl rfl))
      show Exs _ _ _ ⟨[some (.fr (D.int cell)), some (.fr (D.int many)), some (.ad 100), some (.fr (D.int zs0.2)), some (.fr (D.int ((0 : Int) + (zy0 : Int)))), some (.fr (D.int (((zs0.2 * (48271 : Int)) + ((((0 : Int) + (zy0 : Int)) + (1 : Int)) * (69621 : Int))) % (2147483647 : Int))))], [(100, .fl ((zs0.1).map D.int))]⟩ _
      generalize zg_mixed : (((zs0.2 * (48271 : Int)) + ((((0 : Int) + (zy0 : Int)) + (1 : Int)) * (69621 : Int))) % (2147483647 : Int)) = mixed
      show Exs _ _ _ ⟨[some (.fr (D.int cell)), some (.fr (D.int many)), some (.ad 100), some (.fr (D.int zs0.2)), some (.fr (D.int ((0 : Int) + (zy0 : Int)))), some (.fr (D.int mixed))], [(100, .fl ((zs0.1).map D.int))]⟩ _
      refine exs_cons (ex_set 5 (ev_bin (o_mod (by walk_at "sd")) (ev_bin o_add (ev_bin (o_mul (by walk_at "mul")) (ev_var 5 rfl (.inl rfl) rfl) ev_int) (ev_bin (o_mul (by walk_at "mul")) ev_int (ev_bin o_add (ev_var 4 rfl (.inl rfl) rfl) ev_int))) ev_int) ?_ nd rfl (.inl rfl))
      show Exs _ _ _ ⟨[some (.fr (D.int cell)), some (.fr (D.int many)), some (.ad 100), some (.fr (D.int zs0.2)), some (.fr (D.int ((0 : Int) + (zy0 : Int)))), some (.fr (D.int (((mixed * (16807 : Int)) + ((271 : Int) * (((0 : Int) + (zy0 : Int)) + (3 : Int)))) % (2147483629 : Int))))], [(100, .fl ((zs0.1).map D.int))]⟩ _
      generalize zg_mixed1 : (((mixed * (16807 : Int)) + ((271 : Int) * (((0 : Int) + (zy0 : Int)) + (3 : Int)))) % (2147483629 : Int)) = mixed1
      show Exs _ _ _ ⟨[some (.fr (D.int cell)), some (.fr (D.int many)), some (.ad 100), some (.fr (D.int zs0.2)), some (.fr (D.int ((0 : Int) + (zy0 : Int)))), some (.fr (D.int mixed1))], [(100, .fl ((zs0.1).map D.int))]⟩ _
      refine exs_one (ex_expr (ev_appendT (n := 100) (enc := D.int) (xs := zs0.1) (xs0 := zs0.1) (mixed1 % (1009 : Int)) rfl rfl rfl (by walk_at "sd") (ev_var 2 rfl (.inl rfl) rfl) (ev_bin (o_mod (by walk_at "sd")) (ev_var 5 rfl (.inl rfl) rfl) ev_int)) ?_)
      have est : (m_law_row_l0 cell) zs0 zy0 = ((zs0.1 ++ [(mixed1 % (1009 : Int))]), zs0.2) := by subst zg_mixed1; subst zg_mixed; simp only [m_law_row_l0, not_true_eq_false, not_false_eq_true, ↓reduceIte, ↓if_neg zh1]
      show Le _ _ ∧ _
      try rw [est]
      exact ⟨⟨⟨.inr rfl, .inr rfl, .inr rfl, .inr rfl, .inl rfl, .inl rfl, trivial⟩, rfl⟩, (by simp; omega)⟩
  · intro zq0
    show Exs _ _ _ ⟨[some (.fr (D.int cell)), some (.fr (D.int many)), some (.ad 100), some (.fr (D.int (((List.range (many).toNat).foldl (m_law_row_l0 cell) (([] : List Int), rest)).2))), none, none], [(100, .fl ((((List.range (many).toNat).foldl (m_law_row_l0 cell) (([] : List Int), rest)).1).map D.int))]⟩ _
    refine exs_freezeT 100 (xs := ((List.range (many).toNat).foldl (m_law_row_l0 cell) (([] : List Int), rest)).1) (enc := D.int) (by exact rfl) ?_
    show Exs _ _ _ ⟨[some (.fr (D.int cell)), some (.fr (D.int many)), some (.fr ((eL D.int) (((List.range (many).toNat).foldl (m_law_row_l0 cell) (([] : List Int), rest)).1))), some (.fr (D.int (((List.range (many).toNat).foldl (m_law_row_l0 cell) (([] : List Int), rest)).2))), none, none], []⟩ _
    refine exs_one (ex_ret (ev_var 2 rfl (.inl rfl) rfl) ?_)
    have efin : m_law_row cell many = ((List.range (many).toNat).foldl (m_law_row_l0 cell) (([] : List Int), rest)).1 := by subst zg_rest; simp only [m_law_row, not_true_eq_false, not_false_eq_true, ↓reduceIte]
    rw [efin] at zk
    exact zk _
def m_law_numbers_l1 (zs1 : (List Int)) (zy1 : Int) : (List Int) :=
  (zs1 ++ [zy1])
def m_law_numbers_l0 (each : Int) (zs0 : (List Int)) (zy0 : Int) : (List Int) :=
  ((m_law_row zy0 each).foldl (m_law_numbers_l1) zs0)
def m_law_numbers_c2 (many : Int) (zs0 : (List Int)) : Bool := (decide ((zs0.length : Int) < many))
def m_law_numbers_w2 (many : Int) (zs0 : (List Int)) : (List Int) :=
  (zs0 ++ [(0 : Int)])
def m_law_numbers (script : List Int) (many : Int) : List Int :=
  let cells1 : List Int := (slcD script none (some (63 : Int)))
  let each1 : Int := ((1 : Int) + (many / (if (cells1.length : Int) > (1 : Int) then (cells1.length : Int) else (1 : Int))))
  (slcD (iterW (m_law_numbers_c2 many) (m_law_numbers_w2 many) ((many).toNat) (cells1.foldl (m_law_numbers_l0 each1) ([] : List Int))) none (some many))
theorem cut63_len (xs : List Int) : (slcD xs none (some (63 : Int))).length ≤ 63 := by
  unfold slcD
  rw [List.length_take, HT.sIx_none, show (63 : Int) = ((63 : Nat) : Int) from rfl, HT.sIx_nat]
  omega
theorem fold_app (xs s : List Int) : xs.foldl m_law_numbers_l1 s = s ++ xs := by
  induction xs generalizing s with
  | nil => simp
  | cons x r ih => rw [List.foldl_cons, ih]; unfold m_law_numbers_l1; simp
theorem fill_eq (many : Int) : ∀ (n : Nat) (s : List Int), (many - (s.length : Int)).toNat ≤ n → iterW (m_law_numbers_c2 many) (m_law_numbers_w2 many) n s = s ++ List.replicate (many - (s.length : Int)).toNat 0
  | 0, s, h => by
    have e : (many - (s.length : Int)).toNat = 0 := by omega
    rw [e]; simp [iterW]
  | n + 1, s, h => by
    unfold iterW
    by_cases hc : (s.length : Int) < many
    · have e : (many - (s.length : Int)).toNat = (many - ((s ++ [(0 : Int)]).length : Int)).toNat + 1 := by
        simp only [List.length_append, List.length_cons, List.length_nil]; omega
      rw [if_pos (by simpa [m_law_numbers_c2] using hc)]
      show iterW _ _ n (s ++ [(0 : Int)]) = _
      rw [fill_eq many n _ (by simp only [List.length_append, List.length_cons, List.length_nil] at e ⊢; omega), e, List.replicate_succ, List.append_assoc]
      rfl
    · have e : (many - (s.length : Int)).toNat = 0 := by omega
      rw [if_neg (by simpa [m_law_numbers_c2] using hc), e]; simp
theorem numbers_facts (script : List Int) (many : Int) (h0 : 0 ≤ many) : (m_law_numbers script many).length = many.toNat ∧ ∀ x ∈ m_law_numbers script many, 0 ≤ x ∧ x ≤ 1008 := by
  have key : ∀ (each : Int) (xs s : List Int), (∀ x ∈ s, 0 ≤ x ∧ x ≤ 1008) → ∀ x ∈ xs.foldl (m_law_numbers_l0 each) s, 0 ≤ x ∧ x ≤ 1008 := by
    intro each xs
    induction xs with
    | nil => intro s h; exact h
    | cons y r ih =>
      intro s h
      rw [List.foldl_cons]
      refine ih _ fun x hx => ?_
      unfold m_law_numbers_l0 at hx
      rw [fold_app] at hx
      rcases List.mem_append.mp hx with hx | hx
      · exact h x hx
      · exact mem_row _ _ x hx
  unfold m_law_numbers
  dsimp only
  generalize hS : (slcD script none (some (63 : Int))).foldl _ _ = S
  have hm : ∀ x ∈ S, 0 ≤ x ∧ x ≤ 1008 := by rw [← hS]; exact key _ _ _ (fun x hx => absurd hx (by simp))
  rw [fill_eq many _ S (by omega)]
  unfold slcD
  rw [HT.sIx_none, List.drop_zero]
  have hl : (S ++ List.replicate (many - (S.length : Int)).toNat (0 : Int)).length = S.length + (many - (S.length : Int)).toNat := by simp
  have e1 : HT.sIx (S ++ List.replicate (many - (S.length : Int)).toNat (0 : Int)).length (S ++ List.replicate (many - (S.length : Int)).toNat (0 : Int)).length (some many) = many.toNat := by
    obtain ⟨n, rfl⟩ := Int.eq_ofNat_of_zero_le h0
    rw [HT.sIx_nat, hl]
    omega
  rw [e1]
  refine ⟨by rw [List.length_take, hl]; omega, fun x hx => ?_⟩
  have hx := List.mem_of_mem_take hx
  rcases List.mem_append.mp hx with hx | hx
  · exact hm x hx
  · rw [(List.mem_replicate.mp hx).2]; omega
theorem getD_bound {xs : List Int} (h : ∀ x ∈ xs, 0 ≤ x ∧ x ≤ 1008) (i : Nat) : 0 ≤ xs.getD i default ∧ xs.getD i default ≤ 1008 := by
  rw [List.getD_eq_getElem?_getD]
  cases e : xs[i]? with
  | none => exact ⟨Int.le_refl _, by decide⟩
  | some v => exact h v (List.mem_of_getElem? e)
theorem sc_law_numbers : FnScope ["script", "many", "cells", "each", "numbers", "cell", "number"] ["script", "many"] (defScope s_law_numbers) := ⟨rfl, rfl, rfl, by decide +kernel, rfl, by decide +kernel, by decide +kernel⟩
def sp_law_numbers : SpN := fun zcs zL zKc => ∃ script : List Int, ∃ many : Int, zcs = [.fr ((eL D.int) script), .fr (D.int many)] ∧ zL = [] ∧ (script.length ≤ 63 ∧ 0 ≤ many ∧ many ≤ 1000) ∧ ∀ zL', zKc (.fr ((eL D.int) (m_law_numbers script many))) zL'
theorem ok_law_numbers (T : TX P K mg) : FnOk P w K mg base CX0 2 T.a_law_numbers T.d_law_numbers ["script", "many"] (SpOf K mg sp_law_numbers) := by
  have O_law_row := ok_law_row (P := P) (w := w) (base := base) T
  refine T.F_law_numbers.okN sc_law_numbers (fun zcs zL zKc zh => by obtain ⟨script, many, rfl, _⟩ := zh; rfl) fun zcdv zA zout zst zH zE zB zcs zL zKc zhr zh => ?_
  obtain ⟨script, many, rfl, rfl, hpre, zk⟩ := zh
  have nd := sc_law_numbers.nd
  have hSL := sizeLine_eq
  show Exs _ _ _ ⟨[some (.fr ((eL D.int) script)), some (.fr (D.int many)), none, none, none, none, none], []⟩ _
  refine exs_cons (ex_set 2 (ev_sliceT (enc := D.int) (xs := script) (by exact rfl) (ev_var 0 rfl (.inl rfl) rfl) eo_none (eo_some ev_int)) ?_ nd rfl (.inl rfl))
  show Exs _ _ _ ⟨[some (.fr ((eL D.int) script)), some (.fr (D.int many)), some (.fr ((eL D.int) (slcD script none (some (63 : Int))))), none, none, none, none], []⟩ _
  generalize zg_cells : (slcD script none (some (63 : Int))) = cells
  show Exs _ _ _ ⟨[some (.fr ((eL D.int) script)), some (.fr (D.int many)), some (.fr ((eL D.int) cells)), none, none, none, none], []⟩ _
  have hcl : cells.length ≤ 63 := by rw [← zg_cells]; exact cut63_len script
  refine exs_cons (ex_set 3 (ev_bin o_add ev_int (ev_bin (o_div (by walk_at "sd") (by walk_at "sd")) (ev_var 1 rfl (.inl rfl) rfl) (ev_callB (ds := [D.int (1 : Int), D.int (cells.length : Int)]) (c_max2 rfl) (ea_cons ev_int (ea_cons (ev_len (ln_L (xs := cells) (enc := D.int) (by exact rfl)) (ev_var 2 rfl (.inl rfl) rfl) (by exact rfl) T.n_len) ea_nil)) (by exact rfl) T.n_max (by decide +kernel)))) ?_ nd rfl (.inl rfl))
  show Exs _ _ _ ⟨[some (.fr ((eL D.int) script)), some (.fr (D.int many)), some (.fr ((eL D.int) cells)), some (.fr (D.int ((1 : Int) + (many / (if (cells.length : Int) > (1 : Int) then (cells.length : Int) else (1 : Int)))))), none, none, none], []⟩ _
  generalize zg_each : ((1 : Int) + (many / (if (cells.length : Int) > (1 : Int) then (cells.length : Int) else (1 : Int)))) = each
  show Exs _ _ _ ⟨[some (.fr ((eL D.int) script)), some (.fr (D.int many)), some (.fr ((eL D.int) cells)), some (.fr (D.int each)), none, none, none], []⟩ _
  have heach : 1 ≤ each ∧ each ≤ 1001 := by rw [← zg_each]; split <;> (constructor <;> first | omega | (have := Int.ediv_le_self (cells.length : Int) hpre.2.1; have := Int.ediv_nonneg hpre.2.1 (show (0:Int) ≤ (cells.length : Int) by omega); omega))
  refine exs_cons (ex_set 4 (ev_lstN 100 (enc := D.int) ([] : List Int) ea_nil rfl (by simp only [List.length_cons, List.length_nil]; decide) (by simp [names]) (by decide)) ?_ nd rfl (.inl rfl))
  show Exs _ _ _ ⟨[some (.fr ((eL D.int) script)), some (.fr (D.int many)), some (.fr ((eL D.int) cells)), some (.fr (D.int each)), some (.ad 100), none, none], [(100, .fl ((([] : List Int)).map D.int))]⟩ _
  refine exs_cons (ex_forF (enc := D.int) (fun (zs0 : (List Int)) => (⟨[some (.fr ((eL D.int) script)), some (.fr (D.int many)), some (.fr ((eL D.int) cells)), some (.fr (D.int each)), some (.ad 100), none, none], [(100, .fl ((zs0).map D.int))]⟩ : Nz.S)) (m_law_numbers_l0 each) ([] : List Int) (fun (zi0 : Nat) (zs0 : (List Int)) => zs0.length ≤ 1001 * zi0) (src_listT (ev_var 2 rfl (.inl rfl) rfl)) ⟨⟨.inr rfl, .inr rfl, .inr rfl, .inr rfl, .inr rfl, .inl rfl, .inl rfl, trivial⟩, rfl⟩ (by simp) ?_ ?_ PassesOwn.never rfl)
  · intro zi0 zy0 zs0 zhy0 zq0
    skip
    have hi := (List.getElem?_eq_some_iff.mp zhy0).1
    have hrl := len_row zy0 each
    refine ⟨⟨[some (.fr ((eL D.int) script)), some (.fr (D.int many)), some (.fr ((eL D.int) cells)), some (.fr (D.int each)), some (.ad 100), some (.fr (D.int zy0)), none], [(100, .fl ((zs0).map D.int))]⟩, (eg_name 5 nd rfl (.inl rfl)), ?_⟩
    refine exs_one (ex_forF (enc := D.int) (fun (zs1 : (List Int)) => (⟨[some (.fr ((eL D.int) script)), some (.fr (D.int many)), some (.fr ((eL D.int) cells)), some (.fr (D.int each)), some (.ad 100), some (.fr (D.int zy0)), none], [(100, .fl ((zs1).map D.int))]⟩ : Nz.S)) (m_law_numbers_l1) zs0 (fun (zi1 : Nat) (zs1 : (List Int)) => zs1.length ≤ 1001 * zi0 + zi1) (src_listT (ev_call (ds := [D.int zy0, D.int each]) (ds' := []) (dvs := []) (dfs := []) O_law_row (zhr.mono (by decide)) T.m_law_row T.k_law_row T.b_law_row .nil (fun _ => .nil) (ea_cons (ev_var 5 rfl (.inl rfl) rfl) (ea_cons (ev_var 3 rfl (.inl rfl) rfl) ea_nil)) (fun _ zkk => ⟨zy0, each, rfl, rfl, (by walk_at "pre"), zkk⟩) (by exact rfl))) ⟨⟨.inr rfl, .inr rfl, .inr rfl, .inr rfl, .inr rfl, .inr rfl, .inl rfl, trivial⟩, rfl⟩ (by omega) ?_ ?_ PassesOwn.never rfl)
    · intro zi1 zy1 zs1 zhy1 zq1
      skip
      have hi1 := (List.getElem?_eq_some_iff.mp zhy1).1
      refine ⟨⟨[some (.fr ((eL D.int) script)), some (.fr (D.int many)), some (.fr ((eL D.int) cells)), some (.fr (D.int each)), some (.ad 100), some (.fr (D.int zy0)), some (.fr (D.int zy1))], [(100, .fl ((zs1).map D.int))]⟩, (eg_name 6 nd rfl (.inl rfl)), ?_⟩
      refine exs_one (ex_expr (ev_appendT (n := 100) (enc := D.int) (xs := zs1) (xs0 := zs1) zy1 rfl rfl rfl (by walk_at "sd") (ev_var 4 rfl (.inl rfl) rfl) (ev_var 6 rfl (.inl rfl) rfl)) ?_)
      have est : (m_law_numbers_l1) zs1 zy1 = (zs1 ++ [zy1]) := by simp only [m_law_numbers_l1, not_true_eq_false, not_false_eq_true, ↓reduceIte]
      show Le _ _ ∧ _
      try rw [est]
      exact ⟨⟨⟨.inr rfl, .inr rfl, .inr rfl, .inr rfl, .inr rfl, .inr rfl, .inl rfl, trivial⟩, rfl⟩, (by simp; omega)⟩
    · intro zq1
      have est : (m_law_numbers_l0 each) zs0 zy0 = ((m_law_row zy0 each).foldl (m_law_numbers_l1) zs0) := by simp only [m_law_numbers_l0, not_true_eq_false, not_false_eq_true, ↓reduceIte]
      show Le _ _ ∧ _
      try rw [est]
      exact ⟨⟨⟨.inr rfl, .inr rfl, .inr rfl, .inr rfl, .inr rfl, .inl rfl, .inl rfl, trivial⟩, rfl⟩, (by omega)⟩
  · intro zq0
    show Exs _ _ _ ⟨[some (.fr ((eL D.int) script)), some (.fr (D.int many)), some (.fr ((eL D.int) cells)), some (.fr (D.int each)), some (.ad 100), none, none], [(100, .fl (((cells.foldl (m_law_numbers_l0 each) ([] : List Int))).map D.int))]⟩ _
    refine exs_cons (ex_whileF (fun (zs0 : (List Int)) => (⟨[some (.fr ((eL D.int) script)), some (.fr (D.int many)), some (.fr ((eL D.int) cells)), some (.fr (D.int each)), some (.ad 100), none, none], [(100, .fl ((zs0).map D.int))]⟩ : Nz.S)) (m_law_numbers_c2 many) (m_law_numbers_w2 many) (cells.foldl (m_law_numbers_l0 each) ([] : List Int)) ((many).toNat) (fun (zs0 : (List Int)) => zs0.length ≤ 100000) (fun (zs0 : (List Int)) => (many - (zs0.length : Int)).toNat) ⟨⟨.inr rfl, .inr rfl, .inr rfl, .inr rfl, .inr rfl, .inl rfl, .inl rfl, trivial⟩, rfl⟩ (by omega) (by walk_at "sd") ?_ ?_ ?_ ?_ PassesOwn.never)
    · intro zs0 zq0 zhc0
      simp only [m_law_numbers_c2, decide_eq_true_eq] at zhc0
      simp only [m_law_numbers_w2, List.length_append, List.length_cons, List.length_nil]
      exact ⟨by omega, by omega⟩
    · intro zs0 zq0
      exact (et_cmp o_lt (ev_len (ln_L (xs := zs0) (enc := D.int) (by exact rfl)) (ev_var 4 rfl (.inl rfl) rfl) (by exact rfl) T.n_len) (ev_var 1 rfl (.inl rfl) rfl) (nomark _))
    · intro zs0 zq0 zhc0
      simp only [m_law_numbers_c2, decide_eq_true_eq] at zhc0
      show Exs _ _ _ ⟨[some (.fr ((eL D.int) script)), some (.fr (D.int many)), some (.fr ((eL D.int) cells)), some (.fr (D.int each)), some (.ad 100), none, none], [(100, .fl ((zs0).map D.int))]⟩ _
      refine exs_one (ex_expr (ev_appendT (n := 100) (enc := D.int) (xs := zs0) (xs0 := zs0) (0 : Int) rfl rfl rfl (by walk_at "sd") (ev_var 4 rfl (.inl rfl) rfl) ev_int) ?_)
      have est : (m_law_numbers_w2 many) zs0 = (zs0 ++ [(0 : Int)]) := by simp only [m_law_numbers_w2, ↓reduceIte]
      show Le _ _ ∧ _
      rw [est]
      exact ⟨⟨⟨.inr rfl, .inr rfl, .inr rfl, .inr rfl, .inr rfl, .inl rfl, .inl rfl, trivial⟩, rfl⟩, trivial⟩
    · intro zq0 zhc0
      show Exs _ _ _ ⟨[some (.fr ((eL D.int) script)), some (.fr (D.int many)), some (.fr ((eL D.int) cells)), some (.fr (D.int each)), some (.ad 100), none, none], [(100, .fl (((iterW (m_law_numbers_c2 many) (m_law_numbers_w2 many) ((many).toNat) (cells.foldl (m_law_numbers_l0 each) ([] : List Int)))).map D.int))]⟩ _
      refine exs_one (ex_ret (ev_sliceT (enc := D.int) (xs := (iterW (m_law_numbers_c2 many) (m_law_numbers_w2 many) ((many).toNat) (cells.foldl (m_law_numbers_l0 each) ([] : List Int)))) (by exact rfl) (ev_var 4 rfl (.inl rfl) rfl) eo_none (eo_some (ev_var 1 rfl (.inl rfl) rfl))) ?_)
      have efin : m_law_numbers script many = (slcD (iterW (m_law_numbers_c2 many) (m_law_numbers_w2 many) ((many).toNat) (cells.foldl (m_law_numbers_l0 each) ([] : List Int))) none (some many)) := by subst zg_each; subst zg_cells; simp only [m_law_numbers, not_true_eq_false, not_false_eq_true, ↓reduceIte]
      rw [efin] at zk
      exact zk _
def m_is_name (value : Str) : Bool :=
  if ((¬ (true = true)) ∨ (¬ (((1 : Int) ≤ (value.length : Int)) ∧ ((value.length : Int) ≤ (12 : Int))))) then false else (((chs value).map (fun zc2 : Str => (inS zc2 (Str.ofString "abcdefghijklmnopqrstuvwxyz0123456789")))).all fun b => b)
theorem chs_len (z : Str) : (chs z).length = z.length := by unfold chs; rw [List.length_map, Array.length_toList]; rfl
theorem sc_is_name : FnScope ["value", "character"] ["value"] (defScope s_is_name) := ⟨rfl, rfl, rfl, by decide +kernel, rfl, by decide +kernel, by decide +kernel⟩
def sp_is_name : SpN := fun zcs zL zKc => ∃ value : Str, zcs = [.fr (D.str value)] ∧ zL = [] ∧ (value.length ≤ 1000) ∧ ∀ zL', zKc (.fr (D.bl (m_is_name value))) zL'
theorem ok_is_name (T : TX P K mg) : FnOk P w K mg base CX0 1 T.a_is_name T.d_is_name ["value"] (SpOf K mg sp_is_name) := by
  refine T.F_is_name.okN sc_is_name (fun zcs zL zKc zh => by obtain ⟨value, rfl, _⟩ := zh; rfl) fun zcdv zA zout zst zH zE zB zcs zL zKc zhr zh => ?_
  obtain ⟨value, rfl, rfl, hpre, zk⟩ := zh
  have nd := sc_is_name.nd
  have hSL := sizeLine_eq
  have hch := chs_len value
  show Exs _ _ _ ⟨[some (.fr (D.str value)), none], []⟩ _
  refine exs_cons (ex_ifP (bd_or (bd_not Iff.rfl) (bd_not (bd_and bd_d bd_d))) (Ew.et (ew_orP (bd_not Iff.rfl) (et_not (et_val (ev_isi (T := "str") (b := true) (ev_var 0 rfl (.inl rfl) rfl) rfl (by decide) (by exact rfl) T.n_isinstance (by exact rfl) T.n_str (by decide +kernel)))) (fun zhp => (ew_or1 (et_not (et_chain bd_d o_le o_le ev_int (ev_len (.s (by walk_at "sd")) (ev_var 0 rfl (.inl rfl) rfl) (by exact rfl) T.n_len) (fun zhp => (ev_gi rfl T.c_LONGEST_NAME)))))))) (fun (zh1 : ((¬ (true = true)) ∨ (¬ (((1 : Int) ≤ (value.length : Int)) ∧ ((value.length : Int) ≤ (12 : Int)))))) => ?_) (fun (zh1 : ¬ ((¬ (true = true)) ∨ (¬ (((1 : Int) ≤ (value.length : Int)) ∧ ((value.length : Int) ≤ (12 : Int)))))) => ?_))
  · skip
    refine exs_one (ex_ret ev_bl ?_)
    have efin : m_is_name value = false := by simp only [m_is_name, not_true_eq_false, not_false_eq_true, ↓reduceIte, ↓if_pos zh1]
    rw [efin] at zk
    exact zk _
  · skip
    refine exs_nil ?_
    show Exs _ _ _ ⟨[some (.fr (D.str value)), none], []⟩ _
    refine exs_one (ex_ret (ev_callB (ds := [(eL D.bl) ((chs value).map (fun zc1 : Str => (inS zc1 (Str.ofString "abcdefghijklmnopqrstuvwxyz0123456789"))))]) (c_all (bs := ((chs value).map (fun zc1 : Str => (inS zc1 (Str.ofString "abcdefghijklmnopqrstuvwxyz0123456789"))))) rfl) (ea_cons (ev_lcM (enc2 := D.bl) 199 (fun zc1 : Str => (inS zc1 (Str.ofString "abcdefghijklmnopqrstuvwxyz0123456789"))) _ rfl nd (blkOk_by (N := ["value", "character"]) (sc := defScope s_is_name) (own := [(("character" : Str), 1)]) (by decide +kernel)) (src_str (ev_var 0 rfl (.inl rfl) rfl)) (by simp [names]) (by decide) (by walk_at "sd") (fun _ zc1 _ zhyzc1 _ _ _ _ _ => (eg_nameC 1 nd rfl (.inl rfl) (by decide) (.inr rfl))) (fun _ zc1 _ zhyzc1 _ _ _ _ _ => (ev_cmp o_inS (ev_var 1 rfl (.inl rfl) rfl) (ev_gs rfl T.c_NAME_CHARACTERS) (by rfl)))) ea_nil) (by exact rfl) T.n_all (by decide +kernel)) ?_)
    have efin : m_is_name value = (((chs value).map (fun zc1 : Str => (inS zc1 (Str.ofString "abcdefghijklmnopqrstuvwxyz0123456789")))).all fun b => b) := by simp only [m_is_name, not_true_eq_false, not_false_eq_true, ↓reduceIte, ↓if_neg zh1]
    rw [efin] at zk
    exact zk _
def m_read_number (word : Str) (most_digits : Int) : Option Int :=
  if (¬ (((1 : Int) ≤ (word.length : Int)) ∧ ((word.length : Int) ≤ most_digits))) then (none : Option Int) else if (¬ ((((chs word).map (fun zc2 : Str => (inS zc2 (Str.ofString "0123456789")))).all fun b => b) = true)) then (none : Option Int) else if (((chA word (0 : Int)) = (Str.ofString "0")) ∧ ((1 : Int) < (word.length : Int))) then (none : Option Int) else (some ((PySem.intText? word).getD 0))
theorem getD_mem {τ : Type} [Inhabited τ] {xs : List τ} {i : Nat} (h : i < xs.length) : xs.getD i default ∈ xs := by
  rw [List.getD_eq_getElem?_getD, List.getElem?_eq_getElem h]
  exact List.getElem_mem h
theorem dig_cps : (Str.ofString "0123456789").cps.toList = [48, 49, 50, 51, 52, 53, 54, 55, 56, 57] := by decide +kernel
theorem in_sign (z : Str) (c : Nat) : inS (⟨#[c]⟩ : Str) z = decide (c ∈ z.cps.toList) := PySem.StrLaws.found_one z c
theorem dig_in {c : Nat} : inS (⟨#[c]⟩ : Str) (Str.ofString "0123456789") = true ↔ 48 ≤ c ∧ c ≤ 57 := by
  rw [in_sign, decide_eq_true_eq, dig_cps]
  simp only [List.mem_cons, List.not_mem_nil, or_false]
  omega
theorem all_chs {w : Str} {p : Str → Bool} : ((chs w).map p).all (fun b => b) = true ↔ ∀ c ∈ w.cps.toList, p (⟨#[c]⟩ : Str) = true := by
  unfold chs
  rw [List.all_eq_true]
  constructor
  · intro h c hc
    exact h _ (List.mem_map.mpr ⟨_, List.mem_map.mpr ⟨c, hc, rfl⟩, rfl⟩)
  · intro h b hb
    obtain ⟨z, hz, rfl⟩ := List.mem_map.mp hb
    obtain ⟨c, hc, rfl⟩ := List.mem_map.mp hz
    exact h c hc
theorem word_int {w : Str} (h : ((chs w).map (fun zc2 : Str => (inS zc2 (Str.ofString "0123456789")))).all (fun b => b) = true) (h1 : 1 ≤ w.length) (h2 : w.length ≤ 100) : PySem.intText? w = some ((PySem.intText? w).getD 0) := by
  have hd := all_chs.mp h
  have e := PySem.intText_digits (x := w) (fun c hc => dig_in.mp (hd c hc)) (fun q => by
    have : w.cps.toList.length = w.length := Array.length_toList
    rw [q, List.length_nil] at this; omega) (by omega)
  rw [e]; rfl
set_option hygiene false in
local macro_rules | `(tactic| walk_at "intt") => `(tactic| first | exact word_int (Classical.not_not.mp (by assumption)) (by omega) (by omega) | fail)
theorem sc_read_number : FnScope ["word", "most_digits", "character"] ["word", "most_digits"] (defScope s_read_number) := ⟨rfl, rfl, rfl, by decide +kernel, rfl, by decide +kernel, by decide +kernel⟩
def sp_read_number : SpN := fun zcs zL zKc => ∃ word : Str, ∃ most_digits : Int, zcs = [.fr (D.str word), .fr (D.int most_digits)] ∧ zL = [] ∧ (word.length ≤ 100 ∧ most_digits = 7) ∧ ∀ zL', zKc (.fr ((eO D.int) (m_read_number word most_digits))) zL'
theorem ok_read_number (T : TX P K mg) : FnOk P w K mg base CX0 1 T.a_read_number T.d_read_number ["word", "most_digits"] (SpOf K mg sp_read_number) := by
  refine T.F_read_number.okN sc_read_number (fun zcs zL zKc zh => by obtain ⟨word, most_digits, rfl, _⟩ := zh; rfl) fun zcdv zA zout zst zH zE zB zcs zL zKc zhr zh => ?_
  obtain ⟨word, most_digits, rfl, rfl, hpre, zk⟩ := zh
  have nd := sc_read_number.nd
  have hSL := sizeLine_eq
  have hch := chs_len word
  show Exs _ _ _ ⟨[some (.fr (D.str word)), some (.fr (D.int most_digits)), none], []⟩ _
  refine exs_cons (ex_ifP (bd_not (bd_and bd_d bd_d)) (et_not (et_chain bd_d o_le o_le ev_int (ev_len (.s (by walk_at "sd")) (ev_var 0 rfl (.inl rfl) rfl) (by exact rfl) T.n_len) (fun zhp => (ev_var 1 rfl (.inl rfl) rfl)))) (fun (zh1 : (¬ (((1 : Int) ≤ (word.length : Int)) ∧ ((word.length : Int) ≤ most_digits)))) => ?_) (fun (zh1 : ¬ (¬ (((1 : Int) ≤ (word.length : Int)) ∧ ((word.length : Int) ≤ most_digits)))) => ?_))
  · skip
    refine exs_one (ex_ret ev_non ?_)
    have efin : m_read_number word most_digits = (none : Option Int) := by first | (simp only [m_read_number, not_true_eq_false, not_false_eq_true, ↓reduceIte, ↓if_pos zh1]; done) | (first | exact absurd rfl zh1)
    rw [efin] at zk
    exact zk _
  · skip
    refine exs_nil ?_
    show Exs _ _ _ ⟨[some (.fr (D.str word)), some (.fr (D.int most_digits)), none], []⟩ _
    refine exs_cons (ex_ifP (bd_not Iff.rfl) (et_not (et_val (ev_callB (ds := [(eL D.bl) ((chs word).map (fun zc1 : Str => (inS zc1 (Str.ofString "0123456789"))))]) (c_all (bs := ((chs word).map (fun zc1 : Str => (inS zc1 (Str.ofString "0123456789"))))) rfl) (ea_cons (ev_lcM (enc2 := D.bl) 199 (fun zc1 : Str => (inS zc1 (Str.ofString "0123456789"))) _ rfl nd (blkOk_by (N := ["word", "most_digits", "character"]) (sc := defScope s_read_number) (own := [(("character" : Str), 2)]) (by decide +kernel)) (src_str (ev_var 0 rfl (.inl rfl) rfl)) (by simp [names]) (by decide) (by walk_at "sd") (fun _ zc1 _ zhyzc1 _ _ _ _ _ => (eg_nameC 2 nd rfl (.inl rfl) (by decide) (.inr rfl))) (fun _ zc1 _ zhyzc1 _ _ _ _ _ => (ev_cmp o_inS (ev_var 2 rfl (.inl rfl) rfl) (ev_gs rfl T.c_DIGITS) (by rfl)))) ea_nil) (by exact rfl) T.n_all (by decide +kernel)))) (fun (zh2 : (¬ ((((chs word).map (fun zc1 : Str => (inS zc1 (Str.ofString "0123456789")))).all fun b => b) = true))) => ?_) (fun (zh2 : ¬ (¬ ((((chs word).map (fun zc1 : Str => (inS zc1 (Str.ofString "0123456789")))).all fun b => b) = true))) => ?_))
    · skip
      refine exs_one (ex_ret ev_non ?_)
      have efin : m_read_number word most_digits = (none : Option Int) := by first | (simp only [m_read_number, not_true_eq_false, not_false_eq_true, ↓reduceIte, ↓if_neg zh1, ↓if_pos zh2]; done) | (first | exact absurd rfl zh2)
      rw [efin] at zk
      exact zk _
    · skip
      refine exs_nil ?_
      show Exs _ _ _ ⟨[some (.fr (D.str word)), some (.fr (D.int most_digits)), none], []⟩ _
      refine exs_cons (ex_ifP (bd_and bd_d bd_d) (Ew.et (ew_andP bd_d (et_cmp o_eqs (ev_ixS (ev_var 0 rfl (.inl rfl) rfl) ev_int (by walk_at "sd") (by walk_at "sd") (by walk_at "sd")) ev_str (nomark _)) (fun zhp => (ew_and1 (et_cmp o_gt (ev_len (.s (by walk_at "sd")) (ev_var 0 rfl (.inl rfl) rfl) (by exact rfl) T.n_len) ev_int (nomark _)))))) (fun (zh3 : (((chA word (0 : Int)) = (Str.ofString "0")) ∧ ((1 : Int) < (word.length : Int)))) => ?_) (fun (zh3 : ¬ (((chA word (0 : Int)) = (Str.ofString "0")) ∧ ((1 : Int) < (word.length : Int)))) => ?_))
      · skip
        refine exs_one (ex_ret ev_non ?_)
        have efin : m_read_number word most_digits = (none : Option Int) := by simp only [m_read_number, not_true_eq_false, not_false_eq_true, ↓reduceIte, ↓if_neg zh1, ↓if_neg zh2, ↓if_pos zh3]
        rw [efin] at zk
        exact zk _
      · skip
        refine exs_nil ?_
        show Exs _ _ _ ⟨[some (.fr (D.str word)), some (.fr (D.int most_digits)), none], []⟩ _
        refine exs_one (ex_ret (ev_callTy (ds := [D.str word]) (c_intS (x := word) (i := (PySem.intText? word).getD 0) (by walk_at "intt") (by walk_at "sd")) (ea_cons (ev_var 0 rfl (.inl rfl) rfl) ea_nil) (by exact rfl) T.n_int (by decide +kernel)) ?_)
        have efin : m_read_number word most_digits = (some ((PySem.intText? word).getD 0)) := by simp only [m_read_number, not_true_eq_false, not_false_eq_true, ↓reduceIte, ↓if_neg zh1, ↓if_neg zh2, ↓if_neg zh3]
        rw [efin] at zk
        exact zk _
def m_split_words (line : Str) : List Str :=
  (((Txt.split line (Str.ofString " ")).filter (fun zc2 : Str => (!decide (zc2 = (Str.ofString ""))))).map (fun zc2 : Str => zc2))
theorem spl_len (S : List Nat) : ∀ (l : List Nat) (k : Nat) (acc : List Nat), (TL.spl S k acc l).length ≤ l.length + 1
  | [], k, acc => by rw [TL.spl_nil]; simp
  | c :: r, k + 1, acc => by
    have := spl_len S r k acc
    show (TL.spl S k acc r).length ≤ r.length + 1 + 1
    omega
  | c :: r, 0, acc => by
    cases h : TL.pre S (c :: r) with
    | true => rw [TL.spl_hit h]; have := spl_len S r (S.length - 1) []; simp only [List.length_cons]; omega
    | false => rw [TL.spl_miss h]; have := spl_len S r 0 (acc ++ [c]); simp only [List.length_cons]; omega
theorem split_len (x : Str) : (Txt.split x (Str.ofString " ")).length ≤ x.length + 1 := by
  have e := TL.split_spl x (Str.ofString " ") (by decide +kernel) (TL.kind_ok (by decide +kernel))
  have h := congrArg List.length e
  rw [List.length_map] at h
  have := spl_len (TL.tl (Str.ofString " ")) (TL.tl x) 0 []
  have := TL.len_tl x
  omega
set_option hygiene false in
local macro_rules | `(tactic| walk_at "sd") => `(tactic| first | (have hsl := split_len line; omega) | fail)
theorem sc_split_words : FnScope ["line", "word"] ["line"] (defScope s_split_words) := ⟨rfl, rfl, rfl, by decide +kernel, rfl, by decide +kernel, by decide +kernel⟩
def sp_split_words : SpN := fun zcs zL zKc => ∃ line : Str, zcs = [.fr (D.str line)] ∧ zL = [] ∧ (line.length ≤ 10000) ∧ ∀ zL', zKc (.fr ((eL D.str) (m_split_words line))) zL'
theorem ok_split_words (T : TX P K mg) : FnOk P w K mg base CX0 1 T.a_split_words T.d_split_words ["line"] (SpOf K mg sp_split_words) := by
  refine T.F_split_words.okN sc_split_words (fun zcs zL zKc zh => by obtain ⟨line, rfl, _⟩ := zh; rfl) fun zcdv zA zout zst zH zE zB zcs zL zKc zhr zh => ?_
  obtain ⟨line, rfl, rfl, hpre, zk⟩ := zh
  have nd := sc_split_words.nd
  have hSL := sizeLine_eq
  show Exs _ _ _ ⟨[some (.fr (D.str line)), none], []⟩ _
  refine exs_one (ex_ret (ev_lcF (enc2 := D.str) 199 (fun zc1 : Str => zc1) (fun zc1 : Str => (!decide (zc1 = (Str.ofString "")))) _ rfl nd (blkOk_by (N := ["line", "word"]) (sc := defScope s_split_words) (own := [(("word" : Str), 1)]) (by decide +kernel)) (src_listT (ev_splitS (z := line) (y := (Str.ofString " ")) (ev_var 0 rfl (.inl rfl) rfl) ev_str (by decide +kernel) (by walk_at "sd"))) (by simp [names]) (by decide) (by walk_at "sd") (fun _ zc1 _ zhyzc1 _ _ _ _ _ => (eg_nameC 1 nd rfl (.inl rfl) (by decide) (.inr rfl))) (fun _ zc1 _ zhyzc1 _ _ _ _ _ => (et_cmp o_nes (ev_var 1 rfl (.inl rfl) rfl) ev_str (nomark _))) (fun _ zc1 _ zhyzc1 zhpzc1 _ _ _ _ _ => (ev_var 1 rfl (.inl rfl) rfl))) ?_)
  have efin : m_split_words line = (((Txt.split line (Str.ofString " ")).filter (fun zc1 : Str => (!decide (zc1 = (Str.ofString ""))))).map (fun zc1 : Str => zc1)) := by simp only [m_split_words, not_true_eq_false, not_false_eq_true, ↓reduceIte]
  rw [efin] at zk
  exact zk _
def m_is_number (word : Str) : Bool :=
  (!(m_read_number word (7 : Int)).isNone)
theorem num_int {w : Str} (h : m_is_number w = true) : PySem.intText? w = some ((PySem.intText? w).getD 0) ∧ w.length ≤ 7 := by
  unfold m_is_number m_read_number at h
  by_cases q1 : ¬ (((1 : Int) ≤ (w.length : Int)) ∧ ((w.length : Int) ≤ (7 : Int)))
  · rw [if_pos q1] at h; cases h
  · rw [if_neg q1] at h
    have q1 := Classical.not_not.mp q1
    by_cases q2 : ¬ ((((chs w).map (fun zc2 : Str => (inS zc2 (Str.ofString "0123456789")))).all fun b => b) = true)
    · rw [if_pos q2] at h; cases h
    · exact ⟨word_int (Classical.not_not.mp q2) (by omega) (by omega), by omega⟩
set_option hygiene false in
local macro_rules | `(tactic| walk_at "intt") => `(tactic| first | exact (num_int (by assumption)).1 | fail)
set_option hygiene false in
local macro_rules | `(tactic| walk_at "pre") => `(tactic| first | exact ⟨hpre, rfl⟩ | fail)
theorem sc_is_number : FnScope ["word"] ["word"] (defScope s_is_number) := ⟨rfl, rfl, rfl, by decide +kernel, rfl, by decide +kernel, by decide +kernel⟩
def sp_is_number : SpN := fun zcs zL zKc => ∃ word : Str, zcs = [.fr (D.str word)] ∧ zL = [] ∧ (word.length ≤ 100) ∧ ∀ zL', zKc (.fr (D.bl (m_is_number word))) zL'
theorem ok_is_number (T : TX P K mg) : FnOk P w K mg base CX0 2 T.a_is_number T.d_is_number ["word"] (SpOf K mg sp_is_number) := by
  have O_read_number := ok_read_number (P := P) (w := w) (base := base) T
  refine T.F_is_number.okN sc_is_number (fun zcs zL zKc zh => by obtain ⟨word, rfl, _⟩ := zh; rfl) fun zcdv zA zout zst zH zE zB zcs zL zKc zhr zh => ?_
  obtain ⟨word, rfl, rfl, hpre, zk⟩ := zh
  have nd := sc_is_number.nd
  have hSL := sizeLine_eq
  show Exs _ _ _ ⟨[some (.fr (D.str word))], []⟩ _
  refine exs_one (ex_ret (ev_cmp (o_nisO (enc := D.int) (y := (m_read_number word (7 : Int))) (fun _ => rfl)) (ev_call (ds := [D.str word, D.int (7 : Int)]) (ds' := []) (dvs := []) (dfs := []) O_read_number (zhr.mono (by decide)) T.m_read_number T.k_read_number T.b_read_number .nil (fun _ => .nil) (ea_cons (ev_var 0 rfl (.inl rfl) rfl) (ea_cons (ev_gi rfl T.c_MOST_DIGITS_OF_A_NUMBER) ea_nil)) (fun _ zkk => ⟨word, (7 : Int), rfl, rfl, (by walk_at "pre"), zkk⟩) (by exact rfl)) ev_non (by rfl)) ?_)
  have efin : m_is_number word = (!(m_read_number word (7 : Int)).isNone) := by simp only [m_is_number, not_true_eq_false, not_false_eq_true, ↓reduceIte]
  rw [efin] at zk
  exact zk _
def m_is_horizon (word : Str) : Bool :=
  ((m_is_number word) && ((decide ((1 : Int) ≤ ((PySem.intText? word).getD 0))) && (decide (((PySem.intText? word).getD 0) ≤ (1000 : Int)))))
theorem sc_is_horizon : FnScope ["word"] ["word"] (defScope s_is_horizon) := ⟨rfl, rfl, rfl, by decide +kernel, rfl, by decide +kernel, by decide +kernel⟩
def sp_is_horizon : SpN := fun zcs zL zKc => ∃ word : Str, zcs = [.fr (D.str word)] ∧ zL = [] ∧ (word.length ≤ 100) ∧ ∀ zL', zKc (.fr (D.bl (m_is_horizon word))) zL'
theorem ok_is_horizon (T : TX P K mg) : FnOk P w K mg base CX0 3 T.a_is_horizon T.d_is_horizon ["word"] (SpOf K mg sp_is_horizon) := by
  have O_is_number := ok_is_number (P := P) (w := w) (base := base) T
  refine T.F_is_horizon.okN sc_is_horizon (fun zcs zL zKc zh => by obtain ⟨word, rfl, _⟩ := zh; rfl) fun zcdv zA zout zst zH zE zB zcs zL zKc zhr zh => ?_
  obtain ⟨word, rfl, rfl, hpre, zk⟩ := zh
  have nd := sc_is_horizon.nd
  have hSL := sizeLine_eq
  show Exs _ _ _ ⟨[some (.fr (D.str word))], []⟩ _
  refine exs_one (ex_ret (ev_andP Iff.rfl (ev_call (ds := [D.str word]) (ds' := []) (dvs := []) (dfs := []) O_is_number (zhr.mono (by decide)) T.m_is_number T.k_is_number T.b_is_number .nil (fun _ => .nil) (ea_cons (ev_var 0 rfl (.inl rfl) rfl) ea_nil) (fun _ zkk => ⟨word, rfl, rfl, (by walk_at "pre"), zkk⟩) (by exact rfl)) (fun zhp => (ev_one (ev_chain bd_d o_le o_le ev_int (ev_callTy (ds := [D.str word]) (c_intS (x := word) (i := (PySem.intText? word).getD 0) (by walk_at "intt") (by walk_at "sd")) (ea_cons (ev_var 0 rfl (.inl rfl) rfl) ea_nil) (by exact rfl) T.n_int (by decide +kernel)) (fun zhp => (ev_gi rfl T.c_GREATEST_HORIZON)))))) ?_)
  have efin : m_is_horizon word = ((m_is_number word) && ((decide ((1 : Int) ≤ ((PySem.intText? word).getD 0))) && (decide (((PySem.intText? word).getD 0) ≤ (1000 : Int))))) := by simp only [m_is_horizon, not_true_eq_false, not_false_eq_true, ↓reduceIte]
  rw [efin] at zk
  exact zk _
def m_are_numbers (words : List Str) : Bool :=
  ((words.map (fun zc2 : Str => (m_is_number zc2))).all fun b => b)
set_option hygiene false in
local macro_rules | `(tactic| walk_at "pre") => `(tactic| first | exact hpre.2 _ (List.mem_of_getElem? (by assumption)) | exact Nat.le_trans (hpre.2 _ (List.mem_of_getElem? (by assumption))) (by decide) | fail)
theorem sc_are_numbers : FnScope ["words", "word"] ["words"] (defScope s_are_numbers) := ⟨rfl, rfl, rfl, by decide +kernel, rfl, by decide +kernel, by decide +kernel⟩
def sp_are_numbers : SpN := fun zcs zL zKc => ∃ words : List Str, zcs = [.fr ((eL D.str) words)] ∧ zL = [] ∧ (words.length ≤ 100 ∧ ∀ w ∈ words, w.length ≤ 100) ∧ ∀ zL', zKc (.fr (D.bl (m_are_numbers words))) zL'
theorem ok_are_numbers (T : TX P K mg) : FnOk P w K mg base CX0 3 T.a_are_numbers T.d_are_numbers ["words"] (SpOf K mg sp_are_numbers) := by
  have O_is_number := ok_is_number (P := P) (w := w) (base := base) T
  refine T.F_are_numbers.okN sc_are_numbers (fun zcs zL zKc zh => by obtain ⟨words, rfl, _⟩ := zh; rfl) fun zcdv zA zout zst zH zE zB zcs zL zKc zhr zh => ?_
  obtain ⟨words, rfl, rfl, hpre, zk⟩ := zh
  have nd := sc_are_numbers.nd
  have hSL := sizeLine_eq
  show Exs _ _ _ ⟨[some (.fr ((eL D.str) words)), none], []⟩ _
  refine exs_one (ex_ret (ev_callB (ds := [(eL D.bl) (words.map (fun zc1 : Str => (m_is_number zc1)))]) (c_all (bs := (words.map (fun zc1 : Str => (m_is_number zc1)))) rfl) (ea_cons (ev_lcM (enc2 := D.bl) 199 (fun zc1 : Str => (m_is_number zc1)) _ rfl nd (blkOk_by (N := ["words", "word"]) (sc := defScope s_are_numbers) (own := [(("word" : Str), 1)]) (by decide +kernel)) (src_listT (ev_var 0 rfl (.inl rfl) rfl)) (by simp [names]) (by decide) (by walk_at "sd") (fun _ zc1 _ zhyzc1 _ _ _ _ _ => (eg_nameC 1 nd rfl (.inl rfl) (by decide) (.inr rfl))) (fun _ zc1 _ zhyzc1 _ _ _ _ _ => (ev_call (ds := [D.str zc1]) (ds' := []) (dvs := []) (dfs := []) O_is_number (zhr.mono (by decide)) T.m_is_number T.k_is_number T.b_is_number .nil (fun _ => .nil) (ea_cons (ev_var 1 rfl (.inl rfl) rfl) ea_nil) (fun _ zkk => ⟨zc1, rfl, rfl, (by walk_at "pre"), zkk⟩) (by exact rfl)))) ea_nil) (by exact rfl) T.n_all (by decide +kernel)) ?_)
  have efin : m_are_numbers words = ((words.map (fun zc1 : Str => (m_is_number zc1))).all fun b => b) := by simp only [m_are_numbers, not_true_eq_false, not_false_eq_true, ↓reduceIte]
  rw [efin] at zk
  exact zk _
def m_are_names (words : List Str) : Bool :=
  ((words.map (fun zc2 : Str => (m_is_name zc2))).all fun b => b)
set_option hygiene false in
local macro_rules | `(tactic| walk_at "pre") => `(tactic| first | exact hpre.2 _ (List.mem_of_getElem? (by assumption)) | exact Nat.le_trans (hpre.2 _ (List.mem_of_getElem? (by assumption))) (by decide) | fail)
theorem sc_are_names : FnScope ["words", "word"] ["words"] (defScope s_are_names) := ⟨rfl, rfl, rfl, by decide +kernel, rfl, by decide +kernel, by decide +kernel⟩
def sp_are_names : SpN := fun zcs zL zKc => ∃ words : List Str, zcs = [.fr ((eL D.str) words)] ∧ zL = [] ∧ (words.length ≤ 100 ∧ ∀ w ∈ words, w.length ≤ 100) ∧ ∀ zL', zKc (.fr (D.bl (m_are_names words))) zL'
theorem ok_are_names (T : TX P K mg) : FnOk P w K mg base CX0 2 T.a_are_names T.d_are_names ["words"] (SpOf K mg sp_are_names) := by
  have O_is_name := ok_is_name (P := P) (w := w) (base := base) T
  refine T.F_are_names.okN sc_are_names (fun zcs zL zKc zh => by obtain ⟨words, rfl, _⟩ := zh; rfl) fun zcdv zA zout zst zH zE zB zcs zL zKc zhr zh => ?_
  obtain ⟨words, rfl, rfl, hpre, zk⟩ := zh
  have nd := sc_are_names.nd
  have hSL := sizeLine_eq
  show Exs _ _ _ ⟨[some (.fr ((eL D.str) words)), none], []⟩ _
  refine exs_one (ex_ret (ev_callB (ds := [(eL D.bl) (words.map (fun zc1 : Str => (m_is_name zc1)))]) (c_all (bs := (words.map (fun zc1 : Str => (m_is_name zc1)))) rfl) (ea_cons (ev_lcM (enc2 := D.bl) 199 (fun zc1 : Str => (m_is_name zc1)) _ rfl nd (blkOk_by (N := ["words", "word"]) (sc := defScope s_are_names) (own := [(("word" : Str), 1)]) (by decide +kernel)) (src_listT (ev_var 0 rfl (.inl rfl) rfl)) (by simp [names]) (by decide) (by walk_at "sd") (fun _ zc1 _ zhyzc1 _ _ _ _ _ => (eg_nameC 1 nd rfl (.inl rfl) (by decide) (.inr rfl))) (fun _ zc1 _ zhyzc1 _ _ _ _ _ => (ev_call (ds := [D.str zc1]) (ds' := []) (dvs := []) (dfs := []) O_is_name (zhr.mono (by decide)) T.m_is_name T.k_is_name T.b_is_name .nil (fun _ => .nil) (ea_cons (ev_var 1 rfl (.inl rfl) rfl) ea_nil) (fun _ zkk => ⟨zc1, rfl, rfl, (by walk_at "pre"), zkk⟩) (by exact rfl)))) ea_nil) (by exact rfl) T.n_all (by decide +kernel)) ?_)
  have efin : m_are_names words = ((words.map (fun zc1 : Str => (m_is_name zc1))).all fun b => b) := by simp only [m_are_names, not_true_eq_false, not_false_eq_true, ↓reduceIte]
  rw [efin] at zk
  exact zk _
def m_is_command (words : List Str) : Bool :=
  let word1 : Str := (words.getD ((0 : Int)).toNat default)
  let rest1 : List Str := (slcD words (some (1 : Int)) none)
  if (word1 ∈ [(Str.ofString "undo"), (Str.ofString "redo"), (Str.ofString "answers")]) then (decide ((rest1.length : Int) = (0 : Int))) else if (word1 ∈ [(Str.ofString "task"), (Str.ofString "drop"), (Str.ofString "answer"), (Str.ofString "system")]) then ((decide ((rest1.length : Int) = (1 : Int))) && (m_is_name (rest1.getD ((0 : Int)).toNat default))) else if (word1 = (Str.ofString "show")) then ((decide ((rest1.length : Int) = (1 : Int))) && (decide ((rest1.getD ((0 : Int)).toNat default) ∈ [(Str.ofString "tasks"), (Str.ofString "tables"), (Str.ofString "questions")]))) else if (word1 = (Str.ofString "remove")) then ((decide ((rest1.length : Int) = (2 : Int))) && ((decide ((rest1.getD ((0 : Int)).toNat default) ∈ [(Str.ofString "task"), (Str.ofString "table")])) && (m_is_name (rest1.getD ((1 : Int)).toNat default)))) else if (word1 = (Str.ofString "table")) then ((decide ((2 : Int) ≤ (rest1.length : Int))) && ((m_is_name (rest1.getD ((0 : Int)).toNat default)) && (m_are_numbers (slcD rest1 (some (1 : Int)) none)))) else if (word1 = (Str.ofString "ask")) then ((decide ((3 : Int) ≤ (rest1.length : Int))) && ((m_is_name (rest1.getD ((0 : Int)).toNat default)) && ((m_is_horizon (rest1.getD ((1 : Int)).toNat default)) && (m_are_names (slcD rest1 (some (2 : Int)) none))))) else false
set_option hygiene false in
local macro_rules | `(tactic| walk_at "pre") => `(tactic| first | exact ⟨by have := slc_len (xs := rest) (a := some (1 : Int)) (b := none); have := slc_len (xs := rest) (a := some (2 : Int)) (b := none); have := slc_len (xs := rest) (a := none) (b := some (2 : Int)); omega, fun w hw => hrm w (mem_slc hw)⟩ | exact ⟨by have := slc_len (xs := words) (a := some (2 : Int)) (b := none); have := slc_len (xs := words) (a := some (1 : Int)) (b := some (3 : Int)); omega, fun w hw => hrm w (mem_slc hw)⟩ | exact hrm _ (getD_mem (by omega)) | exact Nat.le_trans (hrm _ (getD_mem (by omega))) (by decide) | fail)
theorem sc_is_command : FnScope ["words", "word", "rest"] ["words"] (defScope s_is_command) := ⟨rfl, rfl, rfl, by decide +kernel, rfl, by decide +kernel, by decide +kernel⟩
def sp_is_command : SpN := fun zcs zL zKc => ∃ words : List Str, zcs = [.fr ((eL D.str) words)] ∧ zL = [] ∧ (0 < words.length ∧ words.length ≤ 100 ∧ ∀ w ∈ words, w.length ≤ 100) ∧ ∀ zL', zKc (.fr (D.bl (m_is_command words))) zL'
theorem ok_is_command (T : TX P K mg) : FnOk P w K mg base CX0 4 T.a_is_command T.d_is_command ["words"] (SpOf K mg sp_is_command) := by
  have O_are_names := ok_are_names (P := P) (w := w) (base := base) T
  have O_are_numbers := ok_are_numbers (P := P) (w := w) (base := base) T
  have O_is_horizon := ok_is_horizon (P := P) (w := w) (base := base) T
  have O_is_name := ok_is_name (P := P) (w := w) (base := base) T
  refine T.F_is_command.okN sc_is_command (fun zcs zL zKc zh => by obtain ⟨words, rfl, _⟩ := zh; rfl) fun zcdv zA zout zst zH zE zB zcs zL zKc zhr zh => ?_
  obtain ⟨words, rfl, rfl, hpre, zk⟩ := zh
  have nd := sc_is_command.nd
  have hSL := sizeLine_eq
  show Exs _ _ _ ⟨[some (.fr ((eL D.str) words)), none, none], []⟩ _
  refine exs_cons (ex_set 1 (ev_ix (ix_L (xs := words) (enc := D.str) (by exact rfl) (by walk_at "sd") (by walk_at "sd")) (ev_var 0 rfl (.inl rfl) rfl) ev_int) ?_ nd rfl (.inl rfl))
  show Exs _ _ _ ⟨[some (.fr ((eL D.str) words)), some (.fr (D.str (words.getD ((0 : Int)).toNat default))), none], []⟩ _
  generalize zg_word : (words.getD ((0 : Int)).toNat default) = word
  show Exs _ _ _ ⟨[some (.fr ((eL D.str) words)), some (.fr (D.str word)), none], []⟩ _
  refine exs_cons (ex_set 2 (ev_sliceT (enc := D.str) (xs := words) (by exact rfl) (ev_var 0 rfl (.inl rfl) rfl) (eo_some ev_int) eo_none) ?_ nd rfl (.inl rfl))
  show Exs _ _ _ ⟨[some (.fr ((eL D.str) words)), some (.fr (D.str word)), some (.fr ((eL D.str) (slcD words (some (1 : Int)) none)))], []⟩ _
  generalize zg_rest : (slcD words (some (1 : Int)) none) = rest
  show Exs _ _ _ ⟨[some (.fr ((eL D.str) words)), some (.fr (D.str word)), some (.fr ((eL D.str) rest))], []⟩ _
  have hrm : ∀ w ∈ rest, w.length ≤ 100 := by rw [← zg_rest]; exact fun w hw => hpre.2.2 w (mem_slc hw)
  have hrl : rest.length ≤ 100 := by rw [← zg_rest]; exact Nat.le_trans slc_len hpre.2.1
  refine exs_cons (ex_ifP bd_d (et_cmp (o_inU (e := D.str) (x := word) (ys := [(Str.ofString "undo"), (Str.ofString "redo"), (Str.ofString "answers")]) zhr.units ee_str) (ev_var 1 rfl (.inl rfl) rfl) (ev_gt rfl T.c_ALONE T.r_ALONE) (by rfl)) (fun (zh1 : (word ∈ [(Str.ofString "undo"), (Str.ofString "redo"), (Str.ofString "answers")])) => ?_) (fun (zh1 : ¬ (word ∈ [(Str.ofString "undo"), (Str.ofString "redo"), (Str.ofString "answers")])) => ?_))
  · skip
    refine exs_one (ex_ret (ev_cmp o_eqi (ev_len (ln_L (xs := rest) (enc := D.str) (by exact rfl)) (ev_var 2 rfl (.inl rfl) rfl) (by exact rfl) T.n_len) ev_int (nomark _)) ?_)
    have efin : m_is_command words = (decide ((rest.length : Int) = (0 : Int))) := by subst zg_rest; subst zg_word; simp only [m_is_command, not_true_eq_false, not_false_eq_true, ↓reduceIte, ↓if_pos zh1]
    rw [efin] at zk
    exact zk _
  · skip
    refine exs_nil ?_
    show Exs _ _ _ ⟨[some (.fr ((eL D.str) words)), some (.fr (D.str word)), some (.fr ((eL D.str) rest))], []⟩ _
    refine exs_cons (ex_ifP bd_d (et_cmp (o_inU (e := D.str) (x := word) (ys := [(Str.ofString "task"), (Str.ofString "drop"), (Str.ofString "answer"), (Str.ofString "system")]) zhr.units ee_str) (ev_var 1 rfl (.inl rfl) rfl) (ev_gt rfl T.c_WITH_A_NAME T.r_WITH_A_NAME) (by rfl)) (fun (zh2 : (word ∈ [(Str.ofString "task"), (Str.ofString "drop"), (Str.ofString "answer"), (Str.ofString "system")])) => ?_) (fun (zh2 : ¬ (word ∈ [(Str.ofString "task"), (Str.ofString "drop"), (Str.ofString "answer"), (Str.ofString "system")])) => ?_))
    · skip
      refine exs_one (ex_ret (ev_andP bd_d (ev_cmp o_eqi (ev_len (ln_L (xs := rest) (enc := D.str) (by exact rfl)) (ev_var 2 rfl (.inl rfl) rfl) (by exact rfl) T.n_len) ev_int (nomark _)) (fun zhp => (ev_one (ev_call (ds := [D.str (rest.getD ((0 : Int)).toNat default)]) (ds' := []) (dvs := []) (dfs := []) O_is_name (zhr.mono (by decide)) T.m_is_name T.k_is_name T.b_is_name .nil (fun _ => .nil) (ea_cons (ev_ix (ix_L (xs := rest) (enc := D.str) (by exact rfl) (by walk_at "sd") (by walk_at "sd")) (ev_var 2 rfl (.inl rfl) rfl) ev_int) ea_nil) (fun _ zkk => ⟨(rest.getD ((0 : Int)).toNat default), rfl, rfl, (by walk_at "pre"), zkk⟩) (by exact rfl))))) ?_)
      have efin : m_is_command words = ((decide ((rest.length : Int) = (1 : Int))) && (m_is_name (rest.getD ((0 : Int)).toNat default))) := by subst zg_rest; subst zg_word; simp only [m_is_command, not_true_eq_false, not_false_eq_true, ↓reduceIte, ↓if_neg zh1, ↓if_pos zh2]
      rw [efin] at zk
      exact zk _
    · skip
      refine exs_nil ?_
      show Exs _ _ _ ⟨[some (.fr ((eL D.str) words)), some (.fr (D.str word)), some (.fr ((eL D.str) rest))], []⟩ _
      refine exs_cons (ex_ifP bd_d (et_cmp o_eqs (ev_var 1 rfl (.inl rfl) rfl) ev_str (nomark _)) (fun (zh3 : (word = (Str.ofString "show"))) => ?_) (fun (zh3 : ¬ (word = (Str.ofString "show"))) => ?_))
      · skip
        refine exs_one (ex_ret (ev_andP bd_d (ev_cmp o_eqi (ev_len (ln_L (xs := rest) (enc := D.str) (by exact rfl)) (ev_var 2 rfl (.inl rfl) rfl) (by exact rfl) T.n_len) ev_int (nomark _)) (fun zhp => (ev_one (ev_cmp (o_inU (e := D.str) (x := (rest.getD ((0 : Int)).toNat default)) (ys := [(Str.ofString "tasks"), (Str.ofString "tables"), (Str.ofString "questions")]) zhr.units ee_str) (ev_ix (ix_L (xs := rest) (enc := D.str) (by exact rfl) (by walk_at "sd") (by walk_at "sd")) (ev_var 2 rfl (.inl rfl) rfl) ev_int) (ev_gt rfl T.c_SHOWN T.r_SHOWN) (by rfl))))) ?_)
        have efin : m_is_command words = ((decide ((rest.length : Int) = (1 : Int))) && (decide ((rest.getD ((0 : Int)).toNat default) ∈ [(Str.ofString "tasks"), (Str.ofString "tables"), (Str.ofString "questions")]))) := by subst zg_rest; subst zg_word; simp only [m_is_command, not_true_eq_false, not_false_eq_true, ↓reduceIte, ↓if_neg zh1, ↓if_neg zh2, ↓if_pos zh3]
        rw [efin] at zk
        exact zk _
      · skip
        refine exs_nil ?_
        show Exs _ _ _ ⟨[some (.fr ((eL D.str) words)), some (.fr (D.str word)), some (.fr ((eL D.str) rest))], []⟩ _
        refine exs_cons (ex_ifP bd_d (et_cmp o_eqs (ev_var 1 rfl (.inl rfl) rfl) ev_str (nomark _)) (fun (zh4 : (word = (Str.ofString "remove"))) => ?_) (fun (zh4 : ¬ (word = (Str.ofString "remove"))) => ?_))
        · skip
          refine exs_one (ex_ret (ev_andP bd_d (ev_cmp o_eqi (ev_len (ln_L (xs := rest) (enc := D.str) (by exact rfl)) (ev_var 2 rfl (.inl rfl) rfl) (by exact rfl) T.n_len) ev_int (nomark _)) (fun zhp => (ev_andP bd_d (ev_cmp (o_inU (e := D.str) (x := (rest.getD ((0 : Int)).toNat default)) (ys := [(Str.ofString "task"), (Str.ofString "table")]) zhr.units ee_str) (ev_ix (ix_L (xs := rest) (enc := D.str) (by exact rfl) (by walk_at "sd") (by walk_at "sd")) (ev_var 2 rfl (.inl rfl) rfl) ev_int) (ev_gt rfl T.c_REMOVED T.r_REMOVED) (by rfl)) (fun zhp => (ev_one (ev_call (ds := [D.str (rest.getD ((1 : Int)).toNat default)]) (ds' := []) (dvs := []) (dfs := []) O_is_name (zhr.mono (by decide)) T.m_is_name T.k_is_name T.b_is_name .nil (fun _ => .nil) (ea_cons (ev_ix (ix_L (xs := rest) (enc := D.str) (by exact rfl) (by walk_at "sd") (by walk_at "sd")) (ev_var 2 rfl (.inl rfl) rfl) ev_int) ea_nil) (fun _ zkk => ⟨(rest.getD ((1 : Int)).toNat default), rfl, rfl, (by walk_at "pre"), zkk⟩) (by exact rfl))))))) ?_)
          have efin : m_is_command words = ((decide ((rest.length : Int) = (2 : Int))) && ((decide ((rest.getD ((0 : Int)).toNat default) ∈ [(Str.ofString "task"), (Str.ofString "table")])) && (m_is_name (rest.getD ((1 : Int)).toNat default)))) := by subst zg_rest; subst zg_word; simp only [m_is_command, not_true_eq_false, not_false_eq_true, ↓reduceIte, ↓if_neg zh1, ↓if_neg zh2, ↓if_neg zh3, ↓if_pos zh4]
          rw [efin] at zk
          exact zk _
        · skip
          refine exs_nil ?_
          show Exs _ _ _ ⟨[some (.fr ((eL D.str) words)), some (.fr (D.str word)), some (.fr ((eL D.str) rest))], []⟩ _
          refine exs_cons (ex_ifP bd_d (et_cmp o_eqs (ev_var 1 rfl (.inl rfl) rfl) ev_str (nomark _)) (fun (zh5 : (word = (Str.ofString "table"))) => ?_) (fun (zh5 : ¬ (word = (Str.ofString "table"))) => ?_))
          · skip
            refine exs_one (ex_ret (ev_andP bd_d (ev_cmp o_ge (ev_len (ln_L (xs := rest) (enc := D.str) (by exact rfl)) (ev_var 2 rfl (.inl rfl) rfl) (by exact rfl) T.n_len) ev_int (nomark _)) (fun zhp => (ev_andP Iff.rfl (ev_call (ds := [D.str (rest.getD ((0 : Int)).toNat default)]) (ds' := []) (dvs := []) (dfs := []) O_is_name (zhr.mono (by decide)) T.m_is_name T.k_is_name T.b_is_name .nil (fun _ => .nil) (ea_cons (ev_ix (ix_L (xs := rest) (enc := D.str) (by exact rfl) (by walk_at "sd") (by walk_at "sd")) (ev_var 2 rfl (.inl rfl) rfl) ev_int) ea_nil) (fun _ zkk => ⟨(rest.getD ((0 : Int)).toNat default), rfl, rfl, (by walk_at "pre"), zkk⟩) (by exact rfl)) (fun zhp => (ev_one (ev_call (ds := [(eL D.str) (slcD rest (some (1 : Int)) none)]) (ds' := []) (dvs := []) (dfs := []) O_are_numbers (zhr.mono (by decide)) T.m_are_numbers T.k_are_numbers T.b_are_numbers .nil (fun _ => .nil) (ea_cons (ev_sliceT (enc := D.str) (xs := rest) (by exact rfl) (ev_var 2 rfl (.inl rfl) rfl) (eo_some ev_int) eo_none) ea_nil) (fun _ zkk => ⟨(slcD rest (some (1 : Int)) none), rfl, rfl, (by walk_at "pre"), zkk⟩) (by exact rfl))))))) ?_)
            have efin : m_is_command words = ((decide ((2 : Int) ≤ (rest.length : Int))) && ((m_is_name (rest.getD ((0 : Int)).toNat default)) && (m_are_numbers (slcD rest (some (1 : Int)) none)))) := by subst zg_rest; subst zg_word; simp only [m_is_command, not_true_eq_false, not_false_eq_true, ↓reduceIte, ↓if_neg zh1, ↓if_neg zh2, ↓if_neg zh3, ↓if_neg zh4, ↓if_pos zh5]
            rw [efin] at zk
            exact zk _
          · skip
            refine exs_nil ?_
            show Exs _ _ _ ⟨[some (.fr ((eL D.str) words)), some (.fr (D.str word)), some (.fr ((eL D.str) rest))], []⟩ _
            refine exs_cons (ex_ifP bd_d (et_cmp o_eqs (ev_var 1 rfl (.inl rfl) rfl) ev_str (nomark _)) (fun (zh6 : (word = (Str.ofString "ask"))) => ?_) (fun (zh6 : ¬ (word = (Str.ofString "ask"))) => ?_))
            · skip
              refine exs_one (ex_ret (ev_andP bd_d (ev_cmp o_ge (ev_len (ln_L (xs := rest) (enc := D.str) (by exact rfl)) (ev_var 2 rfl (.inl rfl) rfl) (by exact rfl) T.n_len) ev_int (nomark _)) (fun zhp => (ev_andP Iff.rfl (ev_call (ds := [D.str (rest.getD ((0 : Int)).toNat default)]) (ds' := []) (dvs := []) (dfs := []) O_is_name (zhr.mono (by decide)) T.m_is_name T.k_is_name T.b_is_name .nil (fun _ => .nil) (ea_cons (ev_ix (ix_L (xs := rest) (enc := D.str) (by exact rfl) (by walk_at "sd") (by walk_at "sd")) (ev_var 2 rfl (.inl rfl) rfl) ev_int) ea_nil) (fun _ zkk => ⟨(rest.getD ((0 : Int)).toNat default), rfl, rfl, (by walk_at "pre"), zkk⟩) (by exact rfl)) (fun zhp => (ev_andP Iff.rfl (ev_call (ds := [D.str (rest.getD ((1 : Int)).toNat default)]) (ds' := []) (dvs := []) (dfs := []) O_is_horizon (zhr.mono (by decide)) T.m_is_horizon T.k_is_horizon T.b_is_horizon .nil (fun _ => .nil) (ea_cons (ev_ix (ix_L (xs := rest) (enc := D.str) (by exact rfl) (by walk_at "sd") (by walk_at "sd")) (ev_var 2 rfl (.inl rfl) rfl) ev_int) ea_nil) (fun _ zkk => ⟨(rest.getD ((1 : Int)).toNat default), rfl, rfl, (by walk_at "pre"), zkk⟩) (by exact rfl)) (fun zhp => (ev_one (ev_call (ds := [(eL D.str) (slcD rest (some (2 : Int)) none)]) (ds' := []) (dvs := []) (dfs := []) O_are_names (zhr.mono (by decide)) T.m_are_names T.k_are_names T.b_are_names .nil (fun _ => .nil) (ea_cons (ev_sliceT (enc := D.str) (xs := rest) (by exact rfl) (ev_var 2 rfl (.inl rfl) rfl) (eo_some ev_int) eo_none) ea_nil) (fun _ zkk => ⟨(slcD rest (some (2 : Int)) none), rfl, rfl, (by walk_at "pre"), zkk⟩) (by exact rfl))))))))) ?_)
              have efin : m_is_command words = ((decide ((3 : Int) ≤ (rest.length : Int))) && ((m_is_name (rest.getD ((0 : Int)).toNat default)) && ((m_is_horizon (rest.getD ((1 : Int)).toNat default)) && (m_are_names (slcD rest (some (2 : Int)) none))))) := by subst zg_rest; subst zg_word; simp only [m_is_command, not_true_eq_false, not_false_eq_true, ↓reduceIte, ↓if_neg zh1, ↓if_neg zh2, ↓if_neg zh3, ↓if_neg zh4, ↓if_neg zh5, ↓if_pos zh6]
              rw [efin] at zk
              exact zk _
            · skip
              refine exs_nil ?_
              show Exs _ _ _ ⟨[some (.fr ((eL D.str) words)), some (.fr (D.str word)), some (.fr ((eL D.str) rest))], []⟩ _
              refine exs_one (ex_ret ev_bl ?_)
              have efin : m_is_command words = false := by subst zg_rest; subst zg_word; simp only [m_is_command, not_true_eq_false, not_false_eq_true, ↓reduceIte, ↓if_neg zh1, ↓if_neg zh2, ↓if_neg zh3, ↓if_neg zh4, ↓if_neg zh5, ↓if_neg zh6]
              rw [efin] at zk
              exact zk _
def m_is_block_line (words : List Str) : Bool :=
  if ((words.getD ((0 : Int)).toNat default) = (Str.ofString "end")) then (decide ((words.length : Int) = (1 : Int))) else if ((words.getD ((0 : Int)).toNat default) = (Str.ofString "kind")) then ((decide ((words.length : Int) = (4 : Int))) && ((m_is_name (words.getD ((1 : Int)).toNat default)) && (m_are_numbers (slcD words (some (2 : Int)) none)))) else if ((words.getD ((0 : Int)).toNat default) = (Str.ofString "way")) then ((decide ((words.length : Int) = (4 : Int))) && ((m_are_names (slcD words (some (1 : Int)) (some (3 : Int)))) && (m_is_number (words.getD ((3 : Int)).toNat default)))) else false
set_option hygiene false in
local macro_rules | `(tactic| walk_at "pre") => `(tactic| first | exact ⟨by have := slc_len (xs := rest) (a := some (1 : Int)) (b := none); have := slc_len (xs := rest) (a := some (2 : Int)) (b := none); have := slc_len (xs := rest) (a := none) (b := some (2 : Int)); omega, fun w hw => hrm w (mem_slc hw)⟩ | exact ⟨by have := slc_len (xs := words) (a := some (2 : Int)) (b := none); have := slc_len (xs := words) (a := some (1 : Int)) (b := some (3 : Int)); omega, fun w hw => hrm w (mem_slc hw)⟩ | exact hrm _ (getD_mem (by omega)) | exact Nat.le_trans (hrm _ (getD_mem (by omega))) (by decide) | fail)
theorem sc_is_block_line : FnScope ["words"] ["words"] (defScope s_is_block_line) := ⟨rfl, rfl, rfl, by decide +kernel, rfl, by decide +kernel, by decide +kernel⟩
def sp_is_block_line : SpN := fun zcs zL zKc => ∃ words : List Str, zcs = [.fr ((eL D.str) words)] ∧ zL = [] ∧ (0 < words.length ∧ words.length ≤ 100 ∧ ∀ w ∈ words, w.length ≤ 100) ∧ ∀ zL', zKc (.fr (D.bl (m_is_block_line words))) zL'
theorem ok_is_block_line (T : TX P K mg) : FnOk P w K mg base CX0 4 T.a_is_block_line T.d_is_block_line ["words"] (SpOf K mg sp_is_block_line) := by
  have O_are_names := ok_are_names (P := P) (w := w) (base := base) T
  have O_are_numbers := ok_are_numbers (P := P) (w := w) (base := base) T
  have O_is_name := ok_is_name (P := P) (w := w) (base := base) T
  have O_is_number := ok_is_number (P := P) (w := w) (base := base) T
  refine T.F_is_block_line.okN sc_is_block_line (fun zcs zL zKc zh => by obtain ⟨words, rfl, _⟩ := zh; rfl) fun zcdv zA zout zst zH zE zB zcs zL zKc zhr zh => ?_
  obtain ⟨words, rfl, rfl, hpre, zk⟩ := zh
  have nd := sc_is_block_line.nd
  have hSL := sizeLine_eq
  have hrm := hpre.2.2
  show Exs _ _ _ ⟨[some (.fr ((eL D.str) words))], []⟩ _
  refine exs_cons (ex_ifP bd_d (et_cmp o_eqs (ev_ix (ix_L (xs := words) (enc := D.str) (by exact rfl) (by walk_at "sd") (by walk_at "sd")) (ev_var 0 rfl (.inl rfl) rfl) ev_int) ev_str (nomark _)) (fun (zh1 : ((words.getD ((0 : Int)).toNat default) = (Str.ofString "end"))) => ?_) (fun (zh1 : ¬ ((words.getD ((0 : Int)).toNat default) = (Str.ofString "end"))) => ?_))
  · skip
    refine exs_one (ex_ret (ev_cmp o_eqi (ev_len (ln_L (xs := words) (enc := D.str) (by exact rfl)) (ev_var 0 rfl (.inl rfl) rfl) (by exact rfl) T.n_len) ev_int (nomark _)) ?_)
    have efin : m_is_block_line words = (decide ((words.length : Int) = (1 : Int))) := by simp only [m_is_block_line, not_true_eq_false, not_false_eq_true, ↓reduceIte, ↓if_pos zh1]
    rw [efin] at zk
    exact zk _
  · skip
    refine exs_nil ?_
    show Exs _ _ _ ⟨[some (.fr ((eL D.str) words))], []⟩ _
    refine exs_cons (ex_ifP bd_d (et_cmp o_eqs (ev_ix (ix_L (xs := words) (enc := D.str) (by exact rfl) (by walk_at "sd") (by walk_at "sd")) (ev_var 0 rfl (.inl rfl) rfl) ev_int) ev_str (nomark _)) (fun (zh2 : ((words.getD ((0 : Int)).toNat default) = (Str.ofString "kind"))) => ?_) (fun (zh2 : ¬ ((words.getD ((0 : Int)).toNat default) = (Str.ofString "kind"))) => ?_))
    · skip
      refine exs_one (ex_ret (ev_andP bd_d (ev_cmp o_eqi (ev_len (ln_L (xs := words) (enc := D.str) (by exact rfl)) (ev_var 0 rfl (.inl rfl) rfl) (by exact rfl) T.n_len) ev_int (nomark _)) (fun zhp => (ev_andP Iff.rfl (ev_call (ds := [D.str (words.getD ((1 : Int)).toNat default)]) (ds' := []) (dvs := []) (dfs := []) O_is_name (zhr.mono (by decide)) T.m_is_name T.k_is_name T.b_is_name .nil (fun _ => .nil) (ea_cons (ev_ix (ix_L (xs := words) (enc := D.str) (by exact rfl) (by walk_at "sd") (by walk_at "sd")) (ev_var 0 rfl (.inl rfl) rfl) ev_int) ea_nil) (fun _ zkk => ⟨(words.getD ((1 : Int)).toNat default), rfl, rfl, (by walk_at "pre"), zkk⟩) (by exact rfl)) (fun zhp => (ev_one (ev_call (ds := [(eL D.str) (slcD words (some (2 : Int)) none)]) (ds' := []) (dvs := []) (dfs := []) O_are_numbers (zhr.mono (by decide)) T.m_are_numbers T.k_are_numbers T.b_are_numbers .nil (fun _ => .nil) (ea_cons (ev_sliceT (enc := D.str) (xs := words) (by exact rfl) (ev_var 0 rfl (.inl rfl) rfl) (eo_some ev_int) eo_none) ea_nil) (fun _ zkk => ⟨(slcD words (some (2 : Int)) none), rfl, rfl, (by walk_at "pre"), zkk⟩) (by exact rfl))))))) ?_)
      have efin : m_is_block_line words = ((decide ((words.length : Int) = (4 : Int))) && ((m_is_name (words.getD ((1 : Int)).toNat default)) && (m_are_numbers (slcD words (some (2 : Int)) none)))) := by simp only [m_is_block_line, not_true_eq_false, not_false_eq_true, ↓reduceIte, ↓if_neg zh1, ↓if_pos zh2]
      rw [efin] at zk
      exact zk _
    · skip
      refine exs_nil ?_
      show Exs _ _ _ ⟨[some (.fr ((eL D.str) words))], []⟩ _
      refine exs_cons (ex_ifP bd_d (et_cmp o_eqs (ev_ix (ix_L (xs := words) (enc := D.str) (by exact rfl) (by walk_at "sd") (by walk_at "sd")) (ev_var 0 rfl (.inl rfl) rfl) ev_int) ev_str (nomark _)) (fun (zh3 : ((words.getD ((0 : Int)).toNat default) = (Str.ofString "way"))) => ?_) (fun (zh3 : ¬ ((words.getD ((0 : Int)).toNat default) = (Str.ofString "way"))) => ?_))
      · skip
        refine exs_one (ex_ret (ev_andP bd_d (ev_cmp o_eqi (ev_len (ln_L (xs := words) (enc := D.str) (by exact rfl)) (ev_var 0 rfl (.inl rfl) rfl) (by exact rfl) T.n_len) ev_int (nomark _)) (fun zhp => (ev_andP Iff.rfl (ev_call (ds := [(eL D.str) (slcD words (some (1 : Int)) (some (3 : Int)))]) (ds' := []) (dvs := []) (dfs := []) O_are_names (zhr.mono (by decide)) T.m_are_names T.k_are_names T.b_are_names .nil (fun _ => .nil) (ea_cons (ev_sliceT (enc := D.str) (xs := words) (by exact rfl) (ev_var 0 rfl (.inl rfl) rfl) (eo_some ev_int) (eo_some ev_int)) ea_nil) (fun _ zkk => ⟨(slcD words (some (1 : Int)) (some (3 : Int))), rfl, rfl, (by walk_at "pre"), zkk⟩) (by exact rfl)) (fun zhp => (ev_one (ev_call (ds := [D.str (words.getD ((3 : Int)).toNat default)]) (ds' := []) (dvs := []) (dfs := []) O_is_number (zhr.mono (by decide)) T.m_is_number T.k_is_number T.b_is_number .nil (fun _ => .nil) (ea_cons (ev_ix (ix_L (xs := words) (enc := D.str) (by exact rfl) (by walk_at "sd") (by walk_at "sd")) (ev_var 0 rfl (.inl rfl) rfl) ev_int) ea_nil) (fun _ zkk => ⟨(words.getD ((3 : Int)).toNat default), rfl, rfl, (by walk_at "pre"), zkk⟩) (by exact rfl))))))) ?_)
        have efin : m_is_block_line words = ((decide ((words.length : Int) = (4 : Int))) && ((m_are_names (slcD words (some (1 : Int)) (some (3 : Int)))) && (m_is_number (words.getD ((3 : Int)).toNat default)))) := by simp only [m_is_block_line, not_true_eq_false, not_false_eq_true, ↓reduceIte, ↓if_neg zh1, ↓if_neg zh2, ↓if_pos zh3]
        rw [efin] at zk
        exact zk _
      · skip
        refine exs_nil ?_
        show Exs _ _ _ ⟨[some (.fr ((eL D.str) words))], []⟩ _
        refine exs_one (ex_ret ev_bl ?_)
        have efin : m_is_block_line words = false := by simp only [m_is_block_line, not_true_eq_false, not_false_eq_true, ↓reduceIte, ↓if_neg zh1, ↓if_neg zh2, ↓if_neg zh3]
        rw [efin] at zk
        exact zk _
def m_law_word (number : Int) (more : Int) : Str :=
  let keywords1 : List Str := [(Str.ofString "task"), (Str.ofString "end"), (Str.ofString "drop"), (Str.ofString "undo"), (Str.ofString "redo"), (Str.ofString "answer"), (Str.ofString "answers"), (Str.ofString "system"), (Str.ofString "table"), (Str.ofString "ask"), (Str.ofString "remove"), (Str.ofString "show")]
  if ((number % (5 : Int)) = (0 : Int)) then (keywords1.getD (((number / (5 : Int)) % (12 : Int))).toNat default) else if ((number % (5 : Int)) = (1 : Int)) then ([(Str.ofString "kind"), (Str.ofString "way"), (Str.ofString "tasks"), (Str.ofString "tables"), (Str.ofString "questions"), (Str.ofString "task"), (Str.ofString "table")].getD (((number / (5 : Int)) % (7 : Int))).toNat default) else let letters1 : Str := (Str.ofString "abcdefghijklmnopqrstuvwxyz0123456789")
  let size1 : Int := ((1 : Int) + ((number / (5 : Int)) % (8 : Int)))
  if (((number % (5 : Int)) = (2 : Int)) ∨ ((number % (5 : Int)) = (3 : Int))) then let digits1 : Str := (Txt.join (Str.ofString "") ((List.range (size1).toNat).map (fun zc3 : Nat => (chA letters1 ((26 : Int) + (((more + (((0 : Int) + (zc3 : Int)) * ((0 : Int) + (zc3 : Int)))) + (number / (40 : Int))) % (10 : Int)))))))
  if (((0 : Int) < (more % (3 : Int))) ∧ ((3 : Int) < (digits1.length : Int))) then (cutS digits1 none (some ((1 : Int) + (more % (4 : Int))))) else digits1 else let word1 : Str := (Txt.join (Str.ofString "") ((List.range ((size1 + ((number / (40 : Int)) % (6 : Int)))).toNat).map (fun zc4 : Nat => (chA letters1 (((more + (((11 : Int) * ((0 : Int) + (zc4 : Int))) * number)) + ((0 : Int) + (zc4 : Int))) % (36 : Int))))))
  if ((more % (7 : Int)) = (0 : Int)) then (((cutS word1 none (some (2 : Int))) ++ (Str.ofString "_")) ++ (cutS word1 (some (2 : Int)) none)) else if ((more % (7 : Int)) = (1 : Int)) then (word1 ++ (Str.ofString "A")) else word1
theorem cs_append (a b : Str) : (a ++ b).cps.toList = a.cps.toList ++ b.cps.toList := by
  show (a.cps ++ b.cps).toList = _
  rw [Array.toList_append]
theorem joinL_nil : ∀ ps : List (List Nat), TL.joinL [] ps = ps.flatten
  | [] => rfl
  | [p] => by simp [TL.joinL]
  | p :: q :: r => by
    show p ++ ([] ++ TL.joinL [] (q :: r)) = _
    rw [joinL_nil (q :: r)]; simp
theorem cs_join0 (ys : List Str) : (Txt.join (Str.ofString "") ys).cps.toList = (ys.map fun y => y.cps.toList).flatten := by
  rw [TL.join_eq]
  have h := TL.tl_join (Str.ofString "") ys
  rw [show TL.tl (Str.ofString "") = [] by decide +kernel, joinL_nil] at h
  exact h
theorem join0_len (ys : List Str) (h : ∀ y ∈ ys, y.length = 1) : (Txt.join (Str.ofString "") ys).length = ys.length := by
  show (Txt.join (Str.ofString "") ys).cps.size = _
  rw [← Array.length_toList, cs_join0]
  induction ys with
  | nil => rfl
  | cons y r ih =>
    rw [List.map_cons, List.flatten_cons, List.length_append, ih fun z hz => h z (List.mem_cons_of_mem _ hz), List.length_cons]
    have : y.cps.toList.length = 1 := by rw [Array.length_toList]; exact h y List.mem_cons_self
    omega
/-- a word of the law -/
def GoodW (w : Str) : Prop := 1 ≤ w.length ∧ w.length ≤ 20 ∧ 32 ∉ w.cps.toList
instance (w : Str) : Decidable (GoodW w) := by unfold GoodW; exact inferInstance
theorem good_getD {xs : List Str} (h : ∀ w ∈ xs, GoodW w) {i : Nat} (hi : i < xs.length) : GoodW (xs.getD i default) := h _ (getD_mem hi)
theorem alph_free : ∀ c ∈ (Str.ofString "abcdefghijklmnopqrstuvwxyz0123456789").cps.toList, c ≠ 32 := by decide +kernel
theorem chA_free {i : Int} (h0 : 0 ≤ i) (h1 : i < 36) : (chA (Str.ofString "abcdefghijklmnopqrstuvwxyz0123456789") i).cps.toList ≠ [] ∧ 32 ∉ (chA (Str.ofString "abcdefghijklmnopqrstuvwxyz0123456789") i).cps.toList := by
  unfold chA
  refine ⟨by simp, fun q => ?_⟩
  have q : 32 = (Str.ofString "abcdefghijklmnopqrstuvwxyz0123456789").cps.toList.getD i.toNat 0 := by simpa using q
  have hl : (Str.ofString "abcdefghijklmnopqrstuvwxyz0123456789").cps.toList.length = 36 := by decide +kernel
  rw [List.getD_eq_getElem?_getD, List.getElem?_eq_getElem (by omega)] at q
  exact alph_free _ (List.getElem_mem (by omega)) q.symm
theorem join_chs {n : Nat} (f : Nat → Str) (hf : ∀ k, (f k).length = 1) : (Txt.join (Str.ofString "") ((List.range n).map f)).length = n := by
  rw [join0_len _ (fun y hy => by obtain ⟨k, _, rfl⟩ := List.mem_map.mp hy; exact hf k), List.length_map, List.length_range]
theorem join_free {n : Nat} (f : Nat → Str) (hf : ∀ k, k < n → 32 ∉ (f k).cps.toList) : 32 ∉ (Txt.join (Str.ofString "") ((List.range n).map f)).cps.toList := by
  rw [cs_join0]
  intro q
  obtain ⟨l, hl, hm⟩ := List.mem_flatten.mp q
  obtain ⟨y, hy, rfl⟩ := List.mem_map.mp hl
  obtain ⟨k, hk, rfl⟩ := List.mem_map.mp hy
  exact hf k (List.mem_range.mp hk) hm
theorem join_room (ys : List Str) (h1 : ys.length ≤ 100) (h : ∀ y ∈ ys, y.length = 1) : (ys.map (·.length)).sum + ys.length * (Str.ofString "").length ≤ 16777216 := by
  have := sum_le_mul (c := 1) ys (fun y hy => by rw [h y hy]; exact Nat.le_refl _)
  rw [show (Str.ofString "").length = 0 by decide +kernel]; omega
theorem cut_mem {z : Str} {a b : Option Int} {c : Nat} (h : c ∈ (cutS z a b).cps.toList) : c ∈ z.cps.toList := by
  unfold cutS at h
  exact List.mem_of_mem_drop (List.mem_of_mem_take (show c ∈ List.take _ (List.drop _ _) from h))
theorem cut_len (z : Str) (a b : Option Int) : (cutS z a b).length ≤ z.length := by
  unfold cutS
  show (List.toArray _).size ≤ z.cps.size
  rw [List.size_toArray, List.length_take, List.length_drop, Array.length_toList]
  omega
theorem cut_pre (z : Str) {n : Int} (h : 0 ≤ n) : (cutS z none (some n)).length = min n.toNat z.length := by
  obtain ⟨k, rfl⟩ := Int.eq_ofNat_of_zero_le h
  unfold cutS
  show (List.toArray _).size = _
  rw [List.size_toArray, List.length_take, List.length_drop, Array.length_toList, HT.sIx_none, HT.sIx_nat]
  have : z.length = z.cps.size := rfl
  omega
theorem cut_two (z : Str) (p : Int) (hp : 0 ≤ p) : (cutS z none (some p)).length + (cutS z (some p) none).length = z.length := by
  obtain ⟨n, rfl⟩ := Int.eq_ofNat_of_zero_le hp
  unfold cutS
  show (List.toArray _).size + (List.toArray _).size = z.cps.size
  rw [List.size_toArray, List.size_toArray, List.length_take, List.length_take, List.length_drop, List.length_drop, Array.length_toList, HT.sIx_none, HT.sIx_none, HT.sIx_nat, HT.sIx_nat]
  have : z.length = z.cps.size := rfl
  omega
theorem us_free : 32 ∉ (Str.ofString "_").cps.toList ∧ (Str.ofString "_").length = 1 ∧ 32 ∉ (Str.ofString "A").cps.toList ∧ (Str.ofString "A").length = 1 := by decide +kernel
theorem app_free {a b : Str} (h1 : 32 ∉ a.cps.toList) (h2 : 32 ∉ b.cps.toList) : 32 ∉ (a ++ b).cps.toList := by
  rw [cs_append]
  intro q
  rcases List.mem_append.mp q with q | q
  · exact h1 q
  · exact h2 q
set_option hygiene false in
local macro_rules | `(tactic| walk_at "join") => `(tactic| first | (exact join_room _ (by rw [List.length_map, List.length_range]; omega) (fun y hy => by obtain ⟨i, _, rfl⟩ := List.mem_map.mp hy; rfl)) | fail)
set_option hygiene false in
local macro_rules | `(tactic| walk_at "sd") => `(tactic| first | (simp only [cs_len_append, us_free]; have h1 := cut_len word none (some (2 : Int)); have h2 := cut_len word (some (2 : Int)) none; omega) | fail)
theorem cs_len_append (a b : Str) : (a ++ b).length = a.length + b.length := Str.length_append a b
theorem kw_good : ∀ w ∈ [(Str.ofString "task"), (Str.ofString "end"), (Str.ofString "drop"), (Str.ofString "undo"), (Str.ofString "redo"), (Str.ofString "answer"), (Str.ofString "answers"), (Str.ofString "system"), (Str.ofString "table"), (Str.ofString "ask"), (Str.ofString "remove"), (Str.ofString "show")], GoodW w := by decide +kernel
theorem kw2_good : ∀ w ∈ [(Str.ofString "kind"), (Str.ofString "way"), (Str.ofString "tasks"), (Str.ofString "tables"), (Str.ofString "questions"), (Str.ofString "task"), (Str.ofString "table")], GoodW w := by decide +kernel
theorem lword_good {number more : Int} (hn : 0 ≤ number ∧ number ≤ 1008) (hm : 0 ≤ more ∧ more ≤ 1008) : GoodW (m_law_word number more) := by
  unfold m_law_word
  dsimp only
  split
  · exact good_getD kw_good (by simp only [List.length_cons, List.length_nil]; omega)
  split
  · exact good_getD kw2_good (by simp only [List.length_cons, List.length_nil]; omega)
  split
  · have hl := join_chs (n := ((1 : Int) + ((number / (5 : Int)) % (8 : Int))).toNat) (fun zc3 : Nat => (chA (Str.ofString "abcdefghijklmnopqrstuvwxyz0123456789") ((26 : Int) + (((more + (((0 : Int) + (zc3 : Int)) * ((0 : Int) + (zc3 : Int)))) + (number / (40 : Int))) % (10 : Int))))) (fun _ => rfl)
    have hf := join_free (n := ((1 : Int) + ((number / (5 : Int)) % (8 : Int))).toNat) (fun zc3 : Nat => (chA (Str.ofString "abcdefghijklmnopqrstuvwxyz0123456789") ((26 : Int) + (((more + (((0 : Int) + (zc3 : Int)) * ((0 : Int) + (zc3 : Int)))) + (number / (40 : Int))) % (10 : Int))))) (fun k _ => (chA_free (by omega) (by omega)).2)
    generalize Txt.join (Str.ofString "") ((List.range ((1 : Int) + ((number / (5 : Int)) % (8 : Int))).toNat).map (fun zc3 : Nat => (chA (Str.ofString "abcdefghijklmnopqrstuvwxyz0123456789") ((26 : Int) + (((more + (((0 : Int) + (zc3 : Int)) * ((0 : Int) + (zc3 : Int)))) + (number / (40 : Int))) % (10 : Int)))))) = digits at hl hf ⊢
    split
    · rename_i q
      have := cut_pre digits (n := (1 : Int) + (more % (4 : Int))) (by omega)
      exact ⟨by omega, by omega, fun z => hf (cut_mem z)⟩
    · exact ⟨by omega, by omega, hf⟩
  · have hl := join_chs (n := (((1 : Int) + ((number / (5 : Int)) % (8 : Int))) + ((number / (40 : Int)) % (6 : Int))).toNat) (fun zc4 : Nat => (chA (Str.ofString "abcdefghijklmnopqrstuvwxyz0123456789") (((more + (((11 : Int) * ((0 : Int) + (zc4 : Int))) * number)) + ((0 : Int) + (zc4 : Int))) % (36 : Int)))) (fun _ => rfl)
    have hf := join_free (n := (((1 : Int) + ((number / (5 : Int)) % (8 : Int))) + ((number / (40 : Int)) % (6 : Int))).toNat) (fun zc4 : Nat => (chA (Str.ofString "abcdefghijklmnopqrstuvwxyz0123456789") (((more + (((11 : Int) * ((0 : Int) + (zc4 : Int))) * number)) + ((0 : Int) + (zc4 : Int))) % (36 : Int)))) (fun k _ => (chA_free (Int.emod_nonneg _ (by decide)) (Int.emod_lt_of_pos _ (by decide))).2)
    generalize Txt.join (Str.ofString "") ((List.range (((1 : Int) + ((number / (5 : Int)) % (8 : Int))) + ((number / (40 : Int)) % (6 : Int))).toNat).map (fun zc4 : Nat => (chA (Str.ofString "abcdefghijklmnopqrstuvwxyz0123456789") (((more + (((11 : Int) * ((0 : Int) + (zc4 : Int))) * number)) + ((0 : Int) + (zc4 : Int))) % (36 : Int))))) = word at hl hf ⊢
    have hu := us_free
    split
    · have := cut_two word 2 (by decide)
      refine ⟨by rw [Str.length_append, Str.length_append]; omega, by rw [Str.length_append, Str.length_append]; omega, app_free (app_free (fun z => hf (cut_mem z)) hu.1) (fun z => hf (cut_mem z))⟩
    split
    · exact ⟨by rw [Str.length_append]; omega, by rw [Str.length_append]; omega, app_free hf hu.2.2.1⟩
    · exact ⟨by omega, by omega, hf⟩
theorem sc_law_word : FnScope ["number", "more", "keywords", "letters", "size", "digits", "word", "k"] ["number", "more"] (defScope s_law_word) := ⟨rfl, rfl, rfl, by decide +kernel, rfl, by decide +kernel, by decide +kernel⟩
def sp_law_word : SpN := fun zcs zL zKc => ∃ number : Int, ∃ more : Int, zcs = [.fr (D.int number), .fr (D.int more)] ∧ zL = [] ∧ (0 ≤ number ∧ number ≤ 1008 ∧ 0 ≤ more ∧ more ≤ 1008) ∧ ∀ zL', zKc (.fr (D.str (m_law_word number more))) zL'
theorem ok_law_word (T : TX P K mg) : FnOk P w K mg base CX0 1 T.a_law_word T.d_law_word ["number", "more"] (SpOf K mg sp_law_word) := by
  refine T.F_law_word.okN sc_law_word (fun zcs zL zKc zh => by obtain ⟨number, more, rfl, _⟩ := zh; rfl) fun zcdv zA zout zst zH zE zB zcs zL zKc zhr zh => ?_
  obtain ⟨number, more, rfl, rfl, hpre, zk⟩ := zh
  have nd := sc_law_word.nd
  have hSL := sizeLine_eq
  show Exs _ _ _ ⟨[some (.fr (D.int number)), some (.fr (D.int more)), none, none, none, none, none, none], []⟩ _
  refine @exs_cons _ _ _ _ _ _ (@ex_set _ _ _ _ _ _ _ 2 _ _ _ (@ev_tupU _ _ _ _ _ _ D.str [D.str (Str.ofString "task"), D.str (Str.ofString "end"), D.str (Str.ofString "drop"), D.str (Str.ofString "undo"), D.str (Str.ofString "redo"), D.str (Str.ofString "answer"), D.str (Str.ofString "answers"), D.str (Str.ofString "system"), D.str (Str.ofString "table"), D.str (Str.ofString "ask"), D.str (Str.ofString "remove"), D.str (Str.ofString "show")] _ _ [(Str.ofString "task"), (Str.ofString "end"), (Str.ofString "drop"), (Str.ofString "undo"), (Str.ofString "redo"), (Str.ofString "answer"), (Str.ofString "answers"), (Str.ofString "system"), (Str.ofString "table"), (Str.ofString "ask"), (Str.ofString "remove"), (Str.ofString "show")] (@ea_consP _ _ _ _ _ _ _ _ _ ev_str (@ea_consP _ _ _ _ _ _ _ _ _ ev_str (@ea_consP _ _ _ _ _ _ _ _ _ ev_str (@ea_consP _ _ _ _ _ _ _ _ _ ev_str (@ea_consP _ _ _ _ _ _ _ _ _ ev_str (@ea_consP _ _ _ _ _ _ _ _ _ ev_str (@ea_consP _ _ _ _ _ _ _ _ _ ev_str (@ea_consP _ _ _ _ _ _ _ _ _ ev_str (@ea_consP _ _ _ _ _ _ _ _ _ ev_str (@ea_consP _ _ _ _ _ _ _ _ _ ev_str (@ea_consP _ _ _ _ _ _ _ _ _ ev_str (@ea_consP _ _ _ _ _ _ _ _ _ ev_str ea_nil (by exact Sub.refl) (by exact Sub.refl) (by rfl)) (by exact Sub.refl) (by exact Sub.refl) (by rfl)) (by exact Sub.refl) (by exact Sub.refl) (by rfl)) (by exact Sub.refl) (by exact Sub.refl) (by rfl)) (by exact Sub.refl) (by exact Sub.refl) (by rfl)) (by exact Sub.refl) (by exact Sub.refl) (by rfl)) (by exact Sub.refl) (by exact Sub.refl) (by rfl)) (by exact Sub.refl) (by exact Sub.refl) (by rfl)) (by exact Sub.refl) (by exact Sub.refl) (by rfl)) (by exact Sub.refl) (by exact Sub.refl) (by rfl)) (by exact Sub.refl) (by exact Sub.refl) (by rfl)) (by exact Sub.refl) (by exact Sub.refl) (by rfl)) (by rfl) (by simp only [List.length_cons, List.length_nil]; decide)) ?_ nd rfl (.inl rfl) (by rfl) (by first | exact .inl rfl | exact .inr rfl))
  show Exs _ _ _ ⟨[some (.fr (D.int number)), some (.fr (D.int more)), some (.fr ((eU D.str) [(Str.ofString "task"), (Str.ofString "end"), (Str.ofString "drop"), (Str.ofString "undo"), (Str.ofString "redo"), (Str.ofString "answer"), (Str.ofString "answers"), (Str.ofString "system"), (Str.ofString "table"), (Str.ofString "ask"), (Str.ofString "remove"), (Str.ofString "show")])), none, none, none, none, none], []⟩ _
  generalize zg_keywords : [(Str.ofString "task"), (Str.ofString "end"), (Str.ofString "drop"), (Str.ofString "undo"), (Str.ofString "redo"), (Str.ofString "answer"), (Str.ofString "answers"), (Str.ofString "system"), (Str.ofString "table"), (Str.ofString "ask"), (Str.ofString "remove"), (Str.ofString "show")] = keywords
  show Exs _ _ _ ⟨[some (.fr (D.int number)), some (.fr (D.int more)), some (.fr ((eU D.str) keywords)), none, none, none, none, none], []⟩ _
  have hkl : keywords.length = 12 := by rw [← zg_keywords]; rfl
  refine exs_cons (ex_ifP bd_d (et_cmp o_eqi (ev_bin (o_mod (by walk_at "sd")) (ev_var 0 rfl (.inr (.inl rfl)) rfl) ev_int) ev_int (nomark _)) (fun (zh1 : ((number % (5 : Int)) = (0 : Int))) => ?_) (fun (zh1 : ¬ ((number % (5 : Int)) = (0 : Int))) => ?_))
  · skip
    refine exs_one (ex_ret (ev_ix (ix_U (enc := D.str) (by walk_at "sd") (by walk_at "sd")) (ev_var 2 rfl (.inl rfl) rfl) (ev_bin (o_mod (by walk_at "sd")) (ev_bin (o_div (by walk_at "sd") (by walk_at "sd")) (ev_var 0 rfl (.inr (.inl rfl)) rfl) ev_int) ev_int)) ?_)
    have efin : m_law_word number more = (keywords.getD (((number / (5 : Int)) % (12 : Int))).toNat default) := by subst zg_keywords; simp only [m_law_word, not_true_eq_false, not_false_eq_true, ↓reduceIte, ↓if_pos zh1]
    rw [efin] at zk
    exact zk _
  · skip
    refine exs_nil ?_
    show Exs _ _ _ ⟨[some (.fr (D.int number)), some (.fr (D.int more)), some (.fr ((eU D.str) keywords)), none, none, none, none, none], []⟩ _
    refine exs_cons (ex_ifP bd_d (et_cmp o_eqi (ev_bin (o_mod (by walk_at "sd")) (ev_var 0 rfl (.inr (.inl rfl)) rfl) ev_int) ev_int (nomark _)) (fun (zh2 : ((number % (5 : Int)) = (1 : Int))) => ?_) (fun (zh2 : ¬ ((number % (5 : Int)) = (1 : Int))) => ?_))
    · skip
      refine exs_one (ex_ret (ev_ix (ix_U (enc := D.str) (by walk_at "sd") (by walk_at "sd")) (@ev_tupU _ _ _ _ _ _ D.str [D.str (Str.ofString "kind"), D.str (Str.ofString "way"), D.str (Str.ofString "tasks"), D.str (Str.ofString "tables"), D.str (Str.ofString "questions"), D.str (Str.ofString "task"), D.str (Str.ofString "table")] _ _ [(Str.ofString "kind"), (Str.ofString "way"), (Str.ofString "tasks"), (Str.ofString "tables"), (Str.ofString "questions"), (Str.ofString "task"), (Str.ofString "table")] (@ea_consP _ _ _ _ _ _ _ _ _ ev_str (@ea_consP _ _ _ _ _ _ _ _ _ ev_str (@ea_consP _ _ _ _ _ _ _ _ _ ev_str (@ea_consP _ _ _ _ _ _ _ _ _ ev_str (@ea_consP _ _ _ _ _ _ _ _ _ ev_str (@ea_consP _ _ _ _ _ _ _ _ _ ev_str (@ea_consP _ _ _ _ _ _ _ _ _ ev_str ea_nil (by exact Sub.refl) (by exact Sub.refl) (by rfl)) (by exact Sub.refl) (by exact Sub.refl) (by rfl)) (by exact Sub.refl) (by exact Sub.refl) (by rfl)) (by exact Sub.refl) (by exact Sub.refl) (by rfl)) (by exact Sub.refl) (by exact Sub.refl) (by rfl)) (by exact Sub.refl) (by exact Sub.refl) (by rfl)) (by exact Sub.refl) (by exact Sub.refl) (by rfl)) (by rfl) (by simp only [List.length_cons, List.length_nil]; decide)) (ev_bin (o_mod (by walk_at "sd")) (ev_bin (o_div (by walk_at "sd") (by walk_at "sd")) (ev_var 0 rfl (.inr (.inl rfl)) rfl) ev_int) ev_int)) ?_)
      have efin : m_law_word number more = ([(Str.ofString "kind"), (Str.ofString "way"), (Str.ofString "tasks"), (Str.ofString "tables"), (Str.ofString "questions"), (Str.ofString "task"), (Str.ofString "table")].getD (((number / (5 : Int)) % (7 : Int))).toNat default) := by subst zg_keywords; simp only [m_law_word, not_true_eq_false, not_false_eq_true, ↓reduceIte, ↓if_neg zh1, ↓if_pos zh2]
      rw [efin] at zk
      exact zk _
    · skip
      refine exs_nil ?_
      show Exs _ _ _ ⟨[some (.fr (D.int number)), some (.fr (D.int more)), some (.fr ((eU D.str) keywords)), none, none, none, none, none], []⟩ _
      refine exs_cons (ex_set 3 ev_str ?_ nd rfl (.inr rfl))
      show Exs _ _ _ ⟨[some (.fr (D.int number)), some (.fr (D.int more)), some (.fr ((eU D.str) keywords)), some (.fr (D.str (Str.ofString "abcdefghijklmnopqrstuvwxyz0123456789"))), none, none, none, none], []⟩ _
      generalize zg_letters : (Str.ofString "abcdefghijklmnopqrstuvwxyz0123456789") = letters
      show Exs _ _ _ ⟨[some (.fr (D.int number)), some (.fr (D.int more)), some (.fr ((eU D.str) keywords)), some (.fr (D.str letters)), none, none, none, none], []⟩ _
      have hll : letters.length = 36 := by rw [← zg_letters]; decide +kernel
      refine exs_cons (ex_set 4 (ev_bin o_add ev_int (ev_bin (o_mod (by walk_at "sd")) (ev_bin (o_div (by walk_at "sd") (by walk_at "sd")) (ev_var 0 rfl (.inr (.inl rfl)) rfl) ev_int) ev_int)) ?_ nd rfl (.inl rfl))
      show Exs _ _ _ ⟨[some (.fr (D.int number)), some (.fr (D.int more)), some (.fr ((eU D.str) keywords)), some (.fr (D.str letters)), some (.fr (D.int ((1 : Int) + ((number / (5 : Int)) % (8 : Int))))), none, none, none], []⟩ _
      generalize zg_size : ((1 : Int) + ((number / (5 : Int)) % (8 : Int))) = size
      show Exs _ _ _ ⟨[some (.fr (D.int number)), some (.fr (D.int more)), some (.fr ((eU D.str) keywords)), some (.fr (D.str letters)), some (.fr (D.int size)), none, none, none], []⟩ _
      refine exs_cons (ex_ifP (bd_or bd_d bd_d) (Ew.et (ew_orP bd_d (et_cmp o_eqi (ev_bin (o_mod (by walk_at "sd")) (ev_var 0 rfl (.inr (.inl rfl)) rfl) ev_int) ev_int (nomark _)) (fun zhp => (ew_or1 (et_cmp o_eqi (ev_bin (o_mod (by walk_at "sd")) (ev_var 0 rfl (.inr (.inl rfl)) rfl) ev_int) ev_int (nomark _)))))) (fun (zh3 : (((number % (5 : Int)) = (2 : Int)) ∨ ((number % (5 : Int)) = (3 : Int)))) => ?_) (fun (zh3 : ¬ (((number % (5 : Int)) = (2 : Int)) ∨ ((number % (5 : Int)) = (3 : Int)))) => ?_))
      · skip
        refine exs_cons (ex_set 5 (ev_join (z := (Str.ofString "")) (ys := ((List.range (size).toNat).map (fun zc1 : Nat => (chA letters ((26 : Int) + (((more + (((0 : Int) + (zc1 : Int)) * ((0 : Int) + (zc1 : Int)))) + (number / (40 : Int))) % (10 : Int))))))) ev_str (ev_lcM (enc2 := D.str) 199 (fun zc1 : Nat => (chA letters ((26 : Int) + (((more + (((0 : Int) + (zc1 : Int)) * ((0 : Int) + (zc1 : Int)))) + (number / (40 : Int))) % (10 : Int))))) _ rfl nd (blkOk_by (N := ["number", "more", "keywords", "letters", "size", "digits", "word", "k"]) (sc := defScope s_law_word) (own := [(("k" : Str), 7)]) (by decide +kernel)) (src_range1 (ea_cons (ev_var 4 rfl (.inl rfl) rfl) ea_nil) (by exact rfl) T.n_range (by walk_at "sd") (by walk_at "sd")) (by simp [names]) (by decide) (by walk_at "sd") (fun _ zc1 _ zhyzc1 _ _ _ _ _ => (eg_nameC 7 nd rfl (.inl rfl) (by decide) (.inr rfl))) (fun _ zc1 _ zhyzc1 _ _ _ _ _ => (ev_ixS (ev_var 3 rfl (.inr (.inl rfl)) rfl) (ev_bin o_add ev_int (ev_bin (o_mod (by walk_at "sd")) (ev_bin o_add (ev_bin o_add (ev_var 1 rfl (.inr (.inl rfl)) rfl) (ev_bin (o_mul (by walk_at "mul")) (ev_var 7 rfl (.inl rfl) rfl) (ev_var 7 rfl (.inl rfl) rfl))) (ev_bin (o_div (by walk_at "sd") (by walk_at "sd")) (ev_var 0 rfl (.inr (.inl rfl)) rfl) ev_int)) ev_int)) (by walk_at "sd") (by walk_at "sd") (by walk_at "sd")))) (by walk_at "join")) ?_ nd rfl (.inl rfl))
        show Exs _ _ _ ⟨[some (.fr (D.int number)), some (.fr (D.int more)), some (.fr ((eU D.str) keywords)), some (.fr (D.str letters)), some (.fr (D.int size)), some (.fr (D.str (Txt.join (Str.ofString "") ((List.range (size).toNat).map (fun zc1 : Nat => (chA letters ((26 : Int) + (((more + (((0 : Int) + (zc1 : Int)) * ((0 : Int) + (zc1 : Int)))) + (number / (40 : Int))) % (10 : Int))))))))), none, none], []⟩ _
        generalize zg_digits : (Txt.join (Str.ofString "") ((List.range (size).toNat).map (fun zc1 : Nat => (chA letters ((26 : Int) + (((more + (((0 : Int) + (zc1 : Int)) * ((0 : Int) + (zc1 : Int)))) + (number / (40 : Int))) % (10 : Int))))))) = digits
        show Exs _ _ _ ⟨[some (.fr (D.int number)), some (.fr (D.int more)), some (.fr ((eU D.str) keywords)), some (.fr (D.str letters)), some (.fr (D.int size)), some (.fr (D.str digits)), none, none], []⟩ _
        have hdl : digits.length ≤ 8 := by rw [← zg_digits, join_chs _ (fun _ => rfl)]; omega
        refine exs_cons (ex_ifP (bd_and bd_d bd_d) (Ew.et (ew_andP bd_d (et_cmp o_gt (ev_bin (o_mod (by walk_at "sd")) (ev_var 1 rfl (.inr (.inl rfl)) rfl) ev_int) ev_int (nomark _)) (fun zhp => (ew_and1 (et_cmp o_gt (ev_len (.s (by walk_at "sd")) (ev_var 5 rfl (.inl rfl) rfl) (by exact rfl) T.n_len) ev_int (nomark _)))))) (fun (zh4 : (((0 : Int) < (more % (3 : Int))) ∧ ((3 : Int) < (digits.length : Int)))) => ?_) (fun (zh4 : ¬ (((0 : Int) < (more % (3 : Int))) ∧ ((3 : Int) < (digits.length : Int)))) => ?_))
        · skip
          refine exs_one (ex_ret (ev_sliceS (ev_var 5 rfl (.inl rfl) rfl) eo_none (eo_some (ev_bin o_add ev_int (ev_bin (o_mod (by walk_at "sd")) (ev_var 1 rfl (.inr (.inl rfl)) rfl) ev_int))) (by walk_at "sd")) ?_)
          have efin : m_law_word number more = (cutS digits none (some ((1 : Int) + (more % (4 : Int))))) := by subst zg_digits; subst zg_size; subst zg_letters; subst zg_keywords; simp only [m_law_word, not_true_eq_false, not_false_eq_true, ↓reduceIte, ↓if_neg zh1, ↓if_neg zh2, ↓if_pos zh3, ↓if_pos zh4]
          rw [efin] at zk
          exact zk _
        · skip
          refine exs_nil ?_
          show Exs _ _ _ ⟨[some (.fr (D.int number)), some (.fr (D.int more)), some (.fr ((eU D.str) keywords)), some (.fr (D.str letters)), some (.fr (D.int size)), some (.fr (D.str digits)), none, none], []⟩ _
          refine exs_one (ex_ret (ev_var 5 rfl (.inl rfl) rfl) ?_)
          have efin : m_law_word number more = digits := by subst zg_digits; subst zg_size; subst zg_letters; subst zg_keywords; simp only [m_law_word, not_true_eq_false, not_false_eq_true, ↓reduceIte, ↓if_neg zh1, ↓if_neg zh2, ↓if_pos zh3, ↓if_neg zh4]
          rw [efin] at zk
          exact zk _
      · skip
        refine exs_nil ?_
        show Exs _ _ _ ⟨[some (.fr (D.int number)), some (.fr (D.int more)), some (.fr ((eU D.str) keywords)), some (.fr (D.str letters)), some (.fr (D.int size)), none, none, none], []⟩ _
        refine exs_cons (ex_set 6 (ev_join (z := (Str.ofString "")) (ys := ((List.range ((size + ((number / (40 : Int)) % (6 : Int)))).toNat).map (fun zc2 : Nat => (chA letters (((more + (((11 : Int) * ((0 : Int) + (zc2 : Int))) * number)) + ((0 : Int) + (zc2 : Int))) % (36 : Int)))))) ev_str (ev_lcM (enc2 := D.str) 199 (fun zc2 : Nat => (chA letters (((more + (((11 : Int) * ((0 : Int) + (zc2 : Int))) * number)) + ((0 : Int) + (zc2 : Int))) % (36 : Int)))) _ rfl nd (blkOk_by (N := ["number", "more", "keywords", "letters", "size", "digits", "word", "k"]) (sc := defScope s_law_word) (own := [(("k" : Str), 7)]) (by decide +kernel)) (src_range1 (ea_cons (ev_bin o_add (ev_var 4 rfl (.inl rfl) rfl) (ev_bin (o_mod (by walk_at "sd")) (ev_bin (o_div (by walk_at "sd") (by walk_at "sd")) (ev_var 0 rfl (.inr (.inl rfl)) rfl) ev_int) ev_int)) ea_nil) (by exact rfl) T.n_range (by walk_at "sd") (by walk_at "sd")) (by simp [names]) (by decide) (by walk_at "sd") (fun _ zc2 _ zhyzc2 _ _ _ _ _ => (eg_nameC 7 nd rfl (.inl rfl) (by decide) (.inr rfl))) (fun _ zc2 _ zhyzc2 _ _ _ _ _ => (ev_ixS (ev_var 3 rfl (.inr (.inl rfl)) rfl) (ev_bin (o_mod (by walk_at "sd")) (ev_bin o_add (ev_bin o_add (ev_var 1 rfl (.inr (.inl rfl)) rfl) (ev_bin (o_mul (by walk_at "mul")) (ev_bin (o_mul (by walk_at "mul")) ev_int (ev_var 7 rfl (.inl rfl) rfl)) (ev_var 0 rfl (.inr (.inl rfl)) rfl))) (ev_var 7 rfl (.inl rfl) rfl)) ev_int) (by walk_at "sd") (by walk_at "sd") (by walk_at "sd")))) (by walk_at "join")) ?_ nd rfl (.inl rfl))
        show Exs _ _ _ ⟨[some (.fr (D.int number)), some (.fr (D.int more)), some (.fr ((eU D.str) keywords)), some (.fr (D.str letters)), some (.fr (D.int size)), none, some (.fr (D.str (Txt.join (Str.ofString "") ((List.range ((size + ((number / (40 : Int)) % (6 : Int)))).toNat).map (fun zc2 : Nat => (chA letters (((more + (((11 : Int) * ((0 : Int) + (zc2 : Int))) * number)) + ((0 : Int) + (zc2 : Int))) % (36 : Int)))))))), none], []⟩ _
        generalize zg_word : (Txt.join (Str.ofString "") ((List.range ((size + ((number / (40 : Int)) % (6 : Int)))).toNat).map (fun zc2 : Nat => (chA letters (((more + (((11 : Int) * ((0 : Int) + (zc2 : Int))) * number)) + ((0 : Int) + (zc2 : Int))) % (36 : Int)))))) = word
        show Exs _ _ _ ⟨[some (.fr (D.int number)), some (.fr (D.int more)), some (.fr ((eU D.str) keywords)), some (.fr (D.str letters)), some (.fr (D.int size)), none, some (.fr (D.str word)), none], []⟩ _
        have hwl : word.length ≤ 13 := by rw [← zg_word, join_chs _ (fun _ => rfl)]; omega
        refine exs_cons (ex_ifP bd_d (et_cmp o_eqi (ev_bin (o_mod (by walk_at "sd")) (ev_var 1 rfl (.inr (.inl rfl)) rfl) ev_int) ev_int (nomark _)) (fun (zh5 : ((more % (7 : Int)) = (0 : Int))) => ?_) (fun (zh5 : ¬ ((more % (7 : Int)) = (0 : Int))) => ?_))
        · skip
          refine exs_one (ex_ret (ev_bin (o_adds (by walk_at "sd")) (ev_bin (o_adds (by walk_at "sd")) (ev_sliceS (ev_var 6 rfl (.inl rfl) rfl) eo_none (eo_some ev_int) (by walk_at "sd")) ev_str) (ev_sliceS (ev_var 6 rfl (.inl rfl) rfl) (eo_some ev_int) eo_none (by walk_at "sd"))) ?_)
          have efin : m_law_word number more = (((cutS word none (some (2 : Int))) ++ (Str.ofString "_")) ++ (cutS word (some (2 : Int)) none)) := by subst zg_word; subst zg_size; subst zg_letters; subst zg_keywords; simp only [m_law_word, not_true_eq_false, not_false_eq_true, ↓reduceIte, ↓if_neg zh1, ↓if_neg zh2, ↓if_neg zh3, ↓if_pos zh5]
          rw [efin] at zk
          exact zk _
        · skip
          refine exs_nil ?_
          show Exs _ _ _ ⟨[some (.fr (D.int number)), some (.fr (D.int more)), some (.fr ((eU D.str) keywords)), some (.fr (D.str letters)), some (.fr (D.int size)), none, some (.fr (D.str word)), none], []⟩ _
          refine exs_cons (ex_ifP bd_d (et_cmp o_eqi (ev_bin (o_mod (by walk_at "sd")) (ev_var 1 rfl (.inr (.inl rfl)) rfl) ev_int) ev_int (nomark _)) (fun (zh6 : ((more % (7 : Int)) = (1 : Int))) => ?_) (fun (zh6 : ¬ ((more % (7 : Int)) = (1 : Int))) => ?_))
          · skip
            refine exs_one (ex_ret (ev_bin (o_adds (by walk_at "sd")) (ev_var 6 rfl (.inl rfl) rfl) ev_str) ?_)
            have efin : m_law_word number more = (word ++ (Str.ofString "A")) := by subst zg_word; subst zg_size; subst zg_letters; subst zg_keywords; simp only [m_law_word, not_true_eq_false, not_false_eq_true, ↓reduceIte, ↓if_neg zh1, ↓if_neg zh2, ↓if_neg zh3, ↓if_neg zh5, ↓if_pos zh6]
            rw [efin] at zk
            exact zk _
          · skip
            refine exs_nil ?_
            show Exs _ _ _ ⟨[some (.fr (D.int number)), some (.fr (D.int more)), some (.fr ((eU D.str) keywords)), some (.fr (D.str letters)), some (.fr (D.int size)), none, some (.fr (D.str word)), none], []⟩ _
            refine exs_one (ex_ret (ev_var 6 rfl (.inl rfl) rfl) ?_)
            have efin : m_law_word number more = word := by subst zg_word; subst zg_size; subst zg_letters; subst zg_keywords; simp only [m_law_word, not_true_eq_false, not_false_eq_true, ↓reduceIte, ↓if_neg zh1, ↓if_neg zh2, ↓if_neg zh3, ↓if_neg zh5, ↓if_neg zh6]
            rw [efin] at zk
            exact zk _
def m_law_formed (words : List Str) (number : Int) : List Str :=
  let forms2 : List (Str × Int) := [((Str.ofString "task"), (1 : Int)), ((Str.ofString "table"), (3 : Int)), ((Str.ofString "ask"), (4 : Int)), ((Str.ofString "drop"), (1 : Int)), ((Str.ofString "remove"), (2 : Int)), ((Str.ofString "undo"), (0 : Int)), ((Str.ofString "answer"), (1 : Int))]
  let forms2 : List (Str × Int) := (forms2 ++ [((Str.ofString "answers"), (0 : Int)), ((Str.ofString "show"), (1 : Int)), ((Str.ofString "system"), (1 : Int)), ((Str.ofString "kind"), (3 : Int)), ((Str.ofString "way"), (3 : Int)), ((Str.ofString "end"), (0 : Int)), ((Str.ofString "redo"), (0 : Int))])
  (if (((forms2.getD ((number % (14 : Int))).toNat default).1 = (Str.ofString "ask")) ∧ ((2 : Int) < ((if (((forms2.getD ((number % (14 : Int))).toNat default).1 = (Str.ofString "show")) ∧ ((1 : Int) < ((if (((forms2.getD ((number % (14 : Int))).toNat default).1 = (Str.ofString "remove")) ∧ ((1 : Int) < (([(forms2.getD ((number % (14 : Int))).toNat default).1] ++ (slcD words none (some (forms2.getD ((number % (14 : Int))).toNat default).2))).length : Int))) then (([(forms2.getD ((number % (14 : Int))).toNat default).1] ++ (slcD words none (some (forms2.getD ((number % (14 : Int))).toNat default).2))).set ((1 : Int)).toNat ([(Str.ofString "task"), (Str.ofString "table")].getD (((number / (14 : Int)) % (2 : Int))).toNat default)) else ([(forms2.getD ((number % (14 : Int))).toNat default).1] ++ (slcD words none (some (forms2.getD ((number % (14 : Int))).toNat default).2)))).length : Int))) then ((if (((forms2.getD ((number % (14 : Int))).toNat default).1 = (Str.ofString "remove")) ∧ ((1 : Int) < (([(forms2.getD ((number % (14 : Int))).toNat default).1] ++ (slcD words none (some (forms2.getD ((number % (14 : Int))).toNat default).2))).length : Int))) then (([(forms2.getD ((number % (14 : Int))).toNat default).1] ++ (slcD words none (some (forms2.getD ((number % (14 : Int))).toNat default).2))).set ((1 : Int)).toNat ([(Str.ofString "task"), (Str.ofString "table")].getD (((number / (14 : Int)) % (2 : Int))).toNat default)) else ([(forms2.getD ((number % (14 : Int))).toNat default).1] ++ (slcD words none (some (forms2.getD ((number % (14 : Int))).toNat default).2)))).set ((1 : Int)).toNat ([(Str.ofString "tasks"), (Str.ofString "tables"), (Str.ofString "questions")].getD (((number / (14 : Int)) % (3 : Int))).toNat default)) else (if (((forms2.getD ((number % (14 : Int))).toNat default).1 = (Str.ofString "remove")) ∧ ((1 : Int) < (([(forms2.getD ((number % (14 : Int))).toNat default).1] ++ (slcD words none (some (forms2.getD ((number % (14 : Int))).toNat default).2))).length : Int))) then (([(forms2.getD ((number % (14 : Int))).toNat default).1] ++ (slcD words none (some (forms2.getD ((number % (14 : Int))).toNat default).2))).set ((1 : Int)).toNat ([(Str.ofString "task"), (Str.ofString "table")].getD (((number / (14 : Int)) % (2 : Int))).toNat default)) else ([(forms2.getD ((number % (14 : Int))).toNat default).1] ++ (slcD words none (some (forms2.getD ((number % (14 : Int))).toNat default).2))))).length : Int))) then ((if (((forms2.getD ((number % (14 : Int))).toNat default).1 = (Str.ofString "show")) ∧ ((1 : Int) < ((if (((forms2.getD ((number % (14 : Int))).toNat default).1 = (Str.ofString "remove")) ∧ ((1 : Int) < (([(forms2.getD ((number % (14 : Int))).toNat default).1] ++ (slcD words none (some (forms2.getD ((number % (14 : Int))).toNat default).2))).length : Int))) then (([(forms2.getD ((number % (14 : Int))).toNat default).1] ++ (slcD words none (some (forms2.getD ((number % (14 : Int))).toNat default).2))).set ((1 : Int)).toNat ([(Str.ofString "task"), (Str.ofString "table")].getD (((number / (14 : Int)) % (2 : Int))).toNat default)) else ([(forms2.getD ((number % (14 : Int))).toNat default).1] ++ (slcD words none (some (forms2.getD ((number % (14 : Int))).toNat default).2)))).length : Int))) then ((if (((forms2.getD ((number % (14 : Int))).toNat default).1 = (Str.ofString "remove")) ∧ ((1 : Int) < (([(forms2.getD ((number % (14 : Int))).toNat default).1] ++ (slcD words none (some (forms2.getD ((number % (14 : Int))).toNat default).2))).length : Int))) then (([(forms2.getD ((number % (14 : Int))).toNat default).1] ++ (slcD words none (some (forms2.getD ((number % (14 : Int))).toNat default).2))).set ((1 : Int)).toNat ([(Str.ofString "task"), (Str.ofString "table")].getD (((number / (14 : Int)) % (2 : Int))).toNat default)) else ([(forms2.getD ((number % (14 : Int))).toNat default).1] ++ (slcD words none (some (forms2.getD ((number % (14 : Int))).toNat default).2)))).set ((1 : Int)).toNat ([(Str.ofString "tasks"), (Str.ofString "tables"), (Str.ofString "questions")].getD (((number / (14 : Int)) % (3 : Int))).toNat default)) else (if (((forms2.getD ((number % (14 : Int))).toNat default).1 = (Str.ofString "remove")) ∧ ((1 : Int) < (([(forms2.getD ((number % (14 : Int))).toNat default).1] ++ (slcD words none (some (forms2.getD ((number % (14 : Int))).toNat default).2))).length : Int))) then (([(forms2.getD ((number % (14 : Int))).toNat default).1] ++ (slcD words none (some (forms2.getD ((number % (14 : Int))).toNat default).2))).set ((1 : Int)).toNat ([(Str.ofString "task"), (Str.ofString "table")].getD (((number / (14 : Int)) % (2 : Int))).toNat default)) else ([(forms2.getD ((number % (14 : Int))).toNat default).1] ++ (slcD words none (some (forms2.getD ((number % (14 : Int))).toNat default).2))))).set ((2 : Int)).toNat ([(Str.ofString "0"), (Str.ofString "1"), (Str.ofString "999"), (Str.ofString "1000"), (Str.ofString "1001"), (Str.ofString (toString number))].getD (((number / (14 : Int)) % (6 : Int))).toNat default)) else (if (((forms2.getD ((number % (14 : Int))).toNat default).1 = (Str.ofString "show")) ∧ ((1 : Int) < ((if (((forms2.getD ((number % (14 : Int))).toNat default).1 = (Str.ofString "remove")) ∧ ((1 : Int) < (([(forms2.getD ((number % (14 : Int))).toNat default).1] ++ (slcD words none (some (forms2.getD ((number % (14 : Int))).toNat default).2))).length : Int))) then (([(forms2.getD ((number % (14 : Int))).toNat default).1] ++ (slcD words none (some (forms2.getD ((number % (14 : Int))).toNat default).2))).set ((1 : Int)).toNat ([(Str.ofString "task"), (Str.ofString "table")].getD (((number / (14 : Int)) % (2 : Int))).toNat default)) else ([(forms2.getD ((number % (14 : Int))).toNat default).1] ++ (slcD words none (some (forms2.getD ((number % (14 : Int))).toNat default).2)))).length : Int))) then ((if (((forms2.getD ((number % (14 : Int))).toNat default).1 = (Str.ofString "remove")) ∧ ((1 : Int) < (([(forms2.getD ((number % (14 : Int))).toNat default).1] ++ (slcD words none (some (forms2.getD ((number % (14 : Int))).toNat default).2))).length : Int))) then (([(forms2.getD ((number % (14 : Int))).toNat default).1] ++ (slcD words none (some (forms2.getD ((number % (14 : Int))).toNat default).2))).set ((1 : Int)).toNat ([(Str.ofString "task"), (Str.ofString "table")].getD (((number / (14 : Int)) % (2 : Int))).toNat default)) else ([(forms2.getD ((number % (14 : Int))).toNat default).1] ++ (slcD words none (some (forms2.getD ((number % (14 : Int))).toNat default).2)))).set ((1 : Int)).toNat ([(Str.ofString "tasks"), (Str.ofString "tables"), (Str.ofString "questions")].getD (((number / (14 : Int)) % (3 : Int))).toNat default)) else (if (((forms2.getD ((number % (14 : Int))).toNat default).1 = (Str.ofString "remove")) ∧ ((1 : Int) < (([(forms2.getD ((number % (14 : Int))).toNat default).1] ++ (slcD words none (some (forms2.getD ((number % (14 : Int))).toNat default).2))).length : Int))) then (([(forms2.getD ((number % (14 : Int))).toNat default).1] ++ (slcD words none (some (forms2.getD ((number % (14 : Int))).toNat default).2))).set ((1 : Int)).toNat ([(Str.ofString "task"), (Str.ofString "table")].getD (((number / (14 : Int)) % (2 : Int))).toNat default)) else ([(forms2.getD ((number % (14 : Int))).toNat default).1] ++ (slcD words none (some (forms2.getD ((number % (14 : Int))).toNat default).2))))))
def dg (n : Nat) : List Nat := (Nat.toDigits 10 n).map Char.toNat
theorem tos_nat (n : Nat) : Str.ofString (toString (n : Int)) = ⟨(dg n).toArray⟩ := by
  rw [show toString (n : Int) = String.ofList (Nat.toDigits 10 n) from rfl, Str.ofString_eq_toList]
  unfold dg
  rw [String.toList_ofList]
theorem dg_first (n : Nat) : ∃ c t, dg n = c :: t ∧ 48 ≤ c ∧ c ≤ 57 := by
  unfold dg
  cases h : Nat.toDigits 10 n with
  | nil => have := Nat.length_toDigits_pos (b := 10) (n := n); rw [h] at this; cases this
  | cons c t =>
    refine ⟨c.toNat, t.map Char.toNat, rfl, ?_⟩
    have := Nat.isDigit_of_mem_toDigits (b := 10) (n := n) (c := c) (by decide) (by decide) (by rw [h]; exact List.mem_cons_self)
    unfold Char.isDigit at this
    rw [Bool.and_eq_true, decide_eq_true_eq, decide_eq_true_eq] at this
    exact ⟨this.1, this.2⟩
def GoodR (r : List Str) : Prop := 1 ≤ r.length ∧ r.length ≤ 5 ∧ ∀ w ∈ r, GoodW w
theorem goodR_ite {c : Prop} [Decidable c] {r : List Str} {i : Nat} {x : Str} (h : GoodR r) (hx : GoodW x) : GoodR (if c then r.set i x else r) := by
  split
  · refine ⟨by rw [List.length_set]; exact h.1, by rw [List.length_set]; exact h.2.1, fun w hw => ?_⟩
    rcases List.mem_or_eq_of_mem_set hw with q | q
    · exact h.2.2 w q
    · rw [q]; exact hx
  · exact h
def FORMS : List (Str × Int) := ([((Str.ofString "task"), (1 : Int)), ((Str.ofString "table"), (3 : Int)), ((Str.ofString "ask"), (4 : Int)), ((Str.ofString "drop"), (1 : Int)), ((Str.ofString "remove"), (2 : Int)), ((Str.ofString "undo"), (0 : Int)), ((Str.ofString "answer"), (1 : Int))] ++ [((Str.ofString "answers"), (0 : Int)), ((Str.ofString "show"), (1 : Int)), ((Str.ofString "system"), (1 : Int)), ((Str.ofString "kind"), (3 : Int)), ((Str.ofString "way"), (3 : Int)), ((Str.ofString "end"), (0 : Int)), ((Str.ofString "redo"), (0 : Int))])
theorem forms_good : ∀ f ∈ FORMS, GoodW f.1 ∧ 0 ≤ f.2 ∧ f.2 ≤ 4 := by decide +kernel
theorem form_at (number : Int) : GoodW (FORMS.getD ((number % (14 : Int))).toNat default).1 ∧ 0 ≤ (FORMS.getD ((number % (14 : Int))).toNat default).2 ∧ (FORMS.getD ((number % (14 : Int))).toNat default).2 ≤ 4 :=
  forms_good _ (getD_mem (xs := FORMS) (i := ((number % (14 : Int))).toNat) (by show _ < 14; omega))
theorem nat_good {n : Int} (h : 0 ≤ n ∧ n ≤ 1008) : GoodW (Str.ofString (toString n)) := by
  obtain ⟨k, rfl⟩ := Int.eq_ofNat_of_zero_le h.1
  have hl := tos_le8 (z := (k : Int)) (by omega)
  refine ⟨?_, by omega, ?_⟩
  · rw [tos_nat]
    obtain ⟨c, t, e, _⟩ := dg_first k
    show 1 ≤ (dg k).toArray.size
    rw [e]; simp
  · rw [tos_nat]
    show 32 ∉ (dg k).toArray.toList
    rw [List.toList_toArray]
    intro q
    unfold dg at q
    obtain ⟨c, hc, e⟩ := List.mem_map.mp q
    have := Nat.isDigit_of_mem_toDigits (b := 10) (n := k) (c := c) (by decide) (by decide) hc
    unfold Char.isDigit at this
    rw [Bool.and_eq_true, decide_eq_true_eq, decide_eq_true_eq] at this
    have h1 : 48 ≤ c.toNat := this.1
    omega
theorem sel_good : (∀ w ∈ [(Str.ofString "task"), (Str.ofString "table")], GoodW w) ∧ (∀ w ∈ [(Str.ofString "tasks"), (Str.ofString "tables"), (Str.ofString "questions")], GoodW w) ∧ GoodW (Str.ofString "0") ∧ GoodW (Str.ofString "1") ∧ GoodW (Str.ofString "999") ∧ GoodW (Str.ofString "1000") ∧ GoodW (Str.ofString "1001") := by decide +kernel
theorem ask_good {n : Int} (h : 0 ≤ n ∧ n ≤ 1008) : ∀ w ∈ [(Str.ofString "0"), (Str.ofString "1"), (Str.ofString "999"), (Str.ofString "1000"), (Str.ofString "1001"), (Str.ofString (toString n))], GoodW w := by
  intro w hw
  have s := sel_good.2.2
  simp only [List.mem_cons, List.not_mem_nil, or_false] at hw
  rcases hw with rfl | rfl | rfl | rfl | rfl | rfl
  · exact s.1
  · exact s.2.1
  · exact s.2.2.1
  · exact s.2.2.2.1
  · exact s.2.2.2.2
  · exact nat_good h
theorem row_good {words : List Str} (h : ∀ w ∈ words, GoodW w) (number : Int) : GoodR ([(FORMS.getD ((number % (14 : Int))).toNat default).1] ++ (slcD words none (some (FORMS.getD ((number % (14 : Int))).toNat default).2))) := by
  obtain ⟨h1, h2, h3⟩ := form_at number
  generalize FORMS.getD ((number % (14 : Int))).toNat default = f at h1 h2 h3 ⊢
  have hl : (slcD words none (some f.2)).length ≤ 4 := by
    obtain ⟨k, hk⟩ := Int.eq_ofNat_of_zero_le h2
    unfold slcD
    rw [hk, HT.sIx_none, HT.sIx_nat, List.length_take, List.length_drop]
    omega
  refine ⟨by simp, by simp; omega, fun w hw => ?_⟩
  rcases List.mem_append.mp hw with q | q
  · rw [List.mem_singleton.mp q]; exact h1
  · exact h w (mem_slc q)
theorem lformed_good {words : List Str} (h : ∀ w ∈ words, GoodW w) {number : Int} (hn : 0 ≤ number ∧ number ≤ 1008) : GoodR (m_law_formed words number) :=
  goodR_ite (goodR_ite (goodR_ite (row_good h number) (good_getD sel_good.1 (by show _ < 2; omega))) (good_getD sel_good.2.1 (by show _ < 3; omega))) (good_getD (ask_good hn) (by show _ < 6; omega))
set_option hygiene false in
local macro_rules | `(tactic| walk_at "sd") => `(tactic| first | (have hs1 := slc_len (xs := words) (a := none) (b := some (forms1.getD ((number % (14 : Int))).toNat default).2); simp only [List.length_cons, List.length_nil, sizeLine_eq]; omega) | fail)
theorem sc_law_formed : FnScope ["words", "number", "forms", "word", "many", "row"] ["words", "number"] (defScope s_law_formed) := ⟨rfl, rfl, rfl, by decide +kernel, rfl, by decide +kernel, by decide +kernel⟩
def sp_law_formed : SpN := fun zcs zL zKc => ∃ words : List Str, ∃ number : Int, zcs = [.fr ((eL D.str) words), .fr (D.int number)] ∧ zL = [] ∧ (0 ≤ number ∧ number ≤ 1008 ∧ words.length ≤ 100) ∧ ∀ zL', zKc (.fr ((eL D.str) (m_law_formed words number))) zL'
theorem ok_law_formed (T : TX P K mg) : FnOk P w K mg base CX0 1 T.a_law_formed T.d_law_formed ["words", "number"] (SpOf K mg sp_law_formed) := by
  refine T.F_law_formed.okN sc_law_formed (fun zcs zL zKc zh => by obtain ⟨words, number, rfl, _⟩ := zh; rfl) fun zcdv zA zout zst zH zE zB zcs zL zKc zhr zh => ?_
  obtain ⟨words, number, rfl, rfl, hpre, zk⟩ := zh
  have nd := sc_law_formed.nd
  have hSL := sizeLine_eq
  show Exs _ _ _ ⟨[some (.fr ((eL D.str) words)), some (.fr (D.int number)), none, none, none, none], []⟩ _
  refine @exs_cons _ _ _ _ _ _ (@ex_set _ _ _ _ _ _ _ 2 _ _ _ (@ev_tupU _ _ _ _ _ _ (eT2 D.str D.int) [(eT2 D.str D.int) ((Str.ofString "task"), (1 : Int)), (eT2 D.str D.int) ((Str.ofString "table"), (3 : Int)), (eT2 D.str D.int) ((Str.ofString "ask"), (4 : Int)), (eT2 D.str D.int) ((Str.ofString "drop"), (1 : Int)), (eT2 D.str D.int) ((Str.ofString "remove"), (2 : Int)), (eT2 D.str D.int) ((Str.ofString "undo"), (0 : Int)), (eT2 D.str D.int) ((Str.ofString "answer"), (1 : Int))] _ _ [((Str.ofString "task"), (1 : Int)), ((Str.ofString "table"), (3 : Int)), ((Str.ofString "ask"), (4 : Int)), ((Str.ofString "drop"), (1 : Int)), ((Str.ofString "remove"), (2 : Int)), ((Str.ofString "undo"), (0 : Int)), ((Str.ofString "answer"), (1 : Int))] (@ea_consP _ _ _ _ _ _ _ _ _ (ev_tup (ds := [D.str (Str.ofString "task"), D.int (1 : Int)]) (ea_cons ev_str (ea_cons ev_int ea_nil)) (by simp only [List.length_cons, List.length_nil]; decide)) (@ea_consP _ _ _ _ _ _ _ _ _ (ev_tup (ds := [D.str (Str.ofString "table"), D.int (3 : Int)]) (ea_cons ev_str (ea_cons ev_int ea_nil)) (by simp only [List.length_cons, List.length_nil]; decide)) (@ea_consP _ _ _ _ _ _ _ _ _ (ev_tup (ds := [D.str (Str.ofString "ask"), D.int (4 : Int)]) (ea_cons ev_str (ea_cons ev_int ea_nil)) (by simp only [List.length_cons, List.length_nil]; decide)) (@ea_consP _ _ _ _ _ _ _ _ _ (ev_tup (ds := [D.str (Str.ofString "drop"), D.int (1 : Int)]) (ea_cons ev_str (ea_cons ev_int ea_nil)) (by simp only [List.length_cons, List.length_nil]; decide)) (@ea_consP _ _ _ _ _ _ _ _ _ (ev_tup (ds := [D.str (Str.ofString "remove"), D.int (2 : Int)]) (ea_cons ev_str (ea_cons ev_int ea_nil)) (by simp only [List.length_cons, List.length_nil]; decide)) (@ea_consP _ _ _ _ _ _ _ _ _ (ev_tup (ds := [D.str (Str.ofString "undo"), D.int (0 : Int)]) (ea_cons ev_str (ea_cons ev_int ea_nil)) (by simp only [List.length_cons, List.length_nil]; decide)) (@ea_consP _ _ _ _ _ _ _ _ _ (ev_tup (ds := [D.str (Str.ofString "answer"), D.int (1 : Int)]) (ea_cons ev_str (ea_cons ev_int ea_nil)) (by simp only [List.length_cons, List.length_nil]; decide)) ea_nil (by exact Sub.refl) (by exact Sub.refl) (by rfl)) (by exact Sub.refl) (by exact Sub.refl) (by rfl)) (by exact Sub.refl) (by exact Sub.refl) (by rfl)) (by exact Sub.refl) (by exact Sub.refl) (by rfl)) (by exact Sub.refl) (by exact Sub.refl) (by rfl)) (by exact Sub.refl) (by exact Sub.refl) (by rfl)) (by exact Sub.refl) (by exact Sub.refl) (by rfl)) (by rfl) (by simp only [List.length_cons, List.length_nil]; decide)) ?_ nd rfl (.inl rfl) (by rfl) (by first | exact .inl rfl | exact .inr rfl))
  show Exs _ _ _ ⟨[some (.fr ((eL D.str) words)), some (.fr (D.int number)), some (.fr ((eU (eT2 D.str D.int)) [((Str.ofString "task"), (1 : Int)), ((Str.ofString "table"), (3 : Int)), ((Str.ofString "ask"), (4 : Int)), ((Str.ofString "drop"), (1 : Int)), ((Str.ofString "remove"), (2 : Int)), ((Str.ofString "undo"), (0 : Int)), ((Str.ofString "answer"), (1 : Int))])), none, none, none], []⟩ _
  generalize zg_forms : [((Str.ofString "task"), (1 : Int)), ((Str.ofString "table"), (3 : Int)), ((Str.ofString "ask"), (4 : Int)), ((Str.ofString "drop"), (1 : Int)), ((Str.ofString "remove"), (2 : Int)), ((Str.ofString "undo"), (0 : Int)), ((Str.ofString "answer"), (1 : Int))] = forms
  show Exs _ _ _ ⟨[some (.fr ((eL D.str) words)), some (.fr (D.int number)), some (.fr ((eU (eT2 D.str D.int)) forms)), none, none, none], []⟩ _
  have hfl : forms.length = 7 := by rw [← zg_forms]; rfl
  refine exs_cons (ex_set 2 (ev_bin (o_catU (enc := (eT2 D.str D.int)) (xs := forms) (ys := [((Str.ofString "answers"), (0 : Int)), ((Str.ofString "show"), (1 : Int)), ((Str.ofString "system"), (1 : Int)), ((Str.ofString "kind"), (3 : Int)), ((Str.ofString "way"), (3 : Int)), ((Str.ofString "end"), (0 : Int)), ((Str.ofString "redo"), (0 : Int))]) (by walk_at "ne") (by walk_at "sd")) (ev_var 2 rfl (.inl rfl) rfl) (@ev_tupU _ _ _ _ _ _ (eT2 D.str D.int) [(eT2 D.str D.int) ((Str.ofString "answers"), (0 : Int)), (eT2 D.str D.int) ((Str.ofString "show"), (1 : Int)), (eT2 D.str D.int) ((Str.ofString "system"), (1 : Int)), (eT2 D.str D.int) ((Str.ofString "kind"), (3 : Int)), (eT2 D.str D.int) ((Str.ofString "way"), (3 : Int)), (eT2 D.str D.int) ((Str.ofString "end"), (0 : Int)), (eT2 D.str D.int) ((Str.ofString "redo"), (0 : Int))] _ _ [((Str.ofString "answers"), (0 : Int)), ((Str.ofString "show"), (1 : Int)), ((Str.ofString "system"), (1 : Int)), ((Str.ofString "kind"), (3 : Int)), ((Str.ofString "way"), (3 : Int)), ((Str.ofString "end"), (0 : Int)), ((Str.ofString "redo"), (0 : Int))] (@ea_consP _ _ _ _ _ _ _ _ _ (ev_tup (ds := [D.str (Str.ofString "answers"), D.int (0 : Int)]) (ea_cons ev_str (ea_cons ev_int ea_nil)) (by simp only [List.length_cons, List.length_nil]; decide)) (@ea_consP _ _ _ _ _ _ _ _ _ (ev_tup (ds := [D.str (Str.ofString "show"), D.int (1 : Int)]) (ea_cons ev_str (ea_cons ev_int ea_nil)) (by simp only [List.length_cons, List.length_nil]; decide)) (@ea_consP _ _ _ _ _ _ _ _ _ (ev_tup (ds := [D.str (Str.ofString "system"), D.int (1 : Int)]) (ea_cons ev_str (ea_cons ev_int ea_nil)) (by simp only [List.length_cons, List.length_nil]; decide)) (@ea_consP _ _ _ _ _ _ _ _ _ (ev_tup (ds := [D.str (Str.ofString "kind"), D.int (3 : Int)]) (ea_cons ev_str (ea_cons ev_int ea_nil)) (by simp only [List.length_cons, List.length_nil]; decide)) (@ea_consP _ _ _ _ _ _ _ _ _ (ev_tup (ds := [D.str (Str.ofString "way"), D.int (3 : Int)]) (ea_cons ev_str (ea_cons ev_int ea_nil)) (by simp only [List.length_cons, List.length_nil]; decide)) (@ea_consP _ _ _ _ _ _ _ _ _ (ev_tup (ds := [D.str (Str.ofString "end"), D.int (0 : Int)]) (ea_cons ev_str (ea_cons ev_int ea_nil)) (by simp only [List.length_cons, List.length_nil]; decide)) (@ea_consP _ _ _ _ _ _ _ _ _ (ev_tup (ds := [D.str (Str.ofString "redo"), D.int (0 : Int)]) (ea_cons ev_str (ea_cons ev_int ea_nil)) (by simp only [List.length_cons, List.length_nil]; decide)) ea_nil (by exact Sub.refl) (by exact Sub.refl) (by rfl)) (by exact Sub.refl) (by exact Sub.refl) (by rfl)) (by exact Sub.refl) (by exact Sub.refl) (by rfl)) (by exact Sub.refl) (by exact Sub.refl) (by rfl)) (by exact Sub.refl) (by exact Sub.refl) (by rfl)) (by exact Sub.refl) (by exact Sub.refl) (by rfl)) (by exact Sub.refl) (by exact Sub.refl) (by rfl)) (by rfl) (by simp only [List.length_cons, List.length_nil]; decide))) ?_ nd rfl (.inl rfl))
  show Exs _ _ _ ⟨[some (.fr ((eL D.str) words)), some (.fr (D.int number)), some (.fr ((eU (eT2 D.str D.int)) (forms ++ [((Str.ofString "answers"), (0 : Int)), ((Str.ofString "show"), (1 : Int)), ((Str.ofString "system"), (1 : Int)), ((Str.ofString "kind"), (3 : Int)), ((Str.ofString "way"), (3 : Int)), ((Str.ofString "end"), (0 : Int)), ((Str.ofString "redo"), (0 : Int))]))), none, none, none], []⟩ _
  generalize zg_forms1 : (forms ++ [((Str.ofString "answers"), (0 : Int)), ((Str.ofString "show"), (1 : Int)), ((Str.ofString "system"), (1 : Int)), ((Str.ofString "kind"), (3 : Int)), ((Str.ofString "way"), (3 : Int)), ((Str.ofString "end"), (0 : Int)), ((Str.ofString "redo"), (0 : Int))]) = forms1
  show Exs _ _ _ ⟨[some (.fr ((eL D.str) words)), some (.fr (D.int number)), some (.fr ((eU (eT2 D.str D.int)) forms1)), none, none, none], []⟩ _
  have hfl2 : forms1.length = 14 := by rw [← zg_forms1, List.length_append, hfl]; rfl
  refine exs_cons (ex_asg (ev_ix (ix_U (enc := (eT2 D.str D.int)) (by walk_at "sd") (by walk_at "sd")) (ev_var 2 rfl (.inl rfl) rfl) (ev_bin (o_mod (by walk_at "sd")) (ev_var 1 rfl (.inl rfl) rfl) ev_int)) (eg_tup rfl (egs_cons (eg_name 3 nd rfl (.inl rfl)) (egs_cons (eg_name 4 nd rfl (.inl rfl)) egs_nil))) ?_)
  show Exs _ _ _ ⟨[some (.fr ((eL D.str) words)), some (.fr (D.int number)), some (.fr ((eU (eT2 D.str D.int)) forms1)), some (.fr (D.str ((forms1.getD ((number % (14 : Int))).toNat default).1))), some (.fr (D.int ((forms1.getD ((number % (14 : Int))).toNat default).2))), none], []⟩ _
  refine exs_cons (ex_set 5 (ev_catN 100 (enc := D.str) (xs := [(forms1.getD ((number % (14 : Int))).toNat default).1]) (ys := (slcD words none (some (forms1.getD ((number % (14 : Int))).toNat default).2))) (ev_lstF (enc := D.str) [(forms1.getD ((number % (14 : Int))).toNat default).1] (ea_cons (ev_var 3 rfl (.inl rfl) rfl) ea_nil) rfl (by simp only [List.length_cons, List.length_nil]; decide)) (ev_sliceT (enc := D.str) (xs := words) (by exact rfl) (ev_var 0 rfl (.inl rfl) rfl) eo_none (eo_some (ev_var 4 rfl (.inl rfl) rfl))) (by exact rfl) (by exact rfl) (by walk_at "sd") (by simp [names]) (by decide)) ?_ nd rfl (.inl rfl))
  show Exs _ _ _ ⟨[some (.fr ((eL D.str) words)), some (.fr (D.int number)), some (.fr ((eU (eT2 D.str D.int)) forms1)), some (.fr (D.str ((forms1.getD ((number % (14 : Int))).toNat default).1))), some (.fr (D.int ((forms1.getD ((number % (14 : Int))).toNat default).2))), some (.ad 100)], [(100, .fl ((([(forms1.getD ((number % (14 : Int))).toNat default).1] ++ (slcD words none (some (forms1.getD ((number % (14 : Int))).toNat default).2)))).map D.str))]⟩ _
  generalize zg_row : ([(forms1.getD ((number % (14 : Int))).toNat default).1] ++ (slcD words none (some (forms1.getD ((number % (14 : Int))).toNat default).2))) = row
  show Exs _ _ _ ⟨[some (.fr ((eL D.str) words)), some (.fr (D.int number)), some (.fr ((eU (eT2 D.str D.int)) forms1)), some (.fr (D.str ((forms1.getD ((number % (14 : Int))).toNat default).1))), some (.fr (D.int ((forms1.getD ((number % (14 : Int))).toNat default).2))), some (.ad 100)], [(100, .fl ((row).map D.str))]⟩ _
  refine exs_cons (ex_join ⟨[some (.fr ((eL D.str) words)), some (.fr (D.int number)), some (.fr ((eU (eT2 D.str D.int)) forms1)), some (.fr (D.str ((forms1.getD ((number % (14 : Int))).toNat default).1))), some (.fr (D.int ((forms1.getD ((number % (14 : Int))).toNat default).2))), some (.ad 100)], [(100, .fl (((if (((forms1.getD ((number % (14 : Int))).toNat default).1 = (Str.ofString "remove")) ∧ ((1 : Int) < (row.length : Int))) then (row.set ((1 : Int)).toNat ([(Str.ofString "task"), (Str.ofString "table")].getD (((number / (14 : Int)) % (2 : Int))).toNat default)) else row)).map D.str))]⟩ (ex_ifP (bd_and bd_d bd_d) (Ew.et (ew_andP bd_d (et_cmp o_eqs (ev_var 3 rfl (.inl rfl) rfl) ev_str (nomark _)) (fun zhp => (ew_and1 (et_cmp o_gt (ev_len (ln_L (xs := row) (enc := D.str) (by exact rfl)) (ev_var 5 rfl (.inl rfl) rfl) (by exact rfl) T.n_len) ev_int (nomark _)))))) (fun (zh1 : (((forms1.getD ((number % (14 : Int))).toNat default).1 = (Str.ofString "remove")) ∧ ((1 : Int) < (row.length : Int)))) => ?_) (fun (zh1 : ¬ (((forms1.getD ((number % (14 : Int))).toNat default).1 = (Str.ofString "remove")) ∧ ((1 : Int) < (row.length : Int)))) => ?_)) ?_)
  · skip
    refine exs_one (ex_setIT 100 (enc := D.str) (xs := row) ([(Str.ofString "task"), (Str.ofString "table")].getD (((number / (14 : Int)) % (2 : Int))).toNat default) rfl (by exact rfl) (by walk_at "sd") (by walk_at "sd") (ev_ix (ix_U (enc := D.str) (by walk_at "sd") (by walk_at "sd")) (ev_tupU (ds := [D.str (Str.ofString "task"), D.str (Str.ofString "table")]) (enc := D.str) [(Str.ofString "task"), (Str.ofString "table")] (ea_cons ev_str (ea_cons ev_str ea_nil)) rfl (by simp only [List.length_cons, List.length_nil]; decide)) (ev_bin (o_mod (by walk_at "sd")) (ev_bin (o_div (by walk_at "sd") (by walk_at "sd")) (ev_var 1 rfl (.inl rfl) rfl) ev_int) ev_int)) (ev_var 5 rfl (.inl rfl) rfl) ev_int ?_)
    exact ⟨_, rfl, by simp only [if_pos zh1]; exact ⟨⟨.inr rfl, .inr rfl, .inr rfl, .inr rfl, .inr rfl, .inr rfl, trivial⟩, rfl⟩⟩
  · skip
    refine exs_nil ?_
    exact ⟨_, rfl, by simp only [if_neg zh1]; exact ⟨⟨.inr rfl, .inr rfl, .inr rfl, .inr rfl, .inr rfl, .inr rfl, trivial⟩, rfl⟩⟩
  · skip
    show Exs _ _ _ ⟨[some (.fr ((eL D.str) words)), some (.fr (D.int number)), some (.fr ((eU (eT2 D.str D.int)) forms1)), some (.fr (D.str ((forms1.getD ((number % (14 : Int))).toNat default).1))), some (.fr (D.int ((forms1.getD ((number % (14 : Int))).toNat default).2))), some (.ad 100)], [(100, .fl (((if (((forms1.getD ((number % (14 : Int))).toNat default).1 = (Str.ofString "remove")) ∧ ((1 : Int) < (row.length : Int))) then (row.set ((1 : Int)).toNat ([(Str.ofString "task"), (Str.ofString "table")].getD (((number / (14 : Int)) % (2 : Int))).toNat default)) else row)).map D.str))]⟩ _
    generalize zg_row1 : (if (((forms1.getD ((number % (14 : Int))).toNat default).1 = (Str.ofString "remove")) ∧ ((1 : Int) < (row.length : Int))) then (row.set ((1 : Int)).toNat ([(Str.ofString "task"), (Str.ofString "table")].getD (((number / (14 : Int)) % (2 : Int))).toNat default)) else row) = row1
    show Exs _ _ _ ⟨[some (.fr ((eL D.str) words)), some (.fr (D.int number)), some (.fr ((eU (eT2 D.str D.int)) forms1)), some (.fr (D.str ((forms1.getD ((number % (14 : Int))).toNat default).1))), some (.fr (D.int ((forms1.getD ((number % (14 : Int))).toNat default).2))), some (.ad 100)], [(100, .fl ((row1).map D.str))]⟩ _
    refine exs_cons (ex_join ⟨[some (.fr ((eL D.str) words)), some (.fr (D.int number)), some (.fr ((eU (eT2 D.str D.int)) forms1)), some (.fr (D.str ((forms1.getD ((number % (14 : Int))).toNat default).1))), some (.fr (D.int ((forms1.getD ((number % (14 : Int))).toNat default).2))), some (.ad 100)], [(100, .fl (((if (((forms1.getD ((number % (14 : Int))).toNat default).1 = (Str.ofString "show")) ∧ ((1 : Int) < (row1.length : Int))) then (row1.set ((1 : Int)).toNat ([(Str.ofString "tasks"), (Str.ofString "tables"), (Str.ofString "questions")].getD (((number / (14 : Int)) % (3 : Int))).toNat default)) else row1)).map D.str))]⟩ (ex_ifP (bd_and bd_d bd_d) (Ew.et (ew_andP bd_d (et_cmp o_eqs (ev_var 3 rfl (.inl rfl) rfl) ev_str (nomark _)) (fun zhp => (ew_and1 (et_cmp o_gt (ev_len (ln_L (xs := row1) (enc := D.str) (by exact rfl)) (ev_var 5 rfl (.inl rfl) rfl) (by exact rfl) T.n_len) ev_int (nomark _)))))) (fun (zh2 : (((forms1.getD ((number % (14 : Int))).toNat default).1 = (Str.ofString "show")) ∧ ((1 : Int) < (row1.length : Int)))) => ?_) (fun (zh2 : ¬ (((forms1.getD ((number % (14 : Int))).toNat default).1 = (Str.ofString "show")) ∧ ((1 : Int) < (row1.length : Int)))) => ?_)) ?_)
    · skip
      refine exs_one (ex_setIT 100 (enc := D.str) (xs := row1) ([(Str.ofString "tasks"), (Str.ofString "tables"), (Str.ofString "questions")].getD (((number / (14 : Int)) % (3 : Int))).toNat default) rfl (by exact rfl) (by walk_at "sd") (by walk_at "sd") (ev_ix (ix_U (enc := D.str) (by walk_at "sd") (by walk_at "sd")) (ev_tupU (ds := [D.str (Str.ofString "tasks"), D.str (Str.ofString "tables"), D.str (Str.ofString "questions")]) (enc := D.str) [(Str.ofString "tasks"), (Str.ofString "tables"), (Str.ofString "questions")] (ea_cons ev_str (ea_cons ev_str (ea_cons ev_str ea_nil))) rfl (by simp only [List.length_cons, List.length_nil]; decide)) (ev_bin (o_mod (by walk_at "sd")) (ev_bin (o_div (by walk_at "sd") (by walk_at "sd")) (ev_var 1 rfl (.inl rfl) rfl) ev_int) ev_int)) (ev_var 5 rfl (.inl rfl) rfl) ev_int ?_)
      exact ⟨_, rfl, by simp only [if_pos zh2]; exact ⟨⟨.inr rfl, .inr rfl, .inr rfl, .inr rfl, .inr rfl, .inr rfl, trivial⟩, rfl⟩⟩
    · skip
      refine exs_nil ?_
      exact ⟨_, rfl, by simp only [if_neg zh2]; exact ⟨⟨.inr rfl, .inr rfl, .inr rfl, .inr rfl, .inr rfl, .inr rfl, trivial⟩, rfl⟩⟩
    · skip
      show Exs _ _ _ ⟨[some (.fr ((eL D.str) words)), some (.fr (D.int number)), some (.fr ((eU (eT2 D.str D.int)) forms1)), some (.fr (D.str ((forms1.getD ((number % (14 : Int))).toNat default).1))), some (.fr (D.int ((forms1.getD ((number % (14 : Int))).toNat default).2))), some (.ad 100)], [(100, .fl (((if (((forms1.getD ((number % (14 : Int))).toNat default).1 = (Str.ofString "show")) ∧ ((1 : Int) < (row1.length : Int))) then (row1.set ((1 : Int)).toNat ([(Str.ofString "tasks"), (Str.ofString "tables"), (Str.ofString "questions")].getD (((number / (14 : Int)) % (3 : Int))).toNat default)) else row1)).map D.str))]⟩ _
      generalize zg_row2 : (if (((forms1.getD ((number % (14 : Int))).toNat default).1 = (Str.ofString "show")) ∧ ((1 : Int) < (row1.length : Int))) then (row1.set ((1 : Int)).toNat ([(Str.ofString "tasks"), (Str.ofString "tables"), (Str.ofString "questions")].getD (((number / (14 : Int)) % (3 : Int))).toNat default)) else row1) = row2
      show Exs _ _ _ ⟨[some (.fr ((eL D.str) words)), some (.fr (D.int number)), some (.fr ((eU (eT2 D.str D.int)) forms1)), some (.fr (D.str ((forms1.getD ((number % (14 : Int))).toNat default).1))), some (.fr (D.int ((forms1.getD ((number % (14 : Int))).toNat default).2))), some (.ad 100)], [(100, .fl ((row2).map D.str))]⟩ _
      refine exs_cons (ex_join ⟨[some (.fr ((eL D.str) words)), some (.fr (D.int number)), some (.fr ((eU (eT2 D.str D.int)) forms1)), some (.fr (D.str ((forms1.getD ((number % (14 : Int))).toNat default).1))), some (.fr (D.int ((forms1.getD ((number % (14 : Int))).toNat default).2))), some (.ad 100)], [(100, .fl (((if (((forms1.getD ((number % (14 : Int))).toNat default).1 = (Str.ofString "ask")) ∧ ((2 : Int) < (row2.length : Int))) then (row2.set ((2 : Int)).toNat ([(Str.ofString "0"), (Str.ofString "1"), (Str.ofString "999"), (Str.ofString "1000"), (Str.ofString "1001"), (Str.ofString (toString number))].getD (((number / (14 : Int)) % (6 : Int))).toNat default)) else row2)).map D.str))]⟩ (ex_ifP (bd_and bd_d bd_d) (Ew.et (ew_andP bd_d (et_cmp o_eqs (ev_var 3 rfl (.inl rfl) rfl) ev_str (nomark _)) (fun zhp => (ew_and1 (et_cmp o_gt (ev_len (ln_L (xs := row2) (enc := D.str) (by exact rfl)) (ev_var 5 rfl (.inl rfl) rfl) (by exact rfl) T.n_len) ev_int (nomark _)))))) (fun (zh3 : (((forms1.getD ((number % (14 : Int))).toNat default).1 = (Str.ofString "ask")) ∧ ((2 : Int) < (row2.length : Int)))) => ?_) (fun (zh3 : ¬ (((forms1.getD ((number % (14 : Int))).toNat default).1 = (Str.ofString "ask")) ∧ ((2 : Int) < (row2.length : Int)))) => ?_)) ?_)
      · skip
        refine exs_one (ex_setIT 100 (enc := D.str) (xs := row2) ([(Str.ofString "0"), (Str.ofString "1"), (Str.ofString "999"), (Str.ofString "1000"), (Str.ofString "1001"), (Str.ofString (toString number))].getD (((number / (14 : Int)) % (6 : Int))).toNat default) rfl (by exact rfl) (by walk_at "sd") (by walk_at "sd") (ev_ix (ix_U (enc := D.str) (by walk_at "sd") (by walk_at "sd")) (@ev_tupU _ _ _ _ _ _ D.str [D.str (Str.ofString "0"), D.str (Str.ofString "1"), D.str (Str.ofString "999"), D.str (Str.ofString "1000"), D.str (Str.ofString "1001"), D.str (Str.ofString (toString number))] _ _ [(Str.ofString "0"), (Str.ofString "1"), (Str.ofString "999"), (Str.ofString "1000"), (Str.ofString "1001"), (Str.ofString (toString number))] (@ea_consP _ _ _ _ _ _ _ _ _ ev_str (@ea_consP _ _ _ _ _ _ _ _ _ ev_str (@ea_consP _ _ _ _ _ _ _ _ _ ev_str (@ea_consP _ _ _ _ _ _ _ _ _ ev_str (@ea_consP _ _ _ _ _ _ _ _ _ ev_str (@ea_consP _ _ _ _ _ _ _ _ _ (ev_callTy (ds := [D.int number]) (c_str (by walk_at "str")) (ea_cons (ev_var 1 rfl (.inl rfl) rfl) ea_nil) (by exact rfl) T.n_str (by decide +kernel)) ea_nil (by exact Sub.refl) (by exact Sub.refl) (by rfl)) (by exact Sub.refl) (by exact Sub.refl) (by rfl)) (by exact Sub.refl) (by exact Sub.refl) (by rfl)) (by exact Sub.refl) (by exact Sub.refl) (by rfl)) (by exact Sub.refl) (by exact Sub.refl) (by rfl)) (by exact Sub.refl) (by exact Sub.refl) (by rfl)) (by rfl) (by simp only [List.length_cons, List.length_nil]; decide)) (ev_bin (o_mod (by walk_at "sd")) (ev_bin (o_div (by walk_at "sd") (by walk_at "sd")) (ev_var 1 rfl (.inl rfl) rfl) ev_int) ev_int)) (ev_var 5 rfl (.inl rfl) rfl) ev_int ?_)
        exact ⟨_, rfl, by simp only [if_pos zh3]; exact ⟨⟨.inr rfl, .inr rfl, .inr rfl, .inr rfl, .inr rfl, .inr rfl, trivial⟩, rfl⟩⟩
      · skip
        refine exs_nil ?_
        exact ⟨_, rfl, by simp only [if_neg zh3]; exact ⟨⟨.inr rfl, .inr rfl, .inr rfl, .inr rfl, .inr rfl, .inr rfl, trivial⟩, rfl⟩⟩
      · skip
        show Exs _ _ _ ⟨[some (.fr ((eL D.str) words)), some (.fr (D.int number)), some (.fr ((eU (eT2 D.str D.int)) forms1)), some (.fr (D.str ((forms1.getD ((number % (14 : Int))).toNat default).1))), some (.fr (D.int ((forms1.getD ((number % (14 : Int))).toNat default).2))), some (.ad 100)], [(100, .fl (((if (((forms1.getD ((number % (14 : Int))).toNat default).1 = (Str.ofString "ask")) ∧ ((2 : Int) < (row2.length : Int))) then (row2.set ((2 : Int)).toNat ([(Str.ofString "0"), (Str.ofString "1"), (Str.ofString "999"), (Str.ofString "1000"), (Str.ofString "1001"), (Str.ofString (toString number))].getD (((number / (14 : Int)) % (6 : Int))).toNat default)) else row2)).map D.str))]⟩ _
        generalize zg_row3 : (if (((forms1.getD ((number % (14 : Int))).toNat default).1 = (Str.ofString "ask")) ∧ ((2 : Int) < (row2.length : Int))) then (row2.set ((2 : Int)).toNat ([(Str.ofString "0"), (Str.ofString "1"), (Str.ofString "999"), (Str.ofString "1000"), (Str.ofString "1001"), (Str.ofString (toString number))].getD (((number / (14 : Int)) % (6 : Int))).toNat default)) else row2) = row3
        show Exs _ _ _ ⟨[some (.fr ((eL D.str) words)), some (.fr (D.int number)), some (.fr ((eU (eT2 D.str D.int)) forms1)), some (.fr (D.str ((forms1.getD ((number % (14 : Int))).toNat default).1))), some (.fr (D.int ((forms1.getD ((number % (14 : Int))).toNat default).2))), some (.ad 100)], [(100, .fl ((row3).map D.str))]⟩ _
        refine exs_freezeT 100 (xs := row3) (enc := D.str) (by exact rfl) ?_
        show Exs _ _ _ ⟨[some (.fr ((eL D.str) words)), some (.fr (D.int number)), some (.fr ((eU (eT2 D.str D.int)) forms1)), some (.fr (D.str ((forms1.getD ((number % (14 : Int))).toNat default).1))), some (.fr (D.int ((forms1.getD ((number % (14 : Int))).toNat default).2))), some (.fr ((eL D.str) row3))], []⟩ _
        refine exs_one (ex_ret (ev_var 5 rfl (.inl rfl) rfl) ?_)
        have efin : m_law_formed words number = row3 := by subst zg_row3; subst zg_row2; subst zg_row1; subst zg_row; subst zg_forms1; subst zg_forms; simp only [m_law_formed, not_true_eq_false, not_false_eq_true, ↓reduceIte]
        rw [efin] at zk
        exact zk _
def m_law_is_name_l0 (zs0 : Unit) (zy0 : Str) : Except Bool (Unit) :=
  if (¬ ((inS zy0 (Str.ofString "abcdefghijklmnopqrstuvwxyz0123456789")) = true)) then .error false else .ok ()
def m_law_is_name (word : Str) : Bool :=
  if (((word.length : Int) < (1 : Int)) ∨ ((12 : Int) < (word.length : Int))) then false else match (runE (m_law_is_name_l0) (chs word) ()) with | .error r => r | .ok zs0 => true
theorem run_all {τ : Type} (P : τ → Bool) (f : Unit → τ → Except Bool Unit) (hf : ∀ c, f () c = if ¬ (P c = true) then .error false else .ok ()) : ∀ ys : List τ, runE f ys () = if ys.all P = true then .ok () else .error false
  | [] => rfl
  | y :: ys => by
    rw [runE_cons, hf y, List.all_cons]
    by_cases h : P y = true
    · rw [if_neg (fun q => q h), h, Bool.true_and]
      exact run_all P f hf ys
    · rw [if_pos h, if_neg (fun q => by rw [Bool.and_eq_true] at q; exact h q.1)]
theorem lname_eq (w : Str) : m_law_is_name w = m_is_name w := by
  unfold m_law_is_name m_is_name
  rw [run_all (fun z => inS z (Str.ofString "abcdefghijklmnopqrstuvwxyz0123456789")) m_law_is_name_l0 (fun c => rfl)]
  by_cases h : ((w.length : Int) < (1 : Int)) ∨ ((12 : Int) < (w.length : Int))
  · rw [if_pos h, if_pos (show (¬ (true = true)) ∨ (¬ (((1 : Int) ≤ (w.length : Int)) ∧ ((w.length : Int) ≤ (12 : Int)))) from .inr (by omega))]
  · rw [if_neg h, if_neg (show ¬ ((¬ (true = true)) ∨ (¬ (((1 : Int) ≤ (w.length : Int)) ∧ ((w.length : Int) ≤ (12 : Int))))) from by rintro (q | q); exact q rfl; omega), List.all_map]
    by_cases q : (chs w).all (fun z => inS z (Str.ofString "abcdefghijklmnopqrstuvwxyz0123456789")) = true
    · rw [if_pos q]; exact q.symm
    · rw [if_neg q]; exact (Bool.eq_false_iff.mpr q).symm
theorem sc_law_is_name : FnScope ["word", "char"] ["word"] (defScope s_law_is_name) := ⟨rfl, rfl, rfl, by decide +kernel, rfl, by decide +kernel, by decide +kernel⟩
def sp_law_is_name : SpN := fun zcs zL zKc => ∃ word : Str, zcs = [.fr (D.str word)] ∧ zL = [] ∧ (word.length ≤ 100) ∧ ∀ zL', zKc (.fr (D.bl (m_law_is_name word))) zL'
theorem ok_law_is_name (T : TX P K mg) : FnOk P w K mg base CX0 1 T.a_law_is_name T.d_law_is_name ["word"] (SpOf K mg sp_law_is_name) := by
  refine T.F_law_is_name.okN sc_law_is_name (fun zcs zL zKc zh => by obtain ⟨word, rfl, _⟩ := zh; rfl) fun zcdv zA zout zst zH zE zB zcs zL zKc zhr zh => ?_
  obtain ⟨word, rfl, rfl, hpre, zk⟩ := zh
  have nd := sc_law_is_name.nd
  have hSL := sizeLine_eq
  show Exs _ _ _ ⟨[some (.fr (D.str word)), none], []⟩ _
  refine exs_cons (ex_ifP (bd_or bd_d bd_d) (Ew.et (ew_orP bd_d (et_cmp o_lt (ev_len (.s (by walk_at "sd")) (ev_var 0 rfl (.inl rfl) rfl) (by exact rfl) T.n_len) ev_int (nomark _)) (fun zhp => (ew_or1 (et_cmp o_gt (ev_len (.s (by walk_at "sd")) (ev_var 0 rfl (.inl rfl) rfl) (by exact rfl) T.n_len) ev_int (nomark _)))))) (fun (zh1 : (((word.length : Int) < (1 : Int)) ∨ ((12 : Int) < (word.length : Int)))) => ?_) (fun (zh1 : ¬ (((word.length : Int) < (1 : Int)) ∨ ((12 : Int) < (word.length : Int)))) => ?_))
  · skip
    refine exs_one (ex_ret ev_bl ?_)
    have efin : m_law_is_name word = false := by simp only [m_law_is_name, not_true_eq_false, not_false_eq_true, ↓reduceIte, ↓if_pos zh1]
    rw [efin] at zk
    exact zk _
  · skip
    refine exs_nil ?_
    show Exs _ _ _ ⟨[some (.fr (D.str word)), none], []⟩ _
    refine exs_cons (ex_forE (enc := D.str) (fun (zs0 : Unit) => (⟨[some (.fr (D.str word)), none], []⟩ : Nz.S)) (m_law_is_name_l0) () (fun (zi0 : Nat) (zs0 : Unit) => True) (fun r c S' => c = .fr (D.bl r) ∧ True) (src_str (ev_var 0 rfl (.inl rfl) rfl)) ⟨⟨.inr rfl, .inl rfl, trivial⟩, rfl⟩ trivial ?_ ?_ ?_ PassesOwn.never rfl)
    · intro zi0 zy0 zs0 zhy0 zrun0 zq0
      skip
      refine ⟨⟨[some (.fr (D.str word)), some (.fr (D.str zy0))], []⟩, (eg_name 1 nd rfl (.inl rfl)), ?_⟩
      refine exs_one (ex_ifP (bd_not Iff.rfl) (et_cmp o_ninS (ev_var 1 rfl (.inl rfl) rfl) ev_str (by rfl)) (fun (zh2 : (¬ ((inS zy0 (Str.ofString "abcdefghijklmnopqrstuvwxyz0123456789")) = true))) => ?_) (fun (zh2 : ¬ (¬ ((inS zy0 (Str.ofString "abcdefghijklmnopqrstuvwxyz0123456789")) = true))) => ?_))
      · skip
        refine exs_one (ex_ret ev_bl ?_)
        have est : (m_law_is_name_l0) zs0 zy0 = .error false := by simp only [m_law_is_name_l0, not_true_eq_false, not_false_eq_true, ↓reduceIte, ↓if_pos zh2]
        exact ⟨_, est, rfl, trivial⟩
      · skip
        refine exs_nil ?_
        have est : (m_law_is_name_l0) zs0 zy0 = .ok () := by simp only [m_law_is_name_l0, not_true_eq_false, not_false_eq_true, ↓reduceIte, ↓if_neg zh2]
        exact ⟨_, est, ⟨⟨.inr rfl, .inl rfl, trivial⟩, rfl⟩, trivial⟩
    · rintro zr zc zS zrun0 ⟨rfl, zhL⟩
      skip
      have zh3 := zrun0
      have efin : m_law_is_name word = zr := by simp only [m_law_is_name, not_true_eq_false, not_false_eq_true, ↓reduceIte, ↓if_neg zh1, ↓zh3]
      rw [efin] at zk
      exact zk _
    · intro zs0 zrun0 zq0
      have zh4 := zrun0
      show Exs _ _ _ ⟨[some (.fr (D.str word)), none], []⟩ _
      refine exs_one (ex_ret ev_bl ?_)
      have efin : m_law_is_name word = true := by simp only [m_law_is_name, not_true_eq_false, not_false_eq_true, ↓reduceIte, ↓if_neg zh1, ↓zh4]
      rw [efin] at zk
      exact zk _
def m_law_is_number_l0 (zs0 : Unit) (zy0 : Str) : Except Bool (Unit) :=
  if (¬ ((inS zy0 (Str.ofString "0123456789")) = true)) then .error false else .ok ()
def m_law_is_number (word : Str) : Bool :=
  if (((word.length : Int) < (1 : Int)) ∨ (((7 : Int) < (word.length : Int)) ∨ (((1 : Int) < (word.length : Int)) ∧ ((chA word (0 : Int)) = (Str.ofString "0"))))) then false else match (runE (m_law_is_number_l0) (chs word) ()) with | .error r => r | .ok zs0 => true
theorem lnum_eq (w : Str) : m_law_is_number w = m_is_number w := by
  unfold m_law_is_number m_is_number m_read_number
  rw [run_all (fun z => inS z (Str.ofString "0123456789")) m_law_is_number_l0 (fun c => rfl)]
  by_cases h : ((w.length : Int) < (1 : Int)) ∨ ((7 : Int) < (w.length : Int))
  · rw [if_pos (show ((w.length : Int) < (1 : Int)) ∨ (((7 : Int) < (w.length : Int)) ∨ (((1 : Int) < (w.length : Int)) ∧ ((chA w (0 : Int)) = (Str.ofString "0")))) from by rcases h with h | h; exact .inl h; exact .inr (.inl h)), if_pos (show ¬ (((1 : Int) ≤ (w.length : Int)) ∧ ((w.length : Int) ≤ (7 : Int))) from by omega)]; rfl
  · by_cases q0 : ((1 : Int) < (w.length : Int)) ∧ (chA w (0 : Int)) = (Str.ofString "0")
    · rw [if_pos (show ((w.length : Int) < (1 : Int)) ∨ (((7 : Int) < (w.length : Int)) ∨ (((1 : Int) < (w.length : Int)) ∧ ((chA w (0 : Int)) = (Str.ofString "0")))) from .inr (.inr q0)), if_neg (show ¬ (¬ (((1 : Int) ≤ (w.length : Int)) ∧ ((w.length : Int) ≤ (7 : Int)))) from by omega)]
      split
      · rfl
      · rw [if_pos ⟨q0.2, q0.1⟩]; rfl
    · rw [if_neg (show ¬ (((w.length : Int) < (1 : Int)) ∨ (((7 : Int) < (w.length : Int)) ∨ (((1 : Int) < (w.length : Int)) ∧ ((chA w (0 : Int)) = (Str.ofString "0"))))) from by rintro (q | q | q); exact h (.inl q); exact h (.inr q); exact q0 q), if_neg (show ¬ (¬ (((1 : Int) ≤ (w.length : Int)) ∧ ((w.length : Int) ≤ (7 : Int)))) from by omega), List.all_map]
      by_cases q : (chs w).all (fun z => inS z (Str.ofString "0123456789")) = true
      · have q' : (chs w).all ((fun b => b) ∘ fun z => inS z (Str.ofString "0123456789")) = true := q
        rw [if_pos q, if_neg (fun z => z q'), if_neg (fun z => q0 ⟨z.2, z.1⟩)]; rfl
      · have q' : ¬ (chs w).all ((fun b => b) ∘ fun z => inS z (Str.ofString "0123456789")) = true := q
        rw [if_neg q, if_pos q']; rfl
theorem lnum_int {w : Str} (h : m_law_is_number w = true) : PySem.intText? w = some ((PySem.intText? w).getD 0) ∧ w.length ≤ 7 := num_int (by rw [← lnum_eq]; exact h)
theorem sc_law_is_number : FnScope ["word", "char"] ["word"] (defScope s_law_is_number) := ⟨rfl, rfl, rfl, by decide +kernel, rfl, by decide +kernel, by decide +kernel⟩
def sp_law_is_number : SpN := fun zcs zL zKc => ∃ word : Str, zcs = [.fr (D.str word)] ∧ zL = [] ∧ (word.length ≤ 100) ∧ ∀ zL', zKc (.fr (D.bl (m_law_is_number word))) zL'
theorem ok_law_is_number (T : TX P K mg) : FnOk P w K mg base CX0 1 T.a_law_is_number T.d_law_is_number ["word"] (SpOf K mg sp_law_is_number) := by
  refine T.F_law_is_number.okN sc_law_is_number (fun zcs zL zKc zh => by obtain ⟨word, rfl, _⟩ := zh; rfl) fun zcdv zA zout zst zH zE zB zcs zL zKc zhr zh => ?_
  obtain ⟨word, rfl, rfl, hpre, zk⟩ := zh
  have nd := sc_law_is_number.nd
  have hSL := sizeLine_eq
  show Exs _ _ _ ⟨[some (.fr (D.str word)), none], []⟩ _
  refine exs_cons (ex_ifP (bd_or bd_d (bd_or bd_d (bd_and bd_d bd_d))) (Ew.et (ew_orP bd_d (et_cmp o_lt (ev_len (.s (by walk_at "sd")) (ev_var 0 rfl (.inl rfl) rfl) (by exact rfl) T.n_len) ev_int (nomark _)) (fun zhp => (ew_orP bd_d (et_cmp o_gt (ev_len (.s (by walk_at "sd")) (ev_var 0 rfl (.inl rfl) rfl) (by exact rfl) T.n_len) ev_int (nomark _)) (fun zhp => (ew_or1 (Ew.et (ew_andP bd_d (et_cmp o_gt (ev_len (.s (by walk_at "sd")) (ev_var 0 rfl (.inl rfl) rfl) (by exact rfl) T.n_len) ev_int (nomark _)) (fun zhp => (ew_and1 (et_cmp o_eqs (ev_ixS (ev_var 0 rfl (.inl rfl) rfl) ev_int (by walk_at "sd") (by walk_at "sd") (by walk_at "sd")) ev_str (nomark _)))))))))))) (fun (zh1 : (((word.length : Int) < (1 : Int)) ∨ (((7 : Int) < (word.length : Int)) ∨ (((1 : Int) < (word.length : Int)) ∧ ((chA word (0 : Int)) = (Str.ofString "0")))))) => ?_) (fun (zh1 : ¬ (((word.length : Int) < (1 : Int)) ∨ (((7 : Int) < (word.length : Int)) ∨ (((1 : Int) < (word.length : Int)) ∧ ((chA word (0 : Int)) = (Str.ofString "0")))))) => ?_))
  · skip
    refine exs_one (ex_ret ev_bl ?_)
    have efin : m_law_is_number word = false := by simp only [m_law_is_number, not_true_eq_false, not_false_eq_true, ↓reduceIte, ↓if_pos zh1]
    rw [efin] at zk
    exact zk _
  · skip
    refine exs_nil ?_
    show Exs _ _ _ ⟨[some (.fr (D.str word)), none], []⟩ _
    refine exs_cons (ex_forE (enc := D.str) (fun (zs0 : Unit) => (⟨[some (.fr (D.str word)), none], []⟩ : Nz.S)) (m_law_is_number_l0) () (fun (zi0 : Nat) (zs0 : Unit) => True) (fun r c S' => c = .fr (D.bl r) ∧ True) (src_str (ev_var 0 rfl (.inl rfl) rfl)) ⟨⟨.inr rfl, .inl rfl, trivial⟩, rfl⟩ trivial ?_ ?_ ?_ PassesOwn.never rfl)
    · intro zi0 zy0 zs0 zhy0 zrun0 zq0
      skip
      refine ⟨⟨[some (.fr (D.str word)), some (.fr (D.str zy0))], []⟩, (eg_name 1 nd rfl (.inl rfl)), ?_⟩
      refine exs_one (ex_ifP (bd_not Iff.rfl) (et_cmp o_ninS (ev_var 1 rfl (.inl rfl) rfl) ev_str (by rfl)) (fun (zh2 : (¬ ((inS zy0 (Str.ofString "0123456789")) = true))) => ?_) (fun (zh2 : ¬ (¬ ((inS zy0 (Str.ofString "0123456789")) = true))) => ?_))
      · skip
        refine exs_one (ex_ret ev_bl ?_)
        have est : (m_law_is_number_l0) zs0 zy0 = .error false := by simp only [m_law_is_number_l0, not_true_eq_false, not_false_eq_true, ↓reduceIte, ↓if_pos zh2]
        exact ⟨_, est, rfl, trivial⟩
      · skip
        refine exs_nil ?_
        have est : (m_law_is_number_l0) zs0 zy0 = .ok () := by simp only [m_law_is_number_l0, not_true_eq_false, not_false_eq_true, ↓reduceIte, ↓if_neg zh2]
        exact ⟨_, est, ⟨⟨.inr rfl, .inl rfl, trivial⟩, rfl⟩, trivial⟩
    · rintro zr zc zS zrun0 ⟨rfl, zhL⟩
      skip
      have zh3 := zrun0
      have efin : m_law_is_number word = zr := by simp only [m_law_is_number, not_true_eq_false, not_false_eq_true, ↓reduceIte, ↓if_neg zh1, ↓zh3]
      rw [efin] at zk
      exact zk _
    · intro zs0 zrun0 zq0
      have zh4 := zrun0
      show Exs _ _ _ ⟨[some (.fr (D.str word)), none], []⟩ _
      refine exs_one (ex_ret ev_bl ?_)
      have efin : m_law_is_number word = true := by simp only [m_law_is_number, not_true_eq_false, not_false_eq_true, ↓reduceIte, ↓if_neg zh1, ↓zh4]
      rw [efin] at zk
      exact zk _
def m_law_all_l0 (numbers : Bool) (zs0 : Unit) (zy0 : Str) : Except Bool (Unit) :=
  if ((numbers = true) ∧ (¬ ((m_law_is_number zy0) = true))) then .error false else if ((¬ (numbers = true)) ∧ (¬ ((m_law_is_name zy0) = true))) then .error false else .ok ()
def m_law_all (words : List Str) (numbers : Bool) : Bool :=
  match (runE (m_law_all_l0 numbers) words ()) with | .error r => r | .ok zs0 => true
set_option hygiene false in
local macro_rules | `(tactic| walk_at "pre") => `(tactic| first | exact hpre.2 _ (List.mem_of_getElem? (by assumption)) | exact Nat.le_trans (hpre.2 _ (List.mem_of_getElem? (by assumption))) (by decide) | fail)
theorem sc_law_all : FnScope ["words", "numbers", "word"] ["words", "numbers"] (defScope s_law_all) := ⟨rfl, rfl, rfl, by decide +kernel, rfl, by decide +kernel, by decide +kernel⟩
def sp_law_all : SpN := fun zcs zL zKc => ∃ words : List Str, ∃ numbers : Bool, zcs = [.fr ((eL D.str) words), .fr (D.bl numbers)] ∧ zL = [] ∧ (words.length ≤ 100 ∧ ∀ w ∈ words, w.length ≤ 100) ∧ ∀ zL', zKc (.fr (D.bl (m_law_all words numbers))) zL'
theorem ok_law_all (T : TX P K mg) : FnOk P w K mg base CX0 2 T.a_law_all T.d_law_all ["words", "numbers"] (SpOf K mg sp_law_all) := by
  have O_law_is_name := ok_law_is_name (P := P) (w := w) (base := base) T
  have O_law_is_number := ok_law_is_number (P := P) (w := w) (base := base) T
  refine T.F_law_all.okN sc_law_all (fun zcs zL zKc zh => by obtain ⟨words, numbers, rfl, _⟩ := zh; rfl) fun zcdv zA zout zst zH zE zB zcs zL zKc zhr zh => ?_
  obtain ⟨words, numbers, rfl, rfl, hpre, zk⟩ := zh
  have nd := sc_law_all.nd
  have hSL := sizeLine_eq
  show Exs _ _ _ ⟨[some (.fr ((eL D.str) words)), some (.fr (D.bl numbers)), none], []⟩ _
  refine exs_cons (ex_forE (enc := D.str) (fun (zs0 : Unit) => (⟨[some (.fr ((eL D.str) words)), some (.fr (D.bl numbers)), none], []⟩ : Nz.S)) (m_law_all_l0 numbers) () (fun (zi0 : Nat) (zs0 : Unit) => True) (fun r c S' => c = .fr (D.bl r) ∧ True) (src_listT (ev_var 0 rfl (.inl rfl) rfl)) ⟨⟨.inr rfl, .inr rfl, .inl rfl, trivial⟩, rfl⟩ trivial ?_ ?_ ?_ PassesOwn.never rfl)
  · intro zi0 zy0 zs0 zhy0 zrun0 zq0
    skip
    refine ⟨⟨[some (.fr ((eL D.str) words)), some (.fr (D.bl numbers)), some (.fr (D.str zy0))], []⟩, (eg_name 2 nd rfl (.inl rfl)), ?_⟩
    refine exs_cons (ex_ifP (bd_and Iff.rfl (bd_not Iff.rfl)) (Ew.et (ew_andP Iff.rfl (et_val (ev_var 1 rfl (.inl rfl) rfl)) (fun zhp => (ew_and1 (et_not (et_val (ev_call (ds := [D.str zy0]) (ds' := []) (dvs := []) (dfs := []) O_law_is_number (zhr.mono (by decide)) T.m_law_is_number T.k_law_is_number T.b_law_is_number .nil (fun _ => .nil) (ea_cons (ev_var 2 rfl (.inl rfl) rfl) ea_nil) (fun _ zkk => ⟨zy0, rfl, rfl, (by walk_at "pre"), zkk⟩) (by exact rfl)))))))) (fun (zh1 : ((numbers = true) ∧ (¬ ((m_law_is_number zy0) = true)))) => ?_) (fun (zh1 : ¬ ((numbers = true) ∧ (¬ ((m_law_is_number zy0) = true)))) => ?_))
    · skip
      refine exs_one (ex_ret ev_bl ?_)
      have est : (m_law_all_l0 numbers) zs0 zy0 = .error false := by simp only [m_law_all_l0, not_true_eq_false, not_false_eq_true, ↓reduceIte, ↓if_pos zh1]
      exact ⟨_, est, rfl, trivial⟩
    · skip
      refine exs_nil ?_
      show Exs _ _ _ ⟨[some (.fr ((eL D.str) words)), some (.fr (D.bl numbers)), some (.fr (D.str zy0))], []⟩ _
      refine exs_one (ex_ifP (bd_and (bd_not Iff.rfl) (bd_not Iff.rfl)) (Ew.et (ew_andP (bd_not Iff.rfl) (et_not (et_val (ev_var 1 rfl (.inl rfl) rfl))) (fun zhp => (ew_and1 (et_not (et_val (ev_call (ds := [D.str zy0]) (ds' := []) (dvs := []) (dfs := []) O_law_is_name (zhr.mono (by decide)) T.m_law_is_name T.k_law_is_name T.b_law_is_name .nil (fun _ => .nil) (ea_cons (ev_var 2 rfl (.inl rfl) rfl) ea_nil) (fun _ zkk => ⟨zy0, rfl, rfl, (by walk_at "pre"), zkk⟩) (by exact rfl)))))))) (fun (zh2 : ((¬ (numbers = true)) ∧ (¬ ((m_law_is_name zy0) = true)))) => ?_) (fun (zh2 : ¬ ((¬ (numbers = true)) ∧ (¬ ((m_law_is_name zy0) = true)))) => ?_))
      · skip
        refine exs_one (ex_ret ev_bl ?_)
        have est : (m_law_all_l0 numbers) zs0 zy0 = .error false := by simp only [m_law_all_l0, not_true_eq_false, not_false_eq_true, ↓reduceIte, ↓if_neg zh1, ↓if_pos zh2]
        exact ⟨_, est, rfl, trivial⟩
      · skip
        refine exs_nil ?_
        have est : (m_law_all_l0 numbers) zs0 zy0 = .ok () := by simp only [m_law_all_l0, not_true_eq_false, not_false_eq_true, ↓reduceIte, ↓if_neg zh1, ↓if_neg zh2]
        exact ⟨_, est, ⟨⟨.inr rfl, .inr rfl, .inl rfl, trivial⟩, rfl⟩, trivial⟩
  · rintro zr zc zS zrun0 ⟨rfl, zhL⟩
    skip
    have zh3 := zrun0
    have efin : m_law_all words numbers = zr := by simp only [m_law_all, not_true_eq_false, not_false_eq_true, ↓reduceIte, ↓zh3]
    rw [efin] at zk
    exact zk _
  · intro zs0 zrun0 zq0
    have zh4 := zrun0
    show Exs _ _ _ ⟨[some (.fr ((eL D.str) words)), some (.fr (D.bl numbers)), none], []⟩ _
    refine exs_one (ex_ret ev_bl ?_)
    have efin : m_law_all words numbers = true := by simp only [m_law_all, not_true_eq_false, not_false_eq_true, ↓reduceIte, ↓zh4]
    rw [efin] at zk
    exact zk _
def m_law_command (words : List Str) : Bool :=
  let first1 : Str := (words.getD ((0 : Int)).toNat default)
  let rest1 : List Str := (slcD words (some (1 : Int)) none)
  if ((first1 = (Str.ofString "undo")) ∨ ((first1 = (Str.ofString "redo")) ∨ (first1 = (Str.ofString "answers")))) then (decide ((rest1.length : Int) = (0 : Int))) else if ((first1 = (Str.ofString "task")) ∨ ((first1 = (Str.ofString "drop")) ∨ ((first1 = (Str.ofString "answer")) ∨ (first1 = (Str.ofString "system"))))) then ((decide ((rest1.length : Int) = (1 : Int))) && (m_law_is_name (rest1.getD ((0 : Int)).toNat default))) else if (first1 = (Str.ofString "table")) then ((decide ((2 : Int) ≤ (rest1.length : Int))) && ((m_law_is_name (rest1.getD ((0 : Int)).toNat default)) && (m_law_all (slcD rest1 (some (1 : Int)) none) true))) else if (first1 = (Str.ofString "remove")) then ((decide ((rest1.length : Int) = (2 : Int))) && (((decide ((rest1.getD ((0 : Int)).toNat default) = (Str.ofString "task"))) || (decide ((rest1.getD ((0 : Int)).toNat default) = (Str.ofString "table")))) && (m_law_is_name (rest1.getD ((1 : Int)).toNat default)))) else if (first1 = (Str.ofString "show")) then ((decide ((rest1.length : Int) = (1 : Int))) && ((decide ((rest1.getD ((0 : Int)).toNat default) = (Str.ofString "tasks"))) || ((decide ((rest1.getD ((0 : Int)).toNat default) = (Str.ofString "tables"))) || (decide ((rest1.getD ((0 : Int)).toNat default) = (Str.ofString "questions")))))) else if ((¬ (first1 = (Str.ofString "ask"))) ∨ (((rest1.length : Int) < (3 : Int)) ∨ (¬ ((m_law_is_number (rest1.getD ((1 : Int)).toNat default)) = true)))) then false else (((decide ((1 : Int) ≤ ((PySem.intText? (rest1.getD ((1 : Int)).toNat default)).getD 0))) && (decide (((PySem.intText? (rest1.getD ((1 : Int)).toNat default)).getD 0) ≤ (1000 : Int)))) && ((m_law_is_name (rest1.getD ((0 : Int)).toNat default)) && (m_law_all (slcD rest1 (some (2 : Int)) none) false)))
set_option hygiene false in
local macro_rules | `(tactic| walk_at "pre") => `(tactic| first | exact ⟨by have := slc_len (xs := rest) (a := some (1 : Int)) (b := none); have := slc_len (xs := rest) (a := some (2 : Int)) (b := none); have := slc_len (xs := rest) (a := none) (b := some (2 : Int)); omega, fun w hw => hrm w (mem_slc hw)⟩ | exact ⟨by have := slc_len (xs := words) (a := some (2 : Int)) (b := none); have := slc_len (xs := words) (a := some (1 : Int)) (b := some (3 : Int)); omega, fun w hw => hrm w (mem_slc hw)⟩ | exact hrm _ (getD_mem (by omega)) | exact Nat.le_trans (hrm _ (getD_mem (by omega))) (by decide) | fail)
theorem lask_of {a b : Prop} {c : Bool} (h : ¬ ((¬ a) ∨ (b ∨ (¬ (c = true))))) : c = true := Classical.byContradiction fun q => h (.inr (.inr q))
set_option hygiene false in
local macro_rules | `(tactic| walk_at "intt") => `(tactic| first | exact (lnum_int (lask_of (by assumption))).1 | fail)
set_option hygiene false in
local macro_rules | `(tactic| walk_at "sd") => `(tactic| first | exact Nat.le_trans (hrm _ (getD_mem (by omega))) (by decide) | fail)
theorem sc_law_command : FnScope ["words", "first", "rest"] ["words"] (defScope s_law_command) := ⟨rfl, rfl, rfl, by decide +kernel, rfl, by decide +kernel, by decide +kernel⟩
def sp_law_command : SpN := fun zcs zL zKc => ∃ words : List Str, zcs = [.fr ((eL D.str) words)] ∧ zL = [] ∧ (0 < words.length ∧ words.length ≤ 100 ∧ ∀ w ∈ words, w.length ≤ 100) ∧ ∀ zL', zKc (.fr (D.bl (m_law_command words))) zL'
theorem ok_law_command (T : TX P K mg) : FnOk P w K mg base CX0 3 T.a_law_command T.d_law_command ["words"] (SpOf K mg sp_law_command) := by
  have O_law_all := ok_law_all (P := P) (w := w) (base := base) T
  have O_law_is_name := ok_law_is_name (P := P) (w := w) (base := base) T
  have O_law_is_number := ok_law_is_number (P := P) (w := w) (base := base) T
  refine T.F_law_command.okN sc_law_command (fun zcs zL zKc zh => by obtain ⟨words, rfl, _⟩ := zh; rfl) fun zcdv zA zout zst zH zE zB zcs zL zKc zhr zh => ?_
  obtain ⟨words, rfl, rfl, hpre, zk⟩ := zh
  have nd := sc_law_command.nd
  have hSL := sizeLine_eq
  show Exs _ _ _ ⟨[some (.fr ((eL D.str) words)), none, none], []⟩ _
  refine exs_cons (ex_set 1 (ev_ix (ix_L (xs := words) (enc := D.str) (by exact rfl) (by walk_at "sd") (by walk_at "sd")) (ev_var 0 rfl (.inl rfl) rfl) ev_int) ?_ nd rfl (.inl rfl))
  show Exs _ _ _ ⟨[some (.fr ((eL D.str) words)), some (.fr (D.str (words.getD ((0 : Int)).toNat default))), none], []⟩ _
  generalize zg_first : (words.getD ((0 : Int)).toNat default) = first
  show Exs _ _ _ ⟨[some (.fr ((eL D.str) words)), some (.fr (D.str first)), none], []⟩ _
  refine exs_cons (ex_set 2 (ev_sliceT (enc := D.str) (xs := words) (by exact rfl) (ev_var 0 rfl (.inl rfl) rfl) (eo_some ev_int) eo_none) ?_ nd rfl (.inl rfl))
  show Exs _ _ _ ⟨[some (.fr ((eL D.str) words)), some (.fr (D.str first)), some (.fr ((eL D.str) (slcD words (some (1 : Int)) none)))], []⟩ _
  generalize zg_rest : (slcD words (some (1 : Int)) none) = rest
  show Exs _ _ _ ⟨[some (.fr ((eL D.str) words)), some (.fr (D.str first)), some (.fr ((eL D.str) rest))], []⟩ _
  have hrm : ∀ w ∈ rest, w.length ≤ 100 := by rw [← zg_rest]; exact fun w hw => hpre.2.2 w (mem_slc hw)
  have hrl : rest.length ≤ 100 := by rw [← zg_rest]; exact Nat.le_trans slc_len hpre.2.1
  refine exs_cons (ex_ifP (bd_or bd_d (bd_or bd_d bd_d)) (Ew.et (ew_orP bd_d (et_cmp o_eqs (ev_var 1 rfl (.inl rfl) rfl) ev_str (nomark _)) (fun zhp => (ew_orP bd_d (et_cmp o_eqs (ev_var 1 rfl (.inl rfl) rfl) ev_str (nomark _)) (fun zhp => (ew_or1 (et_cmp o_eqs (ev_var 1 rfl (.inl rfl) rfl) ev_str (nomark _)))))))) (fun (zh1 : ((first = (Str.ofString "undo")) ∨ ((first = (Str.ofString "redo")) ∨ (first = (Str.ofString "answers"))))) => ?_) (fun (zh1 : ¬ ((first = (Str.ofString "undo")) ∨ ((first = (Str.ofString "redo")) ∨ (first = (Str.ofString "answers"))))) => ?_))
  · skip
    refine exs_one (ex_ret (ev_cmp o_eqi (ev_len (ln_L (xs := rest) (enc := D.str) (by exact rfl)) (ev_var 2 rfl (.inl rfl) rfl) (by exact rfl) T.n_len) ev_int (nomark _)) ?_)
    have efin : m_law_command words = (decide ((rest.length : Int) = (0 : Int))) := by subst zg_rest; subst zg_first; simp only [m_law_command, not_true_eq_false, not_false_eq_true, ↓reduceIte, ↓if_pos zh1]
    rw [efin] at zk
    exact zk _
  · skip
    refine exs_nil ?_
    show Exs _ _ _ ⟨[some (.fr ((eL D.str) words)), some (.fr (D.str first)), some (.fr ((eL D.str) rest))], []⟩ _
    refine exs_cons (ex_ifP (bd_or bd_d (bd_or bd_d (bd_or bd_d bd_d))) (Ew.et (ew_orP bd_d (et_cmp o_eqs (ev_var 1 rfl (.inl rfl) rfl) ev_str (nomark _)) (fun zhp => (ew_orP bd_d (et_cmp o_eqs (ev_var 1 rfl (.inl rfl) rfl) ev_str (nomark _)) (fun zhp => (ew_orP bd_d (et_cmp o_eqs (ev_var 1 rfl (.inl rfl) rfl) ev_str (nomark _)) (fun zhp => (ew_or1 (et_cmp o_eqs (ev_var 1 rfl (.inl rfl) rfl) ev_str (nomark _)))))))))) (fun (zh2 : ((first = (Str.ofString "task")) ∨ ((first = (Str.ofString "drop")) ∨ ((first = (Str.ofString "answer")) ∨ (first = (Str.ofString "system")))))) => ?_) (fun (zh2 : ¬ ((first = (Str.ofString "task")) ∨ ((first = (Str.ofString "drop")) ∨ ((first = (Str.ofString "answer")) ∨ (first = (Str.ofString "system")))))) => ?_))
    · skip
      refine exs_one (ex_ret (ev_andP bd_d (ev_cmp o_eqi (ev_len (ln_L (xs := rest) (enc := D.str) (by exact rfl)) (ev_var 2 rfl (.inl rfl) rfl) (by exact rfl) T.n_len) ev_int (nomark _)) (fun zhp => (ev_one (ev_call (ds := [D.str (rest.getD ((0 : Int)).toNat default)]) (ds' := []) (dvs := []) (dfs := []) O_law_is_name (zhr.mono (by decide)) T.m_law_is_name T.k_law_is_name T.b_law_is_name .nil (fun _ => .nil) (ea_cons (ev_ix (ix_L (xs := rest) (enc := D.str) (by exact rfl) (by walk_at "sd") (by walk_at "sd")) (ev_var 2 rfl (.inl rfl) rfl) ev_int) ea_nil) (fun _ zkk => ⟨(rest.getD ((0 : Int)).toNat default), rfl, rfl, (by walk_at "pre"), zkk⟩) (by exact rfl))))) ?_)
      have efin : m_law_command words = ((decide ((rest.length : Int) = (1 : Int))) && (m_law_is_name (rest.getD ((0 : Int)).toNat default))) := by subst zg_rest; subst zg_first; simp only [m_law_command, not_true_eq_false, not_false_eq_true, ↓reduceIte, ↓if_neg zh1, ↓if_pos zh2]
      rw [efin] at zk
      exact zk _
    · skip
      refine exs_nil ?_
      show Exs _ _ _ ⟨[some (.fr ((eL D.str) words)), some (.fr (D.str first)), some (.fr ((eL D.str) rest))], []⟩ _
      refine exs_cons (ex_ifP bd_d (et_cmp o_eqs (ev_var 1 rfl (.inl rfl) rfl) ev_str (nomark _)) (fun (zh3 : (first = (Str.ofString "table"))) => ?_) (fun (zh3 : ¬ (first = (Str.ofString "table"))) => ?_))
      · skip
        refine exs_one (ex_ret (ev_andP bd_d (ev_cmp o_ge (ev_len (ln_L (xs := rest) (enc := D.str) (by exact rfl)) (ev_var 2 rfl (.inl rfl) rfl) (by exact rfl) T.n_len) ev_int (nomark _)) (fun zhp => (ev_andP Iff.rfl (ev_call (ds := [D.str (rest.getD ((0 : Int)).toNat default)]) (ds' := []) (dvs := []) (dfs := []) O_law_is_name (zhr.mono (by decide)) T.m_law_is_name T.k_law_is_name T.b_law_is_name .nil (fun _ => .nil) (ea_cons (ev_ix (ix_L (xs := rest) (enc := D.str) (by exact rfl) (by walk_at "sd") (by walk_at "sd")) (ev_var 2 rfl (.inl rfl) rfl) ev_int) ea_nil) (fun _ zkk => ⟨(rest.getD ((0 : Int)).toNat default), rfl, rfl, (by walk_at "pre"), zkk⟩) (by exact rfl)) (fun zhp => (ev_one (ev_call (ds := [(eL D.str) (slcD rest (some (1 : Int)) none), D.bl true]) (ds' := []) (dvs := []) (dfs := []) O_law_all (zhr.mono (by decide)) T.m_law_all T.k_law_all T.b_law_all .nil (fun _ => .nil) (ea_cons (ev_sliceT (enc := D.str) (xs := rest) (by exact rfl) (ev_var 2 rfl (.inl rfl) rfl) (eo_some ev_int) eo_none) (ea_cons ev_bl ea_nil)) (fun _ zkk => ⟨(slcD rest (some (1 : Int)) none), true, rfl, rfl, (by walk_at "pre"), zkk⟩) (by exact rfl))))))) ?_)
        have efin : m_law_command words = ((decide ((2 : Int) ≤ (rest.length : Int))) && ((m_law_is_name (rest.getD ((0 : Int)).toNat default)) && (m_law_all (slcD rest (some (1 : Int)) none) true))) := by subst zg_rest; subst zg_first; simp only [m_law_command, not_true_eq_false, not_false_eq_true, ↓reduceIte, ↓if_neg zh1, ↓if_neg zh2, ↓if_pos zh3]
        rw [efin] at zk
        exact zk _
      · skip
        refine exs_nil ?_
        show Exs _ _ _ ⟨[some (.fr ((eL D.str) words)), some (.fr (D.str first)), some (.fr ((eL D.str) rest))], []⟩ _
        refine exs_cons (ex_ifP bd_d (et_cmp o_eqs (ev_var 1 rfl (.inl rfl) rfl) ev_str (nomark _)) (fun (zh4 : (first = (Str.ofString "remove"))) => ?_) (fun (zh4 : ¬ (first = (Str.ofString "remove"))) => ?_))
        · skip
          refine exs_one (ex_ret (ev_andP bd_d (ev_cmp o_eqi (ev_len (ln_L (xs := rest) (enc := D.str) (by exact rfl)) (ev_var 2 rfl (.inl rfl) rfl) (by exact rfl) T.n_len) ev_int (nomark _)) (fun zhp => (ev_andP (bd_or bd_d bd_d) (ev_orP bd_d (ev_cmp o_eqs (ev_ix (ix_L (xs := rest) (enc := D.str) (by exact rfl) (by walk_at "sd") (by walk_at "sd")) (ev_var 2 rfl (.inl rfl) rfl) ev_int) ev_str (nomark _)) (fun zhp => (ev_one (ev_cmp o_eqs (ev_ix (ix_L (xs := rest) (enc := D.str) (by exact rfl) (by walk_at "sd") (by walk_at "sd")) (ev_var 2 rfl (.inl rfl) rfl) ev_int) ev_str (nomark _))))) (fun zhp => (ev_one (ev_call (ds := [D.str (rest.getD ((1 : Int)).toNat default)]) (ds' := []) (dvs := []) (dfs := []) O_law_is_name (zhr.mono (by decide)) T.m_law_is_name T.k_law_is_name T.b_law_is_name .nil (fun _ => .nil) (ea_cons (ev_ix (ix_L (xs := rest) (enc := D.str) (by exact rfl) (by walk_at "sd") (by walk_at "sd")) (ev_var 2 rfl (.inl rfl) rfl) ev_int) ea_nil) (fun _ zkk => ⟨(rest.getD ((1 : Int)).toNat default), rfl, rfl, (by walk_at "pre"), zkk⟩) (by exact rfl))))))) ?_)
          have efin : m_law_command words = ((decide ((rest.length : Int) = (2 : Int))) && (((decide ((rest.getD ((0 : Int)).toNat default) = (Str.ofString "task"))) || (decide ((rest.getD ((0 : Int)).toNat default) = (Str.ofString "table")))) && (m_law_is_name (rest.getD ((1 : Int)).toNat default)))) := by subst zg_rest; subst zg_first; simp only [m_law_command, not_true_eq_false, not_false_eq_true, ↓reduceIte, ↓if_neg zh1, ↓if_neg zh2, ↓if_neg zh3, ↓if_pos zh4]
          rw [efin] at zk
          exact zk _
        · skip
          refine exs_nil ?_
          show Exs _ _ _ ⟨[some (.fr ((eL D.str) words)), some (.fr (D.str first)), some (.fr ((eL D.str) rest))], []⟩ _
          refine exs_cons (ex_ifP bd_d (et_cmp o_eqs (ev_var 1 rfl (.inl rfl) rfl) ev_str (nomark _)) (fun (zh5 : (first = (Str.ofString "show"))) => ?_) (fun (zh5 : ¬ (first = (Str.ofString "show"))) => ?_))
          · skip
            refine exs_one (ex_ret (ev_andP bd_d (ev_cmp o_eqi (ev_len (ln_L (xs := rest) (enc := D.str) (by exact rfl)) (ev_var 2 rfl (.inl rfl) rfl) (by exact rfl) T.n_len) ev_int (nomark _)) (fun zhp => (ev_one (ev_orP bd_d (ev_cmp o_eqs (ev_ix (ix_L (xs := rest) (enc := D.str) (by exact rfl) (by walk_at "sd") (by walk_at "sd")) (ev_var 2 rfl (.inl rfl) rfl) ev_int) ev_str (nomark _)) (fun zhp => (ev_orP bd_d (ev_cmp o_eqs (ev_ix (ix_L (xs := rest) (enc := D.str) (by exact rfl) (by walk_at "sd") (by walk_at "sd")) (ev_var 2 rfl (.inl rfl) rfl) ev_int) ev_str (nomark _)) (fun zhp => (ev_one (ev_cmp o_eqs (ev_ix (ix_L (xs := rest) (enc := D.str) (by exact rfl) (by walk_at "sd") (by walk_at "sd")) (ev_var 2 rfl (.inl rfl) rfl) ev_int) ev_str (nomark _)))))))))) ?_)
            have efin : m_law_command words = ((decide ((rest.length : Int) = (1 : Int))) && ((decide ((rest.getD ((0 : Int)).toNat default) = (Str.ofString "tasks"))) || ((decide ((rest.getD ((0 : Int)).toNat default) = (Str.ofString "tables"))) || (decide ((rest.getD ((0 : Int)).toNat default) = (Str.ofString "questions")))))) := by subst zg_rest; subst zg_first; simp only [m_law_command, not_true_eq_false, not_false_eq_true, ↓reduceIte, ↓if_neg zh1, ↓if_neg zh2, ↓if_neg zh3, ↓if_neg zh4, ↓if_pos zh5]
            rw [efin] at zk
            exact zk _
          · skip
            refine exs_nil ?_
            show Exs _ _ _ ⟨[some (.fr ((eL D.str) words)), some (.fr (D.str first)), some (.fr ((eL D.str) rest))], []⟩ _
            refine exs_cons (ex_ifP (bd_or bd_n (bd_or bd_d (bd_not Iff.rfl))) (Ew.et (ew_orP bd_n (et_cmp o_nes (ev_var 1 rfl (.inl rfl) rfl) ev_str (nomark _)) (fun zhp => (ew_orP bd_d (et_cmp o_lt (ev_len (ln_L (xs := rest) (enc := D.str) (by exact rfl)) (ev_var 2 rfl (.inl rfl) rfl) (by exact rfl) T.n_len) ev_int (nomark _)) (fun zhp => (ew_or1 (et_not (et_val (ev_call (ds := [D.str (rest.getD ((1 : Int)).toNat default)]) (ds' := []) (dvs := []) (dfs := []) O_law_is_number (zhr.mono (by decide)) T.m_law_is_number T.k_law_is_number T.b_law_is_number .nil (fun _ => .nil) (ea_cons (ev_ix (ix_L (xs := rest) (enc := D.str) (by exact rfl) (by walk_at "sd") (by walk_at "sd")) (ev_var 2 rfl (.inl rfl) rfl) ev_int) ea_nil) (fun _ zkk => ⟨(rest.getD ((1 : Int)).toNat default), rfl, rfl, (by walk_at "pre"), zkk⟩) (by exact rfl)))))))))) (fun (zh6 : ((¬ (first = (Str.ofString "ask"))) ∨ (((rest.length : Int) < (3 : Int)) ∨ (¬ ((m_law_is_number (rest.getD ((1 : Int)).toNat default)) = true))))) => ?_) (fun (zh6 : ¬ ((¬ (first = (Str.ofString "ask"))) ∨ (((rest.length : Int) < (3 : Int)) ∨ (¬ ((m_law_is_number (rest.getD ((1 : Int)).toNat default)) = true))))) => ?_))
            · skip
              refine exs_one (ex_ret ev_bl ?_)
              have efin : m_law_command words = false := by subst zg_rest; subst zg_first; simp only [m_law_command, not_true_eq_false, not_false_eq_true, ↓reduceIte, ↓if_neg zh1, ↓if_neg zh2, ↓if_neg zh3, ↓if_neg zh4, ↓if_neg zh5, ↓if_pos zh6]
              rw [efin] at zk
              exact zk _
            · skip
              refine exs_nil ?_
              show Exs _ _ _ ⟨[some (.fr ((eL D.str) words)), some (.fr (D.str first)), some (.fr ((eL D.str) rest))], []⟩ _
              refine exs_one (ex_ret (ev_andP (bd_and bd_d bd_d) (ev_chain bd_d o_le o_le ev_int (ev_callTy (ds := [D.str (rest.getD ((1 : Int)).toNat default)]) (c_intS (x := (rest.getD ((1 : Int)).toNat default)) (i := (PySem.intText? (rest.getD ((1 : Int)).toNat default)).getD 0) (by walk_at "intt") (by walk_at "sd")) (ea_cons (ev_ix (ix_L (xs := rest) (enc := D.str) (by exact rfl) (by walk_at "sd") (by walk_at "sd")) (ev_var 2 rfl (.inl rfl) rfl) ev_int) ea_nil) (by exact rfl) T.n_int (by decide +kernel)) (fun zhp => ev_int)) (fun zhp => (ev_andP Iff.rfl (ev_call (ds := [D.str (rest.getD ((0 : Int)).toNat default)]) (ds' := []) (dvs := []) (dfs := []) O_law_is_name (zhr.mono (by decide)) T.m_law_is_name T.k_law_is_name T.b_law_is_name .nil (fun _ => .nil) (ea_cons (ev_ix (ix_L (xs := rest) (enc := D.str) (by exact rfl) (by walk_at "sd") (by walk_at "sd")) (ev_var 2 rfl (.inl rfl) rfl) ev_int) ea_nil) (fun _ zkk => ⟨(rest.getD ((0 : Int)).toNat default), rfl, rfl, (by walk_at "pre"), zkk⟩) (by exact rfl)) (fun zhp => (ev_one (ev_call (ds := [(eL D.str) (slcD rest (some (2 : Int)) none), D.bl false]) (ds' := []) (dvs := []) (dfs := []) O_law_all (zhr.mono (by decide)) T.m_law_all T.k_law_all T.b_law_all .nil (fun _ => .nil) (ea_cons (ev_sliceT (enc := D.str) (xs := rest) (by exact rfl) (ev_var 2 rfl (.inl rfl) rfl) (eo_some ev_int) eo_none) (ea_cons ev_bl ea_nil)) (fun _ zkk => ⟨(slcD rest (some (2 : Int)) none), false, rfl, rfl, (by walk_at "pre"), zkk⟩) (by exact rfl))))))) ?_)
              have efin : m_law_command words = (((decide ((1 : Int) ≤ ((PySem.intText? (rest.getD ((1 : Int)).toNat default)).getD 0))) && (decide (((PySem.intText? (rest.getD ((1 : Int)).toNat default)).getD 0) ≤ (1000 : Int)))) && ((m_law_is_name (rest.getD ((0 : Int)).toNat default)) && (m_law_all (slcD rest (some (2 : Int)) none) false))) := by subst zg_rest; subst zg_first; simp only [m_law_command, not_true_eq_false, not_false_eq_true, ↓reduceIte, ↓if_neg zh1, ↓if_neg zh2, ↓if_neg zh3, ↓if_neg zh4, ↓if_neg zh5, ↓if_neg zh6]
              rw [efin] at zk
              exact zk _
def m_law_block (words : List Str) : Bool :=
  let first1 : Str := (words.getD ((0 : Int)).toNat default)
  let rest1 : List Str := (slcD words (some (1 : Int)) none)
  if (first1 = (Str.ofString "end")) then (decide ((rest1.length : Int) = (0 : Int))) else if (¬ ((rest1.length : Int) = (3 : Int))) then false else if (first1 = (Str.ofString "kind")) then ((m_law_is_name (rest1.getD ((0 : Int)).toNat default)) && (m_law_all (slcD rest1 (some (1 : Int)) none) true)) else ((decide (first1 = (Str.ofString "way"))) && ((m_law_all (slcD rest1 none (some (2 : Int))) false) && (m_law_is_number (rest1.getD ((2 : Int)).toNat default))))
set_option hygiene false in
local macro_rules | `(tactic| walk_at "pre") => `(tactic| first | exact ⟨by have := slc_len (xs := rest) (a := some (1 : Int)) (b := none); have := slc_len (xs := rest) (a := some (2 : Int)) (b := none); have := slc_len (xs := rest) (a := none) (b := some (2 : Int)); omega, fun w hw => hrm w (mem_slc hw)⟩ | exact ⟨by have := slc_len (xs := words) (a := some (2 : Int)) (b := none); have := slc_len (xs := words) (a := some (1 : Int)) (b := some (3 : Int)); omega, fun w hw => hrm w (mem_slc hw)⟩ | exact hrm _ (getD_mem (by omega)) | exact Nat.le_trans (hrm _ (getD_mem (by omega))) (by decide) | fail)
theorem sc_law_block : FnScope ["words", "first", "rest"] ["words"] (defScope s_law_block) := ⟨rfl, rfl, rfl, by decide +kernel, rfl, by decide +kernel, by decide +kernel⟩
def sp_law_block : SpN := fun zcs zL zKc => ∃ words : List Str, zcs = [.fr ((eL D.str) words)] ∧ zL = [] ∧ (0 < words.length ∧ words.length ≤ 100 ∧ ∀ w ∈ words, w.length ≤ 100) ∧ ∀ zL', zKc (.fr (D.bl (m_law_block words))) zL'
theorem ok_law_block (T : TX P K mg) : FnOk P w K mg base CX0 3 T.a_law_block T.d_law_block ["words"] (SpOf K mg sp_law_block) := by
  have O_law_all := ok_law_all (P := P) (w := w) (base := base) T
  have O_law_is_name := ok_law_is_name (P := P) (w := w) (base := base) T
  have O_law_is_number := ok_law_is_number (P := P) (w := w) (base := base) T
  refine T.F_law_block.okN sc_law_block (fun zcs zL zKc zh => by obtain ⟨words, rfl, _⟩ := zh; rfl) fun zcdv zA zout zst zH zE zB zcs zL zKc zhr zh => ?_
  obtain ⟨words, rfl, rfl, hpre, zk⟩ := zh
  have nd := sc_law_block.nd
  have hSL := sizeLine_eq
  show Exs _ _ _ ⟨[some (.fr ((eL D.str) words)), none, none], []⟩ _
  refine exs_cons (ex_set 1 (ev_ix (ix_L (xs := words) (enc := D.str) (by exact rfl) (by walk_at "sd") (by walk_at "sd")) (ev_var 0 rfl (.inl rfl) rfl) ev_int) ?_ nd rfl (.inl rfl))
  show Exs _ _ _ ⟨[some (.fr ((eL D.str) words)), some (.fr (D.str (words.getD ((0 : Int)).toNat default))), none], []⟩ _
  generalize zg_first : (words.getD ((0 : Int)).toNat default) = first
  show Exs _ _ _ ⟨[some (.fr ((eL D.str) words)), some (.fr (D.str first)), none], []⟩ _
  refine exs_cons (ex_set 2 (ev_sliceT (enc := D.str) (xs := words) (by exact rfl) (ev_var 0 rfl (.inl rfl) rfl) (eo_some ev_int) eo_none) ?_ nd rfl (.inl rfl))
  show Exs _ _ _ ⟨[some (.fr ((eL D.str) words)), some (.fr (D.str first)), some (.fr ((eL D.str) (slcD words (some (1 : Int)) none)))], []⟩ _
  generalize zg_rest : (slcD words (some (1 : Int)) none) = rest
  show Exs _ _ _ ⟨[some (.fr ((eL D.str) words)), some (.fr (D.str first)), some (.fr ((eL D.str) rest))], []⟩ _
  have hrm : ∀ w ∈ rest, w.length ≤ 100 := by rw [← zg_rest]; exact fun w hw => hpre.2.2 w (mem_slc hw)
  have hrl : rest.length ≤ 100 := by rw [← zg_rest]; exact Nat.le_trans slc_len hpre.2.1
  refine exs_cons (ex_ifP bd_d (et_cmp o_eqs (ev_var 1 rfl (.inl rfl) rfl) ev_str (nomark _)) (fun (zh1 : (first = (Str.ofString "end"))) => ?_) (fun (zh1 : ¬ (first = (Str.ofString "end"))) => ?_))
  · skip
    refine exs_one (ex_ret (ev_cmp o_eqi (ev_len (ln_L (xs := rest) (enc := D.str) (by exact rfl)) (ev_var 2 rfl (.inl rfl) rfl) (by exact rfl) T.n_len) ev_int (nomark _)) ?_)
    have efin : m_law_block words = (decide ((rest.length : Int) = (0 : Int))) := by subst zg_rest; subst zg_first; simp only [m_law_block, not_true_eq_false, not_false_eq_true, ↓reduceIte, ↓if_pos zh1]
    rw [efin] at zk
    exact zk _
  · skip
    refine exs_nil ?_
    show Exs _ _ _ ⟨[some (.fr ((eL D.str) words)), some (.fr (D.str first)), some (.fr ((eL D.str) rest))], []⟩ _
    refine exs_cons (ex_ifP bd_n (et_cmp o_nei (ev_len (ln_L (xs := rest) (enc := D.str) (by exact rfl)) (ev_var 2 rfl (.inl rfl) rfl) (by exact rfl) T.n_len) ev_int (nomark _)) (fun (zh2 : (¬ ((rest.length : Int) = (3 : Int)))) => ?_) (fun (zh2 : ¬ (¬ ((rest.length : Int) = (3 : Int)))) => ?_))
    · skip
      refine exs_one (ex_ret ev_bl ?_)
      have efin : m_law_block words = false := by first | (subst zg_rest; subst zg_first; simp only [m_law_block, not_true_eq_false, not_false_eq_true, ↓reduceIte, ↓if_neg zh1, ↓if_pos zh2]; done) | (subst zg_rest; subst zg_first; first | exact absurd rfl zh2)
      rw [efin] at zk
      exact zk _
    · skip
      refine exs_nil ?_
      show Exs _ _ _ ⟨[some (.fr ((eL D.str) words)), some (.fr (D.str first)), some (.fr ((eL D.str) rest))], []⟩ _
      refine exs_cons (ex_ifP bd_d (et_cmp o_eqs (ev_var 1 rfl (.inl rfl) rfl) ev_str (nomark _)) (fun (zh3 : (first = (Str.ofString "kind"))) => ?_) (fun (zh3 : ¬ (first = (Str.ofString "kind"))) => ?_))
      · skip
        refine exs_one (ex_ret (ev_andP Iff.rfl (ev_call (ds := [D.str (rest.getD ((0 : Int)).toNat default)]) (ds' := []) (dvs := []) (dfs := []) O_law_is_name (zhr.mono (by decide)) T.m_law_is_name T.k_law_is_name T.b_law_is_name .nil (fun _ => .nil) (ea_cons (ev_ix (ix_L (xs := rest) (enc := D.str) (by exact rfl) (by walk_at "sd") (by walk_at "sd")) (ev_var 2 rfl (.inl rfl) rfl) ev_int) ea_nil) (fun _ zkk => ⟨(rest.getD ((0 : Int)).toNat default), rfl, rfl, (by walk_at "pre"), zkk⟩) (by exact rfl)) (fun zhp => (ev_one (ev_call (ds := [(eL D.str) (slcD rest (some (1 : Int)) none), D.bl true]) (ds' := []) (dvs := []) (dfs := []) O_law_all (zhr.mono (by decide)) T.m_law_all T.k_law_all T.b_law_all .nil (fun _ => .nil) (ea_cons (ev_sliceT (enc := D.str) (xs := rest) (by exact rfl) (ev_var 2 rfl (.inl rfl) rfl) (eo_some ev_int) eo_none) (ea_cons ev_bl ea_nil)) (fun _ zkk => ⟨(slcD rest (some (1 : Int)) none), true, rfl, rfl, (by walk_at "pre"), zkk⟩) (by exact rfl))))) ?_)
        have efin : m_law_block words = ((m_law_is_name (rest.getD ((0 : Int)).toNat default)) && (m_law_all (slcD rest (some (1 : Int)) none) true)) := by subst zg_rest; subst zg_first; simp only [m_law_block, not_true_eq_false, not_false_eq_true, ↓reduceIte, ↓if_neg zh1, ↓if_neg zh2, ↓if_pos zh3]
        rw [efin] at zk
        exact zk _
      · skip
        refine exs_nil ?_
        show Exs _ _ _ ⟨[some (.fr ((eL D.str) words)), some (.fr (D.str first)), some (.fr ((eL D.str) rest))], []⟩ _
        refine exs_one (ex_ret (ev_andP bd_d (ev_cmp o_eqs (ev_var 1 rfl (.inl rfl) rfl) ev_str (nomark _)) (fun zhp => (ev_andP Iff.rfl (ev_call (ds := [(eL D.str) (slcD rest none (some (2 : Int))), D.bl false]) (ds' := []) (dvs := []) (dfs := []) O_law_all (zhr.mono (by decide)) T.m_law_all T.k_law_all T.b_law_all .nil (fun _ => .nil) (ea_cons (ev_sliceT (enc := D.str) (xs := rest) (by exact rfl) (ev_var 2 rfl (.inl rfl) rfl) eo_none (eo_some ev_int)) (ea_cons ev_bl ea_nil)) (fun _ zkk => ⟨(slcD rest none (some (2 : Int))), false, rfl, rfl, (by walk_at "pre"), zkk⟩) (by exact rfl)) (fun zhp => (ev_one (ev_call (ds := [D.str (rest.getD ((2 : Int)).toNat default)]) (ds' := []) (dvs := []) (dfs := []) O_law_is_number (zhr.mono (by decide)) T.m_law_is_number T.k_law_is_number T.b_law_is_number .nil (fun _ => .nil) (ea_cons (ev_ix (ix_L (xs := rest) (enc := D.str) (by exact rfl) (by walk_at "sd") (by walk_at "sd")) (ev_var 2 rfl (.inl rfl) rfl) ev_int) ea_nil) (fun _ zkk => ⟨(rest.getD ((2 : Int)).toNat default), rfl, rfl, (by walk_at "pre"), zkk⟩) (by exact rfl))))))) ?_)
        have efin : m_law_block words = ((decide (first = (Str.ofString "way"))) && ((m_law_all (slcD rest none (some (2 : Int))) false) && (m_law_is_number (rest.getD ((2 : Int)).toNat default)))) := by subst zg_rest; subst zg_first; simp only [m_law_block, not_true_eq_false, not_false_eq_true, ↓reduceIte, ↓if_neg zh1, ↓if_neg zh2, ↓if_neg zh3]
        rw [efin] at zk
        exact zk _
def m_law_l0 (numbers : List Int) (words : List Str) (zs0 : Str) (zy0 : Nat) : Str :=
  let line1 : Str := (zs0 ++ (words.getD (((0 : Int) + (zy0 : Int))).toNat default))
  if ((((0 : Int) + (zy0 : Int)) + (1 : Int)) < (words.length : Int)) then (line1 ++ (Txt.mul (Str.ofString " ") ((1 : Int) + (((numbers.getD ((34 : Int)).toNat default) + (((0 : Int) + (zy0 : Int)) * (numbers.getD ((35 : Int)).toNat default))) % (3 : Int))))) else line1
def m_law_l1 (zs0 : Unit) (zy0 : Str) : Except Bool (Unit) :=
  if (¬ ((m_is_number zy0) = (m_law_is_number zy0))) then .error false else .ok ()
def m_law (script : List Int) : Bool :=
  let numbers1 : List Int := (m_law_numbers script (40 : Int))
  let words2 : List Str := ((List.range (((1 : Int) + ((numbers1.getD ((30 : Int)).toNat default) % (7 : Int)))).toNat).map (fun zc2 : Nat => (m_law_word (numbers1.getD (((2 : Int) * ((0 : Int) + (zc2 : Int)))).toNat default) (numbers1.getD ((((2 : Int) * ((0 : Int) + (zc2 : Int))) + (1 : Int))).toNat default))))
  let words2 : List Str := (if ((0 : Int) < ((numbers1.getD ((31 : Int)).toNat default) % (3 : Int))) then (m_law_formed words2 (numbers1.getD ((32 : Int)).toNat default)) else words2)
  let line3 : Str := (Txt.mul (Str.ofString " ") ((numbers1.getD ((33 : Int)).toNat default) % (3 : Int)))
  let line4 : Str := (((List.range ((words2.length : Int)).toNat).foldl (m_law_l0 numbers1 words2) line3) ++ (Txt.mul (Str.ofString " ") ((numbers1.getD ((36 : Int)).toNat default) % (3 : Int))))
  if ((¬ (true = true)) ∨ ((¬ ((m_split_words line4) = words2)) ∨ (¬ ((m_split_words (Txt.mul (Str.ofString " ") ((numbers1.getD ((37 : Int)).toNat default) % (4 : Int)))) = ([] : List Str))))) then false else match (runE (m_law_l1) words2 ()) with | .error r => r | .ok zs0 => if ((¬ (true = true)) ∨ (¬ (true = true))) then false else ((decide ((m_is_command words2) = (m_law_command words2))) && (decide ((m_is_block_line words2) = (m_law_block words2))))
theorem words_good {numbers : List Int} (h : ∀ x ∈ numbers, 0 ≤ x ∧ x ≤ 1008) (n : Nat) : ∀ w ∈ (List.range n).map (fun zc2 : Nat => (m_law_word (numbers.getD (((2 : Int) * ((0 : Int) + (zc2 : Int)))).toNat default) (numbers.getD ((((2 : Int) * ((0 : Int) + (zc2 : Int))) + (1 : Int))).toNat default))), GoodW w := by
  intro w hw
  obtain ⟨k, _, rfl⟩ := List.mem_map.mp hw
  exact lword_good (getD_bound h _) (getD_bound h _)
structure LawW (words : List Str) : Prop where
  pos : 1 ≤ words.length
  le : words.length ≤ 7
  good : ∀ w ∈ words, GoodW w
theorem LawW.short {words : List Str} (h : LawW words) : ∀ w ∈ words, w.length ≤ 100 := fun w hw => by have := (h.good w hw).2.1; omega
theorem lw_words {numbers : List Int} (h : ∀ x ∈ numbers, 0 ≤ x ∧ x ≤ 1008) : LawW ((List.range (((1 : Int) + ((numbers.getD ((30 : Int)).toNat default) % (7 : Int)))).toNat).map (fun zc2 : Nat => (m_law_word (numbers.getD (((2 : Int) * ((0 : Int) + (zc2 : Int)))).toNat default) (numbers.getD ((((2 : Int) * ((0 : Int) + (zc2 : Int))) + (1 : Int))).toNat default)))) :=
  ⟨by rw [List.length_map, List.length_range]; omega, by rw [List.length_map, List.length_range]; omega, words_good h _⟩
theorem lw_formed {words : List Str} (h : LawW words) {n : Int} (hn : 0 ≤ n ∧ n ≤ 1008) : LawW (m_law_formed words n) := by
  obtain ⟨a, b, c⟩ := lformed_good h.good hn
  exact ⟨a, by omega, c⟩
def spc (n : Int) : List Nat := List.replicate n.toNat 32
theorem mul_sp (n : Int) : (Txt.mul (Str.ofString " ") n).cps.toList = spc n := by
  have e1 : (Str.ofString " ").cps = #[32] := by decide +kernel
  have e2 : (Str.ofString " ").length = 1 := by decide +kernel
  have key : ∀ (k : Nat) (a : Array Nat), ((List.replicate k (#[32] : Array Nat)).foldl (· ++ ·) a).toList = a.toList ++ List.replicate k 32 := by
    intro k
    induction k with
    | zero => intro a; simp
    | succ k ih => intro a; rw [List.replicate_succ, List.foldl_cons, ih, List.replicate_succ]; simp
  unfold Txt.mul spc
  by_cases h : n < 1
  · rw [if_pos h, show n.toNat = 0 by omega]; rfl
  · rw [if_neg h]
    by_cases h1 : n = 1
    · subst h1
      rw [if_pos (by simp), e1]; rfl
    · rw [if_neg (by rw [e2]; simp; exact h1), e1]
      show ((List.replicate n.toNat (#[32] : Array Nat)).foldl (· ++ ·) #[]).toList = _
      rw [key]; simp
theorem mul_len (n : Int) : (Txt.mul (Str.ofString " ") n).length = n.toNat := by
  show (Txt.mul (Str.ofString " ") n).cps.size = _
  rw [← Array.length_toList, mul_sp]
  unfold spc
  rw [List.length_replicate]
theorem one_len : (Str.ofString " ").length = 1 := by decide +kernel
set_option hygiene false in
local macro_rules | `(tactic| walk_at "sd") => `(tactic| first | (simp only [Str.length_append, mul_len, one_len, sizeLine_eq]; omega) | fail)
set_option hygiene false in
local macro_rules | `(tactic| walk_at "pre") => `(tactic| first | exact ⟨by omega, hnf.2⟩ | (have g1 := getD_bound hnf.2 (((2 : Int) * ((0 : Int) + (zc1 : Int)))).toNat; fail) | exact ⟨(getD_bound hnf.2 _).1, (getD_bound hnf.2 _).2, (getD_bound hnf.2 _).1, (getD_bound hnf.2 _).2⟩ | exact ⟨hb32.1, hb32.2, by have := hlw.le; omega⟩ | exact hl2.short _ (List.mem_of_getElem? (by assumption)) | exact ⟨by omega, by omega, hl2.short⟩ | (simp only [Str.length_append, mul_len]; omega) | fail)
theorem sc_law : FnScope ["script", "numbers", "words", "line", "k", "told", "word", "command", "block"] ["script"] (defScope s_law) := ⟨rfl, rfl, rfl, by decide +kernel, rfl, by decide +kernel, by decide +kernel⟩
def sp_law : SpN := fun zcs zL zKc => ∃ script : List Int, zcs = [.fr ((eL D.int) script)] ∧ zL = [] ∧ (script.length ≤ 63) ∧ ∀ zL', zKc (.fr (D.bl (m_law script))) zL'
theorem ok_law (T : TX P K mg) : FnOk P w K mg base CX0 5 T.a_law T.d_law ["script"] (SpOf K mg sp_law) := by
  have O_law_block := ok_law_block (P := P) (w := w) (base := base) T
  have O_law_command := ok_law_command (P := P) (w := w) (base := base) T
  have O_law_formed := ok_law_formed (P := P) (w := w) (base := base) T
  have O_law_is_number := ok_law_is_number (P := P) (w := w) (base := base) T
  have O_law_numbers := ok_law_numbers (P := P) (w := w) (base := base) T
  have O_law_word := ok_law_word (P := P) (w := w) (base := base) T
  have O_is_block_line := ok_is_block_line (P := P) (w := w) (base := base) T
  have O_is_command := ok_is_command (P := P) (w := w) (base := base) T
  have O_is_number := ok_is_number (P := P) (w := w) (base := base) T
  have O_split_words := ok_split_words (P := P) (w := w) (base := base) T
  refine T.F_law.okN sc_law (fun zcs zL zKc zh => by obtain ⟨script, rfl, _⟩ := zh; rfl) fun zcdv zA zout zst zH zE zB zcs zL zKc zhr zh => ?_
  obtain ⟨script, rfl, rfl, hpre, zk⟩ := zh
  have nd := sc_law.nd
  have hSL := sizeLine_eq
  show Exs _ _ _ ⟨[some (.fr ((eL D.int) script)), none, none, none, none, none, none, none, none], []⟩ _
  refine exs_cons (ex_set 1 (ev_call (ds := [(eL D.int) script, D.int (40 : Int)]) (ds' := []) (dvs := []) (dfs := []) O_law_numbers (zhr.mono (by decide)) T.m_law_numbers T.k_law_numbers T.b_law_numbers .nil (fun _ => .nil) (ea_cons (ev_var 0 rfl (.inl rfl) rfl) (ea_cons ev_int ea_nil)) (fun _ zkk => ⟨script, (40 : Int), rfl, rfl, (by walk_at "pre"), zkk⟩) (by exact rfl)) ?_ nd rfl (.inr rfl))
  show Exs _ _ _ ⟨[some (.fr ((eL D.int) script)), some (.fr ((eL D.int) (m_law_numbers script (40 : Int)))), none, none, none, none, none, none, none], []⟩ _
  generalize zg_numbers : (m_law_numbers script (40 : Int)) = numbers
  show Exs _ _ _ ⟨[some (.fr ((eL D.int) script)), some (.fr ((eL D.int) numbers)), none, none, none, none, none, none, none], []⟩ _
  have hnf := numbers_facts script (40 : Int) (by decide)
  rw [zg_numbers] at hnf
  have hnum : numbers.length = 40 := hnf.1
  have hb30 := getD_bound hnf.2 ((30 : Int)).toNat
  have hb31 := getD_bound hnf.2 ((31 : Int)).toNat
  have hb32 := getD_bound hnf.2 ((32 : Int)).toNat
  have hb33 := getD_bound hnf.2 ((33 : Int)).toNat
  have hb34 := getD_bound hnf.2 ((34 : Int)).toNat
  have hb35 := getD_bound hnf.2 ((35 : Int)).toNat
  have hb36 := getD_bound hnf.2 ((36 : Int)).toNat
  have hb37 := getD_bound hnf.2 ((37 : Int)).toNat
  refine exs_cons (ex_setLcM 2 (enc2 := D.str) 199 (fun zc1 : Nat => (m_law_word (numbers.getD (((2 : Int) * ((0 : Int) + (zc1 : Int)))).toNat default) (numbers.getD ((((2 : Int) * ((0 : Int) + (zc1 : Int))) + (1 : Int))).toNat default))) _ rfl nd rfl rfl (sw_true rfl rfl rfl (by decide +kernel)) (blkOk_by (N := ["script", "numbers", "words", "line", "k", "told", "word", "command", "block"]) (sc := defScope s_law) (own := [(("k" : Str), 4)]) (by decide +kernel)) (src_range1 (ea_cons (ev_bin o_add ev_int (ev_bin (o_mod (by walk_at "sd")) (ev_ix (ix_L (xs := numbers) (enc := D.int) (by exact rfl) (by walk_at "sd") (by walk_at "sd")) (ev_var 1 rfl (.inr (.inl rfl)) rfl) ev_int) ev_int)) ea_nil) (by exact rfl) T.n_range (by walk_at "sd") (by walk_at "sd")) (by simp [names]) (by decide) (by walk_at "sd") (fun _ zc1 _ zhyzc1 _ _ _ _ _ => (eg_nameC 4 nd rfl (.inl rfl) (by decide) (.inr rfl))) (fun _ zc1 _ zhyzc1 _ _ _ _ _ => (ev_call (ds := [D.int (numbers.getD (((2 : Int) * ((0 : Int) + (zc1 : Int)))).toNat default), D.int (numbers.getD ((((2 : Int) * ((0 : Int) + (zc1 : Int))) + (1 : Int))).toNat default)]) (ds' := []) (dvs := []) (dfs := []) O_law_word (zhr.mono (by decide)) T.m_law_word T.k_law_word T.b_law_word .nil (fun _ => .nil) (ea_cons (ev_ix (ix_L (xs := numbers) (enc := D.int) (by exact rfl) (by walk_at "sd") (by walk_at "sd")) (ev_var 1 rfl (.inr (.inl rfl)) rfl) (ev_bin (o_mul (by walk_at "mul")) ev_int (ev_var 4 rfl (.inl rfl) rfl))) (ea_cons (ev_ix (ix_L (xs := numbers) (enc := D.int) (by exact rfl) (by walk_at "sd") (by walk_at "sd")) (ev_var 1 rfl (.inr (.inl rfl)) rfl) (ev_bin o_add (ev_bin (o_mul (by walk_at "mul")) ev_int (ev_var 4 rfl (.inl rfl) rfl)) ev_int)) ea_nil)) (fun _ zkk => ⟨(numbers.getD (((2 : Int) * ((0 : Int) + (zc1 : Int)))).toNat default), (numbers.getD ((((2 : Int) * ((0 : Int) + (zc1 : Int))) + (1 : Int))).toNat default), rfl, rfl, (by walk_at "pre"), zkk⟩) (by exact rfl))) ?_)
  show Exs _ _ _ ⟨[some (.fr ((eL D.int) script)), some (.fr ((eL D.int) numbers)), some (.fr ((eL D.str) ((List.range (((1 : Int) + ((numbers.getD ((30 : Int)).toNat default) % (7 : Int)))).toNat).map (fun zc1 : Nat => (m_law_word (numbers.getD (((2 : Int) * ((0 : Int) + (zc1 : Int)))).toNat default) (numbers.getD ((((2 : Int) * ((0 : Int) + (zc1 : Int))) + (1 : Int))).toNat default)))))), none, none, none, none, none, none], []⟩ _
  generalize zg_words : ((List.range (((1 : Int) + ((numbers.getD ((30 : Int)).toNat default) % (7 : Int)))).toNat).map (fun zc1 : Nat => (m_law_word (numbers.getD (((2 : Int) * ((0 : Int) + (zc1 : Int)))).toNat default) (numbers.getD ((((2 : Int) * ((0 : Int) + (zc1 : Int))) + (1 : Int))).toNat default)))) = words
  show Exs _ _ _ ⟨[some (.fr ((eL D.int) script)), some (.fr ((eL D.int) numbers)), some (.fr ((eL D.str) words)), none, none, none, none, none, none], []⟩ _
  have hlw := lw_words hnf.2
  rw [zg_words] at hlw
  refine exs_cons (ex_join ⟨[some (.fr ((eL D.int) script)), some (.fr ((eL D.int) numbers)), some (.fr ((eL D.str) (if ((0 : Int) < ((numbers.getD ((31 : Int)).toNat default) % (3 : Int))) then (m_law_formed words (numbers.getD ((32 : Int)).toNat default)) else words))), none, none, none, none, none, none], []⟩ (ex_ifP bd_d (et_cmp o_gt (ev_bin (o_mod (by walk_at "sd")) (ev_ix (ix_L (xs := numbers) (enc := D.int) (by exact rfl) (by walk_at "sd") (by walk_at "sd")) (ev_var 1 rfl (.inr (.inl rfl)) rfl) ev_int) ev_int) ev_int (nomark _)) (fun (zh1 : ((0 : Int) < ((numbers.getD ((31 : Int)).toNat default) % (3 : Int)))) => ?_) (fun (zh1 : ¬ ((0 : Int) < ((numbers.getD ((31 : Int)).toNat default) % (3 : Int)))) => ?_)) ?_)
  · skip
    refine exs_one (ex_set 2 (ev_call (ds := [(eL D.str) words, D.int (numbers.getD ((32 : Int)).toNat default)]) (ds' := []) (dvs := []) (dfs := []) O_law_formed (zhr.mono (by decide)) T.m_law_formed T.k_law_formed T.b_law_formed .nil (fun _ => .nil) (ea_cons (ev_var 2 rfl (.inl rfl) rfl) (ea_cons (ev_ix (ix_L (xs := numbers) (enc := D.int) (by exact rfl) (by walk_at "sd") (by walk_at "sd")) (ev_var 1 rfl (.inr (.inl rfl)) rfl) ev_int) ea_nil)) (fun _ zkk => ⟨words, (numbers.getD ((32 : Int)).toNat default), rfl, rfl, (by walk_at "pre"), zkk⟩) (by exact rfl)) ?_ nd rfl (.inl rfl))
    exact ⟨_, rfl, by simp only [if_pos zh1]; exact ⟨⟨.inr rfl, .inr rfl, .inr rfl, .inl rfl, .inl rfl, .inl rfl, .inl rfl, .inl rfl, .inl rfl, trivial⟩, rfl⟩⟩
  · skip
    refine exs_nil ?_
    exact ⟨_, rfl, by simp only [if_neg zh1]; exact ⟨⟨.inr rfl, .inr rfl, .inr rfl, .inl rfl, .inl rfl, .inl rfl, .inl rfl, .inl rfl, .inl rfl, trivial⟩, rfl⟩⟩
  · skip
    show Exs _ _ _ ⟨[some (.fr ((eL D.int) script)), some (.fr ((eL D.int) numbers)), some (.fr ((eL D.str) (if ((0 : Int) < ((numbers.getD ((31 : Int)).toNat default) % (3 : Int))) then (m_law_formed words (numbers.getD ((32 : Int)).toNat default)) else words))), none, none, none, none, none, none], []⟩ _
    generalize zg_words1 : (if ((0 : Int) < ((numbers.getD ((31 : Int)).toNat default) % (3 : Int))) then (m_law_formed words (numbers.getD ((32 : Int)).toNat default)) else words) = words1
    show Exs _ _ _ ⟨[some (.fr ((eL D.int) script)), some (.fr ((eL D.int) numbers)), some (.fr ((eL D.str) words1)), none, none, none, none, none, none], []⟩ _
    have hl2 : LawW words1 := by rw [← zg_words1]; split; exact lw_formed hlw hb32; exact hlw
    have hwp := hl2.pos
    have hwl := hl2.le
    show Exs _ _ _ ⟨[some (.fr ((eL D.int) script)), some (.fr ((eL D.int) numbers)), some (.fr ((eL D.str) words1)), none, none, none, none, none, none], []⟩ _
    refine exs_cons (ex_set 3 (ev_bin (o_muls (mulOk_small (by walk_at "sd") (by walk_at "sd") (by walk_at "sd"))) ev_str (ev_bin (o_mod (by walk_at "sd")) (ev_ix (ix_L (xs := numbers) (enc := D.int) (by exact rfl) (by walk_at "sd") (by walk_at "sd")) (ev_var 1 rfl (.inr (.inl rfl)) rfl) ev_int) ev_int)) ?_ nd rfl (.inl rfl))
    show Exs _ _ _ ⟨[some (.fr ((eL D.int) script)), some (.fr ((eL D.int) numbers)), some (.fr ((eL D.str) words1)), some (.fr (D.str (Txt.mul (Str.ofString " ") ((numbers.getD ((33 : Int)).toNat default) % (3 : Int))))), none, none, none, none, none], []⟩ _
    generalize zg_line : (Txt.mul (Str.ofString " ") ((numbers.getD ((33 : Int)).toNat default) % (3 : Int))) = line
    show Exs _ _ _ ⟨[some (.fr ((eL D.int) script)), some (.fr ((eL D.int) numbers)), some (.fr ((eL D.str) words1)), some (.fr (D.str line)), none, none, none, none, none], []⟩ _
    have hln : line.length ≤ 3 := by rw [← zg_line, mul_len]; omega
    refine exs_cons (ex_forF (enc := (fun i : Nat => D.int ((0 : Int) + (i : Int)))) (fun (zs0 : Str) => (⟨[some (.fr ((eL D.int) script)), some (.fr ((eL D.int) numbers)), some (.fr ((eL D.str) words1)), some (.fr (D.str zs0)), none, none, none, none, none], []⟩ : Nz.S)) (m_law_l0 numbers words1) line (fun (zi0 : Nat) (zs0 : Str) => zs0.length ≤ 3 + 30 * zi0) (src_range1 (ea_cons (ev_len (ln_L (xs := words1) (enc := D.str) (by exact rfl)) (ev_var 2 rfl (.inl rfl) rfl) (by exact rfl) T.n_len) ea_nil) (by exact rfl) T.n_range (by walk_at "sd") (by walk_at "sd")) ⟨⟨.inr rfl, .inr rfl, .inr rfl, .inr rfl, .inl rfl, .inl rfl, .inl rfl, .inl rfl, .inl rfl, trivial⟩, rfl⟩ (by omega) ?_ ?_ PassesOwn.never rfl)
    · intro zi0 zy0 zs0 zhy0 zq0
      skip
      have hy0 := seq_range zhy0
      have hi := (List.getElem?_eq_some_iff.mp zhy0).1
      simp only [List.length_range] at hi
      have hgw := (hl2.good _ (getD_mem (xs := words1) (i := ((0 : Int) + (zy0 : Int)).toNat) (by omega))).2.1
      refine ⟨⟨[some (.fr ((eL D.int) script)), some (.fr ((eL D.int) numbers)), some (.fr ((eL D.str) words1)), some (.fr (D.str zs0)), some (.fr (D.int ((0 : Int) + (zy0 : Int)))), none, none, none, none], []⟩, (eg_name 4 nd rfl (.inl rfl)), ?_⟩
      refine exs_cons (ex_set 3 (ev_bin (o_adds (by walk_at "sd")) (ev_var 3 rfl (.inl rfl) rfl) (ev_ix (ix_L (xs := words1) (enc := D.str) (by exact rfl) (by walk_at "sd") (by walk_at "sd")) (ev_var 2 rfl (.inl rfl) rfl) (ev_var 4 rfl (.inl rfl) rfl))) ?_ nd rfl (.inl rfl))
      show Exs _ _ _ ⟨[some (.fr ((eL D.int) script)), some (.fr ((eL D.int) numbers)), some (.fr ((eL D.str) words1)), some (.fr (D.str (zs0 ++ (words1.getD (((0 : Int) + (zy0 : Int))).toNat default)))), some (.fr (D.int ((0 : Int) + (zy0 : Int)))), none, none, none, none], []⟩ _
      generalize zg_line1 : (zs0 ++ (words1.getD (((0 : Int) + (zy0 : Int))).toNat default)) = line1
      show Exs _ _ _ ⟨[some (.fr ((eL D.int) script)), some (.fr ((eL D.int) numbers)), some (.fr ((eL D.str) words1)), some (.fr (D.str line1)), some (.fr (D.int ((0 : Int) + (zy0 : Int)))), none, none, none, none], []⟩ _
      have hl1 : line1.length ≤ zs0.length + 20 := by rw [← zg_line1, Str.length_append]; omega
      refine exs_one (ex_ifP bd_d (et_cmp o_lt (ev_bin o_add (ev_var 4 rfl (.inl rfl) rfl) ev_int) (ev_len (ln_L (xs := words1) (enc := D.str) (by exact rfl)) (ev_var 2 rfl (.inl rfl) rfl) (by exact rfl) T.n_len) (nomark _)) (fun (zh2 : ((((0 : Int) + (zy0 : Int)) + (1 : Int)) < (words1.length : Int))) => ?_) (fun (zh2 : ¬ ((((0 : Int) + (zy0 : Int)) + (1 : Int)) < (words1.length : Int))) => ?_))
      · skip
        refine exs_one (ex_set 3 (ev_bin (o_adds (by walk_at "sd")) (ev_var 3 rfl (.inl rfl) rfl) (ev_bin (o_muls (mulOk_small (by walk_at "sd") (by walk_at "sd") (by walk_at "sd"))) ev_str (ev_bin o_add ev_int (ev_bin (o_mod (by walk_at "sd")) (ev_bin o_add (ev_ix (ix_L (xs := numbers) (enc := D.int) (by exact rfl) (by walk_at "sd") (by walk_at "sd")) (ev_var 1 rfl (.inr (.inl rfl)) rfl) ev_int) (ev_bin (o_mul (by walk_at "mul")) (ev_var 4 rfl (.inl rfl) rfl) (ev_ix (ix_L (xs := numbers) (enc := D.int) (by exact rfl) (by walk_at "sd") (by walk_at "sd")) (ev_var 1 rfl (.inr (.inl rfl)) rfl) ev_int))) ev_int)))) ?_ nd rfl (.inl rfl))
        have est : (m_law_l0 numbers words1) zs0 zy0 = (line1 ++ (Txt.mul (Str.ofString " ") ((1 : Int) + (((numbers.getD ((34 : Int)).toNat default) + (((0 : Int) + (zy0 : Int)) * (numbers.getD ((35 : Int)).toNat default))) % (3 : Int))))) := by subst zg_line1; simp only [m_law_l0, not_true_eq_false, not_false_eq_true, ↓reduceIte, ↓if_pos zh2]
        show Le _ _ ∧ _
        try rw [est]
        exact ⟨⟨⟨.inr rfl, .inr rfl, .inr rfl, .inr rfl, .inl rfl, .inl rfl, .inl rfl, .inl rfl, .inl rfl, trivial⟩, rfl⟩, (by first | omega | (simp only [Str.length_append, mul_len]; omega) | (split <;> simp only [Str.length_append, mul_len] <;> omega))⟩
      · skip
        refine exs_nil ?_
        have est : (m_law_l0 numbers words1) zs0 zy0 = line1 := by subst zg_line1; simp only [m_law_l0, not_true_eq_false, not_false_eq_true, ↓reduceIte, ↓if_neg zh2]
        show Le _ _ ∧ _
        try rw [est]
        exact ⟨⟨⟨.inr rfl, .inr rfl, .inr rfl, .inr rfl, .inl rfl, .inl rfl, .inl rfl, .inl rfl, .inl rfl, trivial⟩, rfl⟩, (by first | omega | (simp only [Str.length_append, mul_len]; omega) | (split <;> simp only [Str.length_append, mul_len] <;> omega))⟩
    · intro zq0
      have hq := zq0
      rw [List.length_range] at hq
      show Exs _ _ _ ⟨[some (.fr ((eL D.int) script)), some (.fr ((eL D.int) numbers)), some (.fr ((eL D.str) words1)), some (.fr (D.str ((List.range ((words1.length : Int)).toNat).foldl (m_law_l0 numbers words1) line))), none, none, none, none, none], []⟩ _
      refine exs_cons (ex_set 3 (ev_bin (o_adds (by walk_at "sd")) (ev_var 3 rfl (.inl rfl) rfl) (ev_bin (o_muls (mulOk_small (by walk_at "sd") (by walk_at "sd") (by walk_at "sd"))) ev_str (ev_bin (o_mod (by walk_at "sd")) (ev_ix (ix_L (xs := numbers) (enc := D.int) (by exact rfl) (by walk_at "sd") (by walk_at "sd")) (ev_var 1 rfl (.inr (.inl rfl)) rfl) ev_int) ev_int))) ?_ nd rfl (.inl rfl))
      show Exs _ _ _ ⟨[some (.fr ((eL D.int) script)), some (.fr ((eL D.int) numbers)), some (.fr ((eL D.str) words1)), some (.fr (D.str (((List.range ((words1.length : Int)).toNat).foldl (m_law_l0 numbers words1) line) ++ (Txt.mul (Str.ofString " ") ((numbers.getD ((36 : Int)).toNat default) % (3 : Int)))))), none, none, none, none, none], []⟩ _
      generalize zg_line2 : (((List.range ((words1.length : Int)).toNat).foldl (m_law_l0 numbers words1) line) ++ (Txt.mul (Str.ofString " ") ((numbers.getD ((36 : Int)).toNat default) % (3 : Int)))) = line2
      show Exs _ _ _ ⟨[some (.fr ((eL D.int) script)), some (.fr ((eL D.int) numbers)), some (.fr ((eL D.str) words1)), some (.fr (D.str line2)), none, none, none, none, none], []⟩ _
      have hl3 : line2.length ≤ 10000 := by rw [← zg_line2, Str.length_append, mul_len]; omega
      refine exs_cons (ex_set 5 (ev_call (ds := [D.str line2]) (ds' := []) (dvs := []) (dfs := []) O_split_words (zhr.mono (by decide)) T.m_split_words T.k_split_words T.b_split_words .nil (fun _ => .nil) (ea_cons (ev_var 3 rfl (.inl rfl) rfl) ea_nil) (fun _ zkk => ⟨line2, rfl, rfl, (by walk_at "pre"), zkk⟩) (by exact rfl)) ?_ nd rfl (.inl rfl))
      show Exs _ _ _ ⟨[some (.fr ((eL D.int) script)), some (.fr ((eL D.int) numbers)), some (.fr ((eL D.str) words1)), some (.fr (D.str line2)), none, some (.fr ((eL D.str) (m_split_words line2))), none, none, none], []⟩ _
      refine exs_cons (ex_ifP (bd_or (bd_not Iff.rfl) (bd_or bd_n bd_n)) (Ew.et (ew_orP (bd_not Iff.rfl) (et_not (et_val (ev_isi (T := "list") (b := true) (ev_var 5 rfl (.inl rfl) rfl) rfl (by decide) (by exact rfl) T.n_isinstance (by exact rfl) T.n_list (by decide +kernel)))) (fun zhp => (ew_orP bd_n (et_cmp (o_neD (e := (eL D.str)) (x := (m_split_words line2)) (y := words1) zhr.units (ee_L ee_str)) (ev_var 5 rfl (.inl rfl) rfl) (ev_var 2 rfl (.inl rfl) rfl) (nomark _)) (fun zhp => (ew_or1 (et_cmp (o_neD (e := (eL D.str)) (x := (m_split_words (Txt.mul (Str.ofString " ") ((numbers.getD ((37 : Int)).toNat default) % (4 : Int))))) (y := ([] : List Str)) zhr.units (ee_L ee_str)) (ev_call (ds := [D.str (Txt.mul (Str.ofString " ") ((numbers.getD ((37 : Int)).toNat default) % (4 : Int)))]) (ds' := []) (dvs := []) (dfs := []) O_split_words (zhr.mono (by decide)) T.m_split_words T.k_split_words T.b_split_words .nil (fun _ => .nil) (ea_cons (ev_bin (o_muls (mulOk_small (by walk_at "sd") (by walk_at "sd") (by walk_at "sd"))) ev_str (ev_bin (o_mod (by walk_at "sd")) (ev_ix (ix_L (xs := numbers) (enc := D.int) (by exact rfl) (by walk_at "sd") (by walk_at "sd")) (ev_var 1 rfl (.inr (.inl rfl)) rfl) ev_int) ev_int)) ea_nil) (fun _ zkk => ⟨(Txt.mul (Str.ofString " ") ((numbers.getD ((37 : Int)).toNat default) % (4 : Int))), rfl, rfl, (by walk_at "pre"), zkk⟩) (by exact rfl)) (ev_lstF (enc := D.str) [] ea_nil rfl (by decide)) (nomark _)))))))) (fun (zh3 : ((¬ (true = true)) ∨ ((¬ ((m_split_words line2) = words1)) ∨ (¬ ((m_split_words (Txt.mul (Str.ofString " ") ((numbers.getD ((37 : Int)).toNat default) % (4 : Int)))) = ([] : List Str)))))) => ?_) (fun (zh3 : ¬ ((¬ (true = true)) ∨ ((¬ ((m_split_words line2) = words1)) ∨ (¬ ((m_split_words (Txt.mul (Str.ofString " ") ((numbers.getD ((37 : Int)).toNat default) % (4 : Int)))) = ([] : List Str)))))) => ?_))
      · skip
        refine exs_one (ex_ret ev_bl ?_)
        have efin : m_law script = false := by subst zg_line2; subst zg_line; subst zg_words1; subst zg_words; subst zg_numbers; simp only [m_law, not_true_eq_false, not_false_eq_true, ↓reduceIte, ↓if_pos zh3]
        rw [efin] at zk
        exact zk _
      · skip
        refine exs_nil ?_
        show Exs _ _ _ ⟨[some (.fr ((eL D.int) script)), some (.fr ((eL D.int) numbers)), some (.fr ((eL D.str) words1)), some (.fr (D.str line2)), none, some (.fr ((eL D.str) (m_split_words line2))), none, none, none], []⟩ _
        refine exs_cons (ex_forE (enc := D.str) (fun (zs0 : Unit) => (⟨[some (.fr ((eL D.int) script)), some (.fr ((eL D.int) numbers)), some (.fr ((eL D.str) words1)), some (.fr (D.str line2)), none, some (.fr ((eL D.str) (m_split_words line2))), none, none, none], []⟩ : Nz.S)) (m_law_l1) () (fun (zi0 : Nat) (zs0 : Unit) => True) (fun r c S' => c = .fr (D.bl r) ∧ True) (src_listT (ev_var 2 rfl (.inl rfl) rfl)) ⟨⟨.inr rfl, .inr rfl, .inr rfl, .inr rfl, .inl rfl, .inr rfl, .inl rfl, .inl rfl, .inl rfl, trivial⟩, rfl⟩ trivial ?_ ?_ ?_ PassesOwn.never rfl)
        · intro zi0 zy0 zs0 zhy0 zrun0 zq0
          skip
          refine ⟨⟨[some (.fr ((eL D.int) script)), some (.fr ((eL D.int) numbers)), some (.fr ((eL D.str) words1)), some (.fr (D.str line2)), none, some (.fr ((eL D.str) (m_split_words line2))), some (.fr (D.str zy0)), none, none], []⟩, (eg_name 6 nd rfl (.inl rfl)), ?_⟩
          refine exs_one (ex_ifP bd_n (et_cmp o_neb (ev_call (ds := [D.str zy0]) (ds' := []) (dvs := []) (dfs := []) O_is_number (zhr.mono (by decide)) T.m_is_number T.k_is_number T.b_is_number .nil (fun _ => .nil) (ea_cons (ev_var 6 rfl (.inl rfl) rfl) ea_nil) (fun _ zkk => ⟨zy0, rfl, rfl, (by walk_at "pre"), zkk⟩) (by exact rfl)) (ev_call (ds := [D.str zy0]) (ds' := []) (dvs := []) (dfs := []) O_law_is_number (zhr.mono (by decide)) T.m_law_is_number T.k_law_is_number T.b_law_is_number .nil (fun _ => .nil) (ea_cons (ev_var 6 rfl (.inl rfl) rfl) ea_nil) (fun _ zkk => ⟨zy0, rfl, rfl, (by walk_at "pre"), zkk⟩) (by exact rfl)) (nomark _)) (fun (zh4 : (¬ ((m_is_number zy0) = (m_law_is_number zy0)))) => ?_) (fun (zh4 : ¬ (¬ ((m_is_number zy0) = (m_law_is_number zy0)))) => ?_))
          · skip
            refine exs_one (ex_ret ev_bl ?_)
            have est : (m_law_l1) zs0 zy0 = .error false := by simp only [m_law_l1, not_true_eq_false, not_false_eq_true, ↓reduceIte, ↓if_pos zh4]
            exact ⟨_, est, rfl, trivial⟩
          · skip
            refine exs_nil ?_
            have est : (m_law_l1) zs0 zy0 = .ok () := by simp only [m_law_l1, not_true_eq_false, not_false_eq_true, ↓reduceIte, ↓if_neg zh4]
            exact ⟨_, est, ⟨⟨.inr rfl, .inr rfl, .inr rfl, .inr rfl, .inl rfl, .inr rfl, .inl rfl, .inl rfl, .inl rfl, trivial⟩, rfl⟩, trivial⟩
        · rintro zr zc zS zrun0 ⟨rfl, zhL⟩
          skip
          have zh5 := zrun0
          have efin : m_law script = zr := by subst zg_line2; subst zg_line; subst zg_words1; subst zg_words; subst zg_numbers; simp only [m_law, not_true_eq_false, not_false_eq_true, ↓reduceIte, ↓if_neg zh3, ↓zh5]
          rw [efin] at zk
          exact zk _
        · intro zs0 zrun0 zq0
          have zh6 := zrun0
          show Exs _ _ _ ⟨[some (.fr ((eL D.int) script)), some (.fr ((eL D.int) numbers)), some (.fr ((eL D.str) words1)), some (.fr (D.str line2)), none, some (.fr ((eL D.str) (m_split_words line2))), none, none, none], []⟩ _
          refine exs_cons (ex_set 7 (ev_call (ds := [(eL D.str) words1]) (ds' := []) (dvs := []) (dfs := []) O_is_command (zhr.mono (by decide)) T.m_is_command T.k_is_command T.b_is_command .nil (fun _ => .nil) (ea_cons (ev_var 2 rfl (.inl rfl) rfl) ea_nil) (fun _ zkk => ⟨words1, rfl, rfl, (by walk_at "pre"), zkk⟩) (by exact rfl)) ?_ nd rfl (.inl rfl))
          show Exs _ _ _ ⟨[some (.fr ((eL D.int) script)), some (.fr ((eL D.int) numbers)), some (.fr ((eL D.str) words1)), some (.fr (D.str line2)), none, some (.fr ((eL D.str) (m_split_words line2))), none, some (.fr (D.bl (m_is_command words1))), none], []⟩ _
          refine exs_cons (ex_set 8 (ev_call (ds := [(eL D.str) words1]) (ds' := []) (dvs := []) (dfs := []) O_is_block_line (zhr.mono (by decide)) T.m_is_block_line T.k_is_block_line T.b_is_block_line .nil (fun _ => .nil) (ea_cons (ev_var 2 rfl (.inl rfl) rfl) ea_nil) (fun _ zkk => ⟨words1, rfl, rfl, (by walk_at "pre"), zkk⟩) (by exact rfl)) ?_ nd rfl (.inl rfl))
          show Exs _ _ _ ⟨[some (.fr ((eL D.int) script)), some (.fr ((eL D.int) numbers)), some (.fr ((eL D.str) words1)), some (.fr (D.str line2)), none, some (.fr ((eL D.str) (m_split_words line2))), none, some (.fr (D.bl (m_is_command words1))), some (.fr (D.bl (m_is_block_line words1)))], []⟩ _
          refine exs_cons (ex_ifP (bd_or (bd_not Iff.rfl) (bd_not Iff.rfl)) (Ew.et (ew_orP (bd_not Iff.rfl) (et_not (et_val (ev_isi (T := "bool") (b := true) (ev_var 7 rfl (.inl rfl) rfl) rfl (by decide) (by exact rfl) T.n_isinstance (by exact rfl) T.n_bool (by decide +kernel)))) (fun zhp => (ew_or1 (et_not (et_val (ev_isi (T := "bool") (b := true) (ev_var 8 rfl (.inl rfl) rfl) rfl (by decide) (by exact rfl) T.n_isinstance (by exact rfl) T.n_bool (by decide +kernel)))))))) (fun (zh7 : ((¬ (true = true)) ∨ (¬ (true = true)))) => ?_) (fun (zh7 : ¬ ((¬ (true = true)) ∨ (¬ (true = true)))) => ?_))
          · skip
            refine exs_one (ex_ret ev_bl ?_)
            have efin : m_law script = false := by subst zg_line2; subst zg_line; subst zg_words1; subst zg_words; subst zg_numbers; simp only [m_law, not_true_eq_false, not_false_eq_true, ↓reduceIte, ↓if_neg zh3, ↓zh6, ↓if_pos zh7]
            rw [efin] at zk
            exact zk _
          · skip
            refine exs_nil ?_
            show Exs _ _ _ ⟨[some (.fr ((eL D.int) script)), some (.fr ((eL D.int) numbers)), some (.fr ((eL D.str) words1)), some (.fr (D.str line2)), none, some (.fr ((eL D.str) (m_split_words line2))), none, some (.fr (D.bl (m_is_command words1))), some (.fr (D.bl (m_is_block_line words1)))], []⟩ _
            refine exs_one (ex_ret (ev_andP bd_d (ev_cmp o_eqb (ev_var 7 rfl (.inl rfl) rfl) (ev_call (ds := [(eL D.str) words1]) (ds' := []) (dvs := []) (dfs := []) O_law_command (zhr.mono (by decide)) T.m_law_command T.k_law_command T.b_law_command .nil (fun _ => .nil) (ea_cons (ev_var 2 rfl (.inl rfl) rfl) ea_nil) (fun _ zkk => ⟨words1, rfl, rfl, (by walk_at "pre"), zkk⟩) (by exact rfl)) (nomark _)) (fun zhp => (ev_one (ev_cmp o_eqb (ev_var 8 rfl (.inl rfl) rfl) (ev_call (ds := [(eL D.str) words1]) (ds' := []) (dvs := []) (dfs := []) O_law_block (zhr.mono (by decide)) T.m_law_block T.k_law_block T.b_law_block .nil (fun _ => .nil) (ea_cons (ev_var 2 rfl (.inl rfl) rfl) ea_nil) (fun _ zkk => ⟨words1, rfl, rfl, (by walk_at "pre"), zkk⟩) (by exact rfl)) (nomark _))))) ?_)
            have efin : m_law script = ((decide ((m_is_command words1) = (m_law_command words1))) && (decide ((m_is_block_line words1) = (m_law_block words1)))) := by subst zg_line2; subst zg_line; subst zg_words1; subst zg_words; subst zg_numbers; simp only [m_law, not_true_eq_false, not_false_eq_true, ↓reduceIte, ↓if_neg zh3, ↓zh6, ↓if_neg zh7]
            rw [efin] at zk
            exact zk _
theorem filter_tl (x : Str) : (m_split_words x).map TL.tl = (TL.spl [32] 0 [] (TL.tl x)).filter (fun l => !l.isEmpty) := by
  have e := TL.split_spl x (Str.ofString " ") (by decide +kernel) (TL.kind_ok (by decide +kernel))
  rw [show TL.tl (Str.ofString " ") = [32] by decide +kernel] at e
  unfold m_split_words
  rw [← e, List.map_map, List.filter_map]
  have h0 : (fun z : Str => !decide (z = Str.ofString "")) = ((fun l : List Nat => !l.isEmpty) ∘ TL.tl) := by
    funext z
    show (!decide (z = Str.ofString "")) = !(TL.tl z).isEmpty
    congr 1
    rw [Bool.eq_iff_iff, decide_eq_true_eq, List.isEmpty_iff]
    constructor
    · intro q; rw [q]; decide +kernel
    · intro q; exact TL.ext_tl (by rw [q]; decide +kernel)
  rw [h0]; rfl
def Wd (l : List Nat) : List (List Nat) := (TL.spl [32] 0 [] l).filter (fun l => !l.isEmpty)
theorem Wd_nil : Wd [] = [] := by unfold Wd; rw [TL.spl_nil]; rfl
theorem Wd_sp (r : List Nat) : Wd (32 :: r) = Wd r := by
  unfold Wd
  rw [TL.spl_hit (by rfl)]
  rfl
theorem Wd_spc (n : Nat) (r : List Nat) : Wd (List.replicate n 32 ++ r) = Wd r := by
  induction n with
  | zero => rfl
  | succ n ih => rw [List.replicate_succ, List.cons_append, Wd_sp, ih]
theorem Wd_word {p : List Nat} (hp : 32 ∉ p) (hn : p ≠ []) {n : Nat} (h : 1 ≤ n) (r : List Nat) : Wd (p ++ (List.replicate n 32 ++ r)) = p :: Wd r := by
  obtain ⟨m, rfl⟩ : ∃ m, n = m + 1 := ⟨n - 1, by omega⟩
  rw [List.replicate_succ, List.cons_append]
  have e : Wd (p ++ 32 :: (List.replicate m 32 ++ r)) = p :: Wd (List.replicate m 32 ++ r) := by
    unfold Wd
    have := TL.spl_part1 (s := 32) (S := []) (p := p) (rest := List.replicate m 32 ++ r) (acc := []) hp
    rw [show p ++ 32 :: (List.replicate m 32 ++ r) = p ++ ([32] ++ (List.replicate m 32 ++ r)) from rfl, this, List.nil_append, List.filter_cons, if_pos (by cases p with | nil => exact absurd rfl hn | cons a b => rfl)]
  rw [e, Wd_spc]
theorem Wd_last {p : List Nat} (hp : 32 ∉ p) (hn : p ≠ []) (n : Nat) : Wd (p ++ List.replicate n 32) = [p] := by
  cases n with
  | zero =>
    rw [List.replicate_zero, List.append_nil]
    unfold Wd
    rw [TL.spl_last1 hp, List.nil_append, List.filter_cons, if_pos (by cases p with | nil => exact absurd rfl hn | cons a b => rfl)]; rfl
  | succ n =>
    have := Wd_word hp hn (n := n + 1) (by omega) []
    rw [List.append_nil] at this
    rw [this, Wd_nil]
theorem good_tl {w : Str} (h : GoodW w) : 32 ∉ TL.tl w ∧ TL.tl w ≠ [] := ⟨h.2.2, fun q => by have := TL.len_tl w; rw [q, List.length_nil] at this; have := h.1; omega⟩
theorem line_step (numbers : List Int) (words : List Str) (z : Str) (k : Nat) : TL.tl (m_law_l0 numbers words z k) = TL.tl z ++ (TL.tl (words.getD k default) ++ (if k + 1 < words.length then List.replicate ((1 : Int) + (((numbers.getD ((34 : Int)).toNat default) + (((0 : Int) + (k : Int)) * (numbers.getD ((35 : Int)).toNat default))) % (3 : Int))).toNat 32 else [])) := by
  unfold m_law_l0
  dsimp only
  rw [show ((0 : Int) + (k : Int)).toNat = k by omega]
  by_cases h : k + 1 < words.length
  · rw [if_pos (by omega), if_pos h, TL.tl_append, TL.tl_append, List.append_assoc]
    exact congrArg (fun q => TL.tl z ++ (TL.tl (words.getD k default) ++ q)) (mul_sp _)
  · rw [if_neg (by omega), if_neg h, TL.tl_append, List.append_nil]
theorem line_pre (numbers : List Int) {words : List Str} (hg : ∀ w ∈ words, GoodW w) (z : Str) (a : Nat) (hz : TL.tl z = List.replicate a 32) : ∀ n, n + 1 ≤ words.length → ∀ r, Wd (TL.tl ((List.range n).foldl (m_law_l0 numbers words) z) ++ r) = (words.take n).map TL.tl ++ Wd r
  | 0, _, r => by
    show Wd (TL.tl z ++ r) = _
    rw [hz, Wd_spc]; rfl
  | n + 1, h, r => by
    rw [List.range_succ, List.foldl_append]
    show Wd (TL.tl (m_law_l0 numbers words _ n) ++ r) = _
    have hw := good_tl (hg _ (getD_mem (xs := words) (i := n) (by omega)))
    rw [line_step, if_pos (by omega), List.append_assoc, List.append_assoc, line_pre numbers hg z a hz n (by omega), Wd_word hw.1 hw.2 (by omega)]
    rw [List.take_add_one, List.map_append, List.append_assoc]
    congr 1
    rw [List.getElem?_eq_getElem (by omega), List.getD_eq_getElem?_getD, List.getElem?_eq_getElem (by omega)]; rfl
theorem line_split (numbers : List Int) {words : List Str} (hw : LawW words) (z : Str) (a : Nat) (hz : TL.tl z = List.replicate a 32) (e : Int) : m_split_words (((List.range ((words.length : Int)).toNat).foldl (m_law_l0 numbers words) z) ++ (Txt.mul (Str.ofString " ") e)) = words := by
  refine TL.map_tl_inj ?_
  rw [filter_tl]
  show Wd _ = _
  obtain ⟨n, hn⟩ : ∃ n, words.length = n + 1 := ⟨words.length - 1, by have := hw.pos; omega⟩
  rw [TL.tl_append, show ((words.length : Int)).toNat = n + 1 by omega, List.range_succ, List.foldl_append]
  show Wd (TL.tl (m_law_l0 numbers words _ n) ++ _) = _
  have hg := good_tl (hw.good _ (getD_mem (xs := words) (i := n) (by omega)))
  rw [line_step, if_neg (by omega), List.append_nil, List.append_assoc, line_pre numbers hw.good z a hz n (by omega), show TL.tl (Txt.mul (Str.ofString " ") e) = List.replicate e.toNat 32 from mul_sp e, Wd_last hg.1 hg.2]
  have : words = words.take n ++ [words.getD n default] := by
    rw [List.getD_eq_getElem?_getD, List.getElem?_eq_getElem (by omega)]
    have := List.take_append_drop n words
    rw [List.drop_eq_getElem_cons (by omega), List.drop_eq_nil_of_le (by omega)] at this
    exact this.symm
  rw [show [TL.tl (words.getD n default)] = [words.getD n default].map TL.tl from rfl, ← List.map_append, ← this]
theorem blank_split (n : Int) : m_split_words (Txt.mul (Str.ofString " ") n) = ([] : List Str) := by
  refine TL.map_tl_inj ?_
  rw [filter_tl]
  show Wd _ = _
  rw [show TL.tl (Txt.mul (Str.ofString " ") n) = List.replicate n.toNat 32 from mul_sp n]
  have := Wd_spc n.toNat []
  rw [List.append_nil] at this
  rw [this, Wd_nil]; rfl
theorem lall_num (ws : List Str) : m_law_all ws true = m_are_numbers ws := by
  unfold m_law_all m_are_numbers
  rw [run_all m_is_number (m_law_all_l0 true) (fun c => by
    unfold m_law_all_l0
    rw [lnum_eq]
    by_cases q : m_is_number c = true
    · rw [if_neg (fun z => z.2 q), if_neg (fun z => z.1 rfl), if_neg (fun z => z q)]
    · rw [if_pos ⟨rfl, q⟩, if_pos q]), List.all_map]
  by_cases q : ws.all m_is_number = true
  · rw [if_pos q]; exact q.symm
  · rw [if_neg q]; exact (Bool.eq_false_iff.mpr q).symm
theorem lall_name (ws : List Str) : m_law_all ws false = m_are_names ws := by
  unfold m_law_all m_are_names
  rw [run_all m_is_name (m_law_all_l0 false) (fun c => by
    unfold m_law_all_l0
    rw [lname_eq]
    by_cases q : m_is_name c = true
    · rw [if_neg (fun z => by cases z.1), if_neg (fun z => z.2 q), if_neg (fun z => z q)]
    · rw [if_neg (fun z => by cases z.1), if_pos ⟨by decide, q⟩, if_pos q]), List.all_map]
  by_cases q : ws.all m_is_name = true
  · rw [if_pos q]; exact q.symm
  · rw [if_neg q]; exact (Bool.eq_false_iff.mpr q).symm
theorem mem2 (x a b : Str) : decide (x ∈ [a, b]) = (decide (x = a) || decide (x = b)) := by
  rw [Bool.eq_iff_iff]; simp
theorem mem3 (x a b c : Str) : decide (x ∈ [a, b, c]) = (decide (x = a) || (decide (x = b) || decide (x = c))) := by
  rw [Bool.eq_iff_iff]; simp
theorem command_eq (words : List Str) : m_is_command words = m_law_command words := by
  unfold m_is_command m_law_command
  dsimp only
  generalize words.getD ((0 : Int)).toNat default = w
  generalize slcD words (some (1 : Int)) none = rest
  by_cases h1 : w ∈ [(Str.ofString "undo"), (Str.ofString "redo"), (Str.ofString "answers")]
  · rw [if_pos h1, if_pos (by simpa using h1)]
  rw [if_neg h1, if_neg (show ¬ ((w = (Str.ofString "undo")) ∨ ((w = (Str.ofString "redo")) ∨ (w = (Str.ofString "answers")))) from fun q => h1 (by simpa using q))]
  by_cases h2 : w ∈ [(Str.ofString "task"), (Str.ofString "drop"), (Str.ofString "answer"), (Str.ofString "system")]
  · rw [if_pos h2, if_pos (by simpa using h2), lname_eq]
  rw [if_neg h2, if_neg (show ¬ ((w = (Str.ofString "task")) ∨ ((w = (Str.ofString "drop")) ∨ ((w = (Str.ofString "answer")) ∨ (w = (Str.ofString "system"))))) from fun q => h2 (by simpa using q))]
  by_cases h3 : w = Str.ofString "table"
  · subst h3
    rw [if_neg (show ¬ (Str.ofString "table" = Str.ofString "show") by decide +kernel), if_neg (show ¬ (Str.ofString "table" = Str.ofString "remove") by decide +kernel), if_pos rfl, if_pos rfl, lname_eq, lall_num]
  by_cases h4 : w = Str.ofString "remove"
  · subst h4
    rw [if_neg (show ¬ (Str.ofString "remove" = Str.ofString "show") by decide +kernel), if_pos rfl, if_neg h3, if_pos rfl, lname_eq, mem2]
  by_cases h5 : w = Str.ofString "show"
  · subst h5
    rw [if_pos rfl, if_neg h3, if_neg h4, if_pos rfl, mem3]
  rw [if_neg h5, if_neg h4, if_neg h3, if_neg h3, if_neg h4, if_neg h5]
  by_cases h6 : w = Str.ofString "ask"
  · rw [if_pos h6]
    unfold m_is_horizon
    by_cases h7 : ((¬ (w = (Str.ofString "ask"))) ∨ (((rest.length : Int) < (3 : Int)) ∨ (¬ ((m_law_is_number (rest.getD ((1 : Int)).toNat default)) = true))))
    · rw [if_pos h7]
      rcases h7 with q | q | q
      · exact absurd h6 q
      · rw [decide_eq_false (by omega)]; rfl
      · rw [lnum_eq] at q
        rw [Bool.eq_false_iff.mpr q]; simp
    · rw [if_neg h7]
      have a1 : (3 : Int) ≤ (rest.length : Int) := by
        refine Classical.byContradiction fun q => h7 (.inr (.inl (by omega)))
      have a2 : m_is_number (rest.getD ((1 : Int)).toNat default) = true := by
        refine Classical.byContradiction fun q => h7 (.inr (.inr (by rw [lnum_eq]; exact q)))
      rw [decide_eq_true a1, a2, lname_eq, lall_name]
      cases m_is_name (rest.getD ((0 : Int)).toNat default) <;> simp
  · rw [if_neg h6, if_pos (.inl h6)]
theorem slc_from {τ : Type} (xs : List τ) (a : Nat) : slcD xs (some (a : Int)) none = xs.drop a := by
  unfold slcD
  rw [HT.sIx_none, HT.sIx_nat]
  by_cases q : a ≤ xs.length
  · rw [Nat.min_eq_left q, List.take_of_length_le (by rw [List.length_drop]; exact Nat.le_refl _)]
  · rw [Nat.min_eq_right (by omega), List.drop_eq_nil_of_le (Nat.le_refl _), List.drop_eq_nil_of_le (by omega), List.take_nil]
theorem block_eq {words : List Str} (h : 0 < words.length) : m_is_block_line words = m_law_block words := by
  unfold m_is_block_line m_law_block
  dsimp only
  have e1 : slcD words (some (1 : Int)) none = words.drop 1 := slc_from words 1
  have hl : (slcD words (some (1 : Int)) none).length + 1 = words.length := by rw [e1, List.length_drop]; omega
  by_cases h1 : words.getD ((0 : Int)).toNat default = Str.ofString "end"
  · rw [if_pos h1, if_pos h1]
    congr 1
    exact propext ⟨fun q => by omega, fun q => by omega⟩
  rw [if_neg h1, if_neg h1]
  by_cases h4 : words.length = 4
  · rw [if_neg (show ¬ ¬ (((slcD words (some (1 : Int)) none).length : Int) = (3 : Int)) by omega), decide_eq_true (show (words.length : Int) = 4 by omega)]
    match words, h4 with
    | [a, b, c, d], _ =>
      have s1 : slcD [a, b, c, d] (some (1 : Int)) none = [b, c, d] := rfl
      have s2 : slcD [a, b, c, d] (some (2 : Int)) none = [c, d] := rfl
      have s3 : slcD [a, b, c, d] (some (1 : Int)) (some (3 : Int)) = [b, c] := rfl
      have s4 : slcD [b, c, d] (some (1 : Int)) none = [c, d] := rfl
      have s5 : slcD [b, c, d] none (some (2 : Int)) = [b, c] := rfl
      rw [s1, s2, s3, s4, s5, lname_eq, lall_num, lall_name, lnum_eq]
      show (if a = Str.ofString "kind" then (true && (m_is_name b && m_are_numbers [c, d])) else if a = Str.ofString "way" then (true && (m_are_names [b, c] && m_is_number d)) else false) = (if a = Str.ofString "kind" then (m_is_name b && m_are_numbers [c, d]) else (decide (a = Str.ofString "way") && (m_are_names [b, c] && m_is_number d)))
      by_cases q : a = Str.ofString "kind"
      · rw [if_pos q, if_pos q, Bool.true_and]
      · rw [if_neg q, if_neg q]
        by_cases q2 : a = Str.ofString "way"
        · rw [if_pos q2, decide_eq_true q2]
        · rw [if_neg q2, decide_eq_false q2]; rfl
  · rw [if_pos (show ¬ (((slcD words (some (1 : Int)) none).length : Int) = (3 : Int)) by omega), decide_eq_false (show ¬ (words.length : Int) = 4 by omega)]
    simp
theorem law_true : ∀ ns : List Int, ns.length ≤ 63 → m_law ns = true := by
  intro ns _
  unfold m_law
  dsimp only
  have hnf := numbers_facts ns (40 : Int) (by decide)
  generalize m_law_numbers ns (40 : Int) = numbers at hnf ⊢
  have hlw := lw_words hnf.2
  generalize (List.range (((1 : Int) + ((numbers.getD ((30 : Int)).toNat default) % (7 : Int)))).toNat).map (fun zc2 : Nat => (m_law_word (numbers.getD (((2 : Int) * ((0 : Int) + (zc2 : Int)))).toNat default) (numbers.getD ((((2 : Int) * ((0 : Int) + (zc2 : Int))) + (1 : Int))).toNat default))) = words at hlw ⊢
  have hl2 : LawW (if ((0 : Int) < ((numbers.getD ((31 : Int)).toNat default) % (3 : Int))) then (m_law_formed words (numbers.getD ((32 : Int)).toNat default)) else words) := by
    split
    · exact lw_formed hlw (getD_bound hnf.2 _)
    · exact hlw
  generalize (if ((0 : Int) < ((numbers.getD ((31 : Int)).toNat default) % (3 : Int))) then (m_law_formed words (numbers.getD ((32 : Int)).toNat default)) else words) = ws at hl2 ⊢
  have e1 := line_split numbers hl2 (Txt.mul (Str.ofString " ") ((numbers.getD ((33 : Int)).toNat default) % (3 : Int))) _ (mul_sp _) ((numbers.getD ((36 : Int)).toNat default) % (3 : Int))
  have e2 := blank_split ((numbers.getD ((37 : Int)).toNat default) % (4 : Int))
  rw [if_neg (by rintro (q | q | q); exact q rfl; exact q e1; exact q e2)]
  have e3 : runE m_law_l1 ws () = .ok () := by
    have := run_all (fun z => decide (m_is_number z = m_law_is_number z)) m_law_l1 (fun c => by
      unfold m_law_l1
      by_cases q : m_is_number c = m_law_is_number c
      · rw [if_neg (fun z => z q), if_neg (fun z => z (decide_eq_true q))]
      · rw [if_pos q, if_pos (fun z => q (of_decide_eq_true z))]) ws
    rw [this, if_pos]
    rw [List.all_eq_true]
    exact fun z _ => decide_eq_true (lnum_eq z).symm
  rw [e3]
  dsimp only
  rw [if_neg (by rintro (q | q) <;> exact q rfl), decide_eq_true (command_eq ws), decide_eq_true (block_eq (by have := hl2.pos; omega))]; rfl
end
section
theorem all_mk {l : PySem.W.OpenLaw} {w : World} {K : Frag} {h : Heap} {mg : Mg} {fa : Addr} (X : K.In h) (G : h.Ns mainGlobals mg) (hfa : mg "law" = some (.ref fa))
    (z_abs : PySem.W.nsIn K mainGlobals "abs" = some none)
    (z_all : PySem.W.nsIn K mainGlobals "all" = some none)
    (z_bool : PySem.W.nsIn K mainGlobals "bool" = some none)
    (z_int : PySem.W.nsIn K mainGlobals "int" = some none)
    (z_isinstance : PySem.W.nsIn K mainGlobals "isinstance" = some none)
    (z_len : PySem.W.nsIn K mainGlobals "len" = some none)
    (z_list : PySem.W.nsIn K mainGlobals "list" = some none)
    (z_max : PySem.W.nsIn K mainGlobals "max" = some none)
    (z_range : PySem.W.nsIn K mainGlobals "range" = some none)
    (z_str : PySem.W.nsIn K mainGlobals "str" = some none)
    {ac_ALONE : Addr} {u_ALONE_0 u_ALONE_1 u_ALONE_2 : Tok} {od_ALONE : Option Addr} {nt_ALONE : Nat} {sl_ALONE : Array (Option Value)} (z_ALONE : PySem.W.nsIn K mainGlobals "ALONE" = some (some (.ref ac_ALONE))) (zt_ALONE : K.lookup ac_ALONE = some ⟨.type "tuple", od_ALONE, .seq #[.str "undo" u_ALONE_0, .str "redo" u_ALONE_1, .str "answers" u_ALONE_2] nt_ALONE, sl_ALONE⟩)
    {u_DIGITS : Tok} (z_DIGITS : PySem.W.nsIn K mainGlobals "DIGITS" = some (some (.str "0123456789" u_DIGITS)))
    {u_GREATEST_HORIZON : Tok} (z_GREATEST_HORIZON : PySem.W.nsIn K mainGlobals "GREATEST_HORIZON" = some (some (.int 1000 u_GREATEST_HORIZON)))
    {u_LONGEST_NAME : Tok} (z_LONGEST_NAME : PySem.W.nsIn K mainGlobals "LONGEST_NAME" = some (some (.int 12 u_LONGEST_NAME)))
    {u_MOST_DIGITS_OF_A_NUMBER : Tok} (z_MOST_DIGITS_OF_A_NUMBER : PySem.W.nsIn K mainGlobals "MOST_DIGITS_OF_A_NUMBER" = some (some (.int 7 u_MOST_DIGITS_OF_A_NUMBER)))
    {u_NAME_CHARACTERS : Tok} (z_NAME_CHARACTERS : PySem.W.nsIn K mainGlobals "NAME_CHARACTERS" = some (some (.str "abcdefghijklmnopqrstuvwxyz0123456789" u_NAME_CHARACTERS)))
    {ac_REMOVED : Addr} {u_REMOVED_0 u_REMOVED_1 : Tok} {od_REMOVED : Option Addr} {nt_REMOVED : Nat} {sl_REMOVED : Array (Option Value)} (z_REMOVED : PySem.W.nsIn K mainGlobals "REMOVED" = some (some (.ref ac_REMOVED))) (zt_REMOVED : K.lookup ac_REMOVED = some ⟨.type "tuple", od_REMOVED, .seq #[.str "task" u_REMOVED_0, .str "table" u_REMOVED_1] nt_REMOVED, sl_REMOVED⟩)
    {ac_SHOWN : Addr} {u_SHOWN_0 u_SHOWN_1 u_SHOWN_2 : Tok} {od_SHOWN : Option Addr} {nt_SHOWN : Nat} {sl_SHOWN : Array (Option Value)} (z_SHOWN : PySem.W.nsIn K mainGlobals "SHOWN" = some (some (.ref ac_SHOWN))) (zt_SHOWN : K.lookup ac_SHOWN = some ⟨.type "tuple", od_SHOWN, .seq #[.str "tasks" u_SHOWN_0, .str "tables" u_SHOWN_1, .str "questions" u_SHOWN_2] nt_SHOWN, sl_SHOWN⟩)
    {ac_WITH_A_NAME : Addr} {u_WITH_A_NAME_0 u_WITH_A_NAME_1 u_WITH_A_NAME_2 u_WITH_A_NAME_3 : Tok} {od_WITH_A_NAME : Option Addr} {nt_WITH_A_NAME : Nat} {sl_WITH_A_NAME : Array (Option Value)} (z_WITH_A_NAME : PySem.W.nsIn K mainGlobals "WITH_A_NAME" = some (some (.ref ac_WITH_A_NAME))) (zt_WITH_A_NAME : K.lookup ac_WITH_A_NAME = some ⟨.type "tuple", od_WITH_A_NAME, .seq #[.str "task" u_WITH_A_NAME_0, .str "drop" u_WITH_A_NAME_1, .str "answer" u_WITH_A_NAME_2, .str "system" u_WITH_A_NAME_3] nt_WITH_A_NAME, sl_WITH_A_NAME⟩)
    {f_law_row : Addr} {od_law_row an_law_row : Option Addr} {sl_law_row : Array (Option Value)} {oc_law_row dc_law_row pm_law_row cd_law_row ct_law_row : Value} {kV_law_row : Value}
    (g_law_row : PySem.W.nsIn K mainGlobals "_law_row" = some (some (.ref f_law_row)))
    (l_law_row : K.lookup f_law_row = some ⟨oc_law_row, od_law_row, .func (PySem.W.fnOf "_law_row" "_law_row" (defArgs s_law_row) (defBody s_law_row) (defScope s_law_row) .none kV_law_row dc_law_row pm_law_row an_law_row cd_law_row ct_law_row), sl_law_row⟩)
    (c_law_row : PySem.W.codeIn K cd_law_row "_law_row" = true) (k_law_row : PySem.W.keepIn K (.ref f_law_row) = true)
    {f_law_numbers : Addr} {od_law_numbers an_law_numbers : Option Addr} {sl_law_numbers : Array (Option Value)} {oc_law_numbers dc_law_numbers pm_law_numbers cd_law_numbers ct_law_numbers : Value} {kV_law_numbers : Value}
    (g_law_numbers : PySem.W.nsIn K mainGlobals "_law_numbers" = some (some (.ref f_law_numbers)))
    (l_law_numbers : K.lookup f_law_numbers = some ⟨oc_law_numbers, od_law_numbers, .func (PySem.W.fnOf "_law_numbers" "_law_numbers" (defArgs s_law_numbers) (defBody s_law_numbers) (defScope s_law_numbers) .none kV_law_numbers dc_law_numbers pm_law_numbers an_law_numbers cd_law_numbers ct_law_numbers), sl_law_numbers⟩)
    (c_law_numbers : PySem.W.codeIn K cd_law_numbers "_law_numbers" = true) (k_law_numbers : PySem.W.keepIn K (.ref f_law_numbers) = true)
    {f_is_name : Addr} {od_is_name an_is_name : Option Addr} {sl_is_name : Array (Option Value)} {oc_is_name dc_is_name pm_is_name cd_is_name ct_is_name : Value} {kV_is_name : Value}
    (g_is_name : PySem.W.nsIn K mainGlobals "is_name" = some (some (.ref f_is_name)))
    (l_is_name : K.lookup f_is_name = some ⟨oc_is_name, od_is_name, .func (PySem.W.fnOf "is_name" "is_name" (defArgs s_is_name) (defBody s_is_name) (defScope s_is_name) .none kV_is_name dc_is_name pm_is_name an_is_name cd_is_name ct_is_name), sl_is_name⟩)
    (c_is_name : PySem.W.codeIn K cd_is_name "is_name" = true) (k_is_name : PySem.W.keepIn K (.ref f_is_name) = true)
    {f_read_number : Addr} {od_read_number an_read_number : Option Addr} {sl_read_number : Array (Option Value)} {oc_read_number dc_read_number pm_read_number cd_read_number ct_read_number : Value} {kV_read_number : Value}
    (g_read_number : PySem.W.nsIn K mainGlobals "read_number" = some (some (.ref f_read_number)))
    (l_read_number : K.lookup f_read_number = some ⟨oc_read_number, od_read_number, .func (PySem.W.fnOf "read_number" "read_number" (defArgs s_read_number) (defBody s_read_number) (defScope s_read_number) .none kV_read_number dc_read_number pm_read_number an_read_number cd_read_number ct_read_number), sl_read_number⟩)
    (c_read_number : PySem.W.codeIn K cd_read_number "read_number" = true) (k_read_number : PySem.W.keepIn K (.ref f_read_number) = true)
    {f_split_words : Addr} {od_split_words an_split_words : Option Addr} {sl_split_words : Array (Option Value)} {oc_split_words dc_split_words pm_split_words cd_split_words ct_split_words : Value} {kV_split_words : Value}
    (g_split_words : PySem.W.nsIn K mainGlobals "split_words" = some (some (.ref f_split_words)))
    (l_split_words : K.lookup f_split_words = some ⟨oc_split_words, od_split_words, .func (PySem.W.fnOf "split_words" "split_words" (defArgs s_split_words) (defBody s_split_words) (defScope s_split_words) .none kV_split_words dc_split_words pm_split_words an_split_words cd_split_words ct_split_words), sl_split_words⟩)
    (c_split_words : PySem.W.codeIn K cd_split_words "split_words" = true) (k_split_words : PySem.W.keepIn K (.ref f_split_words) = true)
    {f_is_number : Addr} {od_is_number an_is_number : Option Addr} {sl_is_number : Array (Option Value)} {oc_is_number dc_is_number pm_is_number cd_is_number ct_is_number : Value} {kV_is_number : Value}
    (g_is_number : PySem.W.nsIn K mainGlobals "is_number" = some (some (.ref f_is_number)))
    (l_is_number : K.lookup f_is_number = some ⟨oc_is_number, od_is_number, .func (PySem.W.fnOf "is_number" "is_number" (defArgs s_is_number) (defBody s_is_number) (defScope s_is_number) .none kV_is_number dc_is_number pm_is_number an_is_number cd_is_number ct_is_number), sl_is_number⟩)
    (c_is_number : PySem.W.codeIn K cd_is_number "is_number" = true) (k_is_number : PySem.W.keepIn K (.ref f_is_number) = true)
    {f_is_horizon : Addr} {od_is_horizon an_is_horizon : Option Addr} {sl_is_horizon : Array (Option Value)} {oc_is_horizon dc_is_horizon pm_is_horizon cd_is_horizon ct_is_horizon : Value} {kV_is_horizon : Value}
    (g_is_horizon : PySem.W.nsIn K mainGlobals "_is_horizon" = some (some (.ref f_is_horizon)))
    (l_is_horizon : K.lookup f_is_horizon = some ⟨oc_is_horizon, od_is_horizon, .func (PySem.W.fnOf "_is_horizon" "_is_horizon" (defArgs s_is_horizon) (defBody s_is_horizon) (defScope s_is_horizon) .none kV_is_horizon dc_is_horizon pm_is_horizon an_is_horizon cd_is_horizon ct_is_horizon), sl_is_horizon⟩)
    (c_is_horizon : PySem.W.codeIn K cd_is_horizon "_is_horizon" = true) (k_is_horizon : PySem.W.keepIn K (.ref f_is_horizon) = true)
    {f_are_numbers : Addr} {od_are_numbers an_are_numbers : Option Addr} {sl_are_numbers : Array (Option Value)} {oc_are_numbers dc_are_numbers pm_are_numbers cd_are_numbers ct_are_numbers : Value} {kV_are_numbers : Value}
    (g_are_numbers : PySem.W.nsIn K mainGlobals "_are_numbers" = some (some (.ref f_are_numbers)))
    (l_are_numbers : K.lookup f_are_numbers = some ⟨oc_are_numbers, od_are_numbers, .func (PySem.W.fnOf "_are_numbers" "_are_numbers" (defArgs s_are_numbers) (defBody s_are_numbers) (defScope s_are_numbers) .none kV_are_numbers dc_are_numbers pm_are_numbers an_are_numbers cd_are_numbers ct_are_numbers), sl_are_numbers⟩)
    (c_are_numbers : PySem.W.codeIn K cd_are_numbers "_are_numbers" = true) (k_are_numbers : PySem.W.keepIn K (.ref f_are_numbers) = true)
    {f_are_names : Addr} {od_are_names an_are_names : Option Addr} {sl_are_names : Array (Option Value)} {oc_are_names dc_are_names pm_are_names cd_are_names ct_are_names : Value} {kV_are_names : Value}
    (g_are_names : PySem.W.nsIn K mainGlobals "_are_names" = some (some (.ref f_are_names)))
    (l_are_names : K.lookup f_are_names = some ⟨oc_are_names, od_are_names, .func (PySem.W.fnOf "_are_names" "_are_names" (defArgs s_are_names) (defBody s_are_names) (defScope s_are_names) .none kV_are_names dc_are_names pm_are_names an_are_names cd_are_names ct_are_names), sl_are_names⟩)
    (c_are_names : PySem.W.codeIn K cd_are_names "_are_names" = true) (k_are_names : PySem.W.keepIn K (.ref f_are_names) = true)
    {f_is_command : Addr} {od_is_command an_is_command : Option Addr} {sl_is_command : Array (Option Value)} {oc_is_command dc_is_command pm_is_command cd_is_command ct_is_command : Value} {kV_is_command : Value}
    (g_is_command : PySem.W.nsIn K mainGlobals "is_command" = some (some (.ref f_is_command)))
    (l_is_command : K.lookup f_is_command = some ⟨oc_is_command, od_is_command, .func (PySem.W.fnOf "is_command" "is_command" (defArgs s_is_command) (defBody s_is_command) (defScope s_is_command) .none kV_is_command dc_is_command pm_is_command an_is_command cd_is_command ct_is_command), sl_is_command⟩)
    (c_is_command : PySem.W.codeIn K cd_is_command "is_command" = true) (k_is_command : PySem.W.keepIn K (.ref f_is_command) = true)
    {f_is_block_line : Addr} {od_is_block_line an_is_block_line : Option Addr} {sl_is_block_line : Array (Option Value)} {oc_is_block_line dc_is_block_line pm_is_block_line cd_is_block_line ct_is_block_line : Value} {kV_is_block_line : Value}
    (g_is_block_line : PySem.W.nsIn K mainGlobals "is_block_line" = some (some (.ref f_is_block_line)))
    (l_is_block_line : K.lookup f_is_block_line = some ⟨oc_is_block_line, od_is_block_line, .func (PySem.W.fnOf "is_block_line" "is_block_line" (defArgs s_is_block_line) (defBody s_is_block_line) (defScope s_is_block_line) .none kV_is_block_line dc_is_block_line pm_is_block_line an_is_block_line cd_is_block_line ct_is_block_line), sl_is_block_line⟩)
    (c_is_block_line : PySem.W.codeIn K cd_is_block_line "is_block_line" = true) (k_is_block_line : PySem.W.keepIn K (.ref f_is_block_line) = true)
    {f_law_word : Addr} {od_law_word an_law_word : Option Addr} {sl_law_word : Array (Option Value)} {oc_law_word dc_law_word pm_law_word cd_law_word ct_law_word : Value} {kV_law_word : Value}
    (g_law_word : PySem.W.nsIn K mainGlobals "_law_word" = some (some (.ref f_law_word)))
    (l_law_word : K.lookup f_law_word = some ⟨oc_law_word, od_law_word, .func (PySem.W.fnOf "_law_word" "_law_word" (defArgs s_law_word) (defBody s_law_word) (defScope s_law_word) .none kV_law_word dc_law_word pm_law_word an_law_word cd_law_word ct_law_word), sl_law_word⟩)
    (c_law_word : PySem.W.codeIn K cd_law_word "_law_word" = true) (k_law_word : PySem.W.keepIn K (.ref f_law_word) = true)
    {f_law_formed : Addr} {od_law_formed an_law_formed : Option Addr} {sl_law_formed : Array (Option Value)} {oc_law_formed dc_law_formed pm_law_formed cd_law_formed ct_law_formed : Value} {kV_law_formed : Value}
    (g_law_formed : PySem.W.nsIn K mainGlobals "_law_formed" = some (some (.ref f_law_formed)))
    (l_law_formed : K.lookup f_law_formed = some ⟨oc_law_formed, od_law_formed, .func (PySem.W.fnOf "_law_formed" "_law_formed" (defArgs s_law_formed) (defBody s_law_formed) (defScope s_law_formed) .none kV_law_formed dc_law_formed pm_law_formed an_law_formed cd_law_formed ct_law_formed), sl_law_formed⟩)
    (c_law_formed : PySem.W.codeIn K cd_law_formed "_law_formed" = true) (k_law_formed : PySem.W.keepIn K (.ref f_law_formed) = true)
    {f_law_is_name : Addr} {od_law_is_name an_law_is_name : Option Addr} {sl_law_is_name : Array (Option Value)} {oc_law_is_name dc_law_is_name pm_law_is_name cd_law_is_name ct_law_is_name : Value} {kV_law_is_name : Value}
    (g_law_is_name : PySem.W.nsIn K mainGlobals "_law_is_name" = some (some (.ref f_law_is_name)))
    (l_law_is_name : K.lookup f_law_is_name = some ⟨oc_law_is_name, od_law_is_name, .func (PySem.W.fnOf "_law_is_name" "_law_is_name" (defArgs s_law_is_name) (defBody s_law_is_name) (defScope s_law_is_name) .none kV_law_is_name dc_law_is_name pm_law_is_name an_law_is_name cd_law_is_name ct_law_is_name), sl_law_is_name⟩)
    (c_law_is_name : PySem.W.codeIn K cd_law_is_name "_law_is_name" = true) (k_law_is_name : PySem.W.keepIn K (.ref f_law_is_name) = true)
    {f_law_is_number : Addr} {od_law_is_number an_law_is_number : Option Addr} {sl_law_is_number : Array (Option Value)} {oc_law_is_number dc_law_is_number pm_law_is_number cd_law_is_number ct_law_is_number : Value} {kV_law_is_number : Value}
    (g_law_is_number : PySem.W.nsIn K mainGlobals "_law_is_number" = some (some (.ref f_law_is_number)))
    (l_law_is_number : K.lookup f_law_is_number = some ⟨oc_law_is_number, od_law_is_number, .func (PySem.W.fnOf "_law_is_number" "_law_is_number" (defArgs s_law_is_number) (defBody s_law_is_number) (defScope s_law_is_number) .none kV_law_is_number dc_law_is_number pm_law_is_number an_law_is_number cd_law_is_number ct_law_is_number), sl_law_is_number⟩)
    (c_law_is_number : PySem.W.codeIn K cd_law_is_number "_law_is_number" = true) (k_law_is_number : PySem.W.keepIn K (.ref f_law_is_number) = true)
    {f_law_all : Addr} {od_law_all an_law_all : Option Addr} {sl_law_all : Array (Option Value)} {oc_law_all dc_law_all pm_law_all cd_law_all ct_law_all : Value} {kV_law_all : Value}
    (g_law_all : PySem.W.nsIn K mainGlobals "_law_all" = some (some (.ref f_law_all)))
    (l_law_all : K.lookup f_law_all = some ⟨oc_law_all, od_law_all, .func (PySem.W.fnOf "_law_all" "_law_all" (defArgs s_law_all) (defBody s_law_all) (defScope s_law_all) .none kV_law_all dc_law_all pm_law_all an_law_all cd_law_all ct_law_all), sl_law_all⟩)
    (c_law_all : PySem.W.codeIn K cd_law_all "_law_all" = true) (k_law_all : PySem.W.keepIn K (.ref f_law_all) = true)
    {f_law_command : Addr} {od_law_command an_law_command : Option Addr} {sl_law_command : Array (Option Value)} {oc_law_command dc_law_command pm_law_command cd_law_command ct_law_command : Value} {kV_law_command : Value}
    (g_law_command : PySem.W.nsIn K mainGlobals "_law_command" = some (some (.ref f_law_command)))
    (l_law_command : K.lookup f_law_command = some ⟨oc_law_command, od_law_command, .func (PySem.W.fnOf "_law_command" "_law_command" (defArgs s_law_command) (defBody s_law_command) (defScope s_law_command) .none kV_law_command dc_law_command pm_law_command an_law_command cd_law_command ct_law_command), sl_law_command⟩)
    (c_law_command : PySem.W.codeIn K cd_law_command "_law_command" = true) (k_law_command : PySem.W.keepIn K (.ref f_law_command) = true)
    {f_law_block : Addr} {od_law_block an_law_block : Option Addr} {sl_law_block : Array (Option Value)} {oc_law_block dc_law_block pm_law_block cd_law_block ct_law_block : Value} {kV_law_block : Value}
    (g_law_block : PySem.W.nsIn K mainGlobals "_law_block" = some (some (.ref f_law_block)))
    (l_law_block : K.lookup f_law_block = some ⟨oc_law_block, od_law_block, .func (PySem.W.fnOf "_law_block" "_law_block" (defArgs s_law_block) (defBody s_law_block) (defScope s_law_block) .none kV_law_block dc_law_block pm_law_block an_law_block cd_law_block ct_law_block), sl_law_block⟩)
    (c_law_block : PySem.W.codeIn K cd_law_block "_law_block" = true) (k_law_block : PySem.W.keepIn K (.ref f_law_block) = true)
    {f_law : Addr} {od_law an_law : Option Addr} {sl_law : Array (Option Value)} {oc_law dc_law pm_law cd_law ct_law : Value} {kV_law : Value}
    (g_law : PySem.W.nsIn K mainGlobals "law" = some (some (.ref f_law)))
    (l_law : K.lookup f_law = some ⟨oc_law, od_law, .func (PySem.W.fnOf "law" "law" (defArgs s_law) (defBody s_law) (defScope s_law) .none kV_law dc_law pm_law an_law cd_law ct_law), sl_law⟩)
    (c_law : PySem.W.codeIn K cd_law "law" = true) (k_law : PySem.W.keepIn K (.ref f_law) = true)
    : ∃ fd : FuncData, (∀ (s : Shared) (v : Value), BindsTo s fd ⟨[v], []⟩ [("script", v)]) ∧ ∀ base : Heap, K.In base → base.Ns mainGlobals mg → FnOk l.prog w K mg base CX0 5 fa fd ["script"] (spTrue K) := by
  have T : TX l.prog K mg := {
    n_abs := PySem.W.mg_none_of X G z_abs
    n_all := PySem.W.mg_none_of X G z_all
    n_bool := PySem.W.mg_none_of X G z_bool
    n_int := PySem.W.mg_none_of X G z_int
    n_isinstance := PySem.W.mg_none_of X G z_isinstance
    n_len := PySem.W.mg_none_of X G z_len
    n_list := PySem.W.mg_none_of X G z_list
    n_max := PySem.W.mg_none_of X G z_max
    n_range := PySem.W.mg_none_of X G z_range
    n_str := PySem.W.mg_none_of X G z_str
    A_ALONE := ac_ALONE
    c_ALONE := PySem.W.mg_of X G z_ALONE
    r_ALONE := fun F => rep_tupS [((Str.ofString "undo"), u_ALONE_0), ((Str.ofString "redo"), u_ALONE_1), ((Str.ofString "answers"), u_ALONE_2)] zt_ALONE (by simp only [List.length_cons, List.length_nil]; decide) F
    t_DIGITS := u_DIGITS
    c_DIGITS := PySem.W.mg_of X G z_DIGITS
    t_GREATEST_HORIZON := u_GREATEST_HORIZON
    c_GREATEST_HORIZON := PySem.W.mg_of X G z_GREATEST_HORIZON
    t_LONGEST_NAME := u_LONGEST_NAME
    c_LONGEST_NAME := PySem.W.mg_of X G z_LONGEST_NAME
    t_MOST_DIGITS_OF_A_NUMBER := u_MOST_DIGITS_OF_A_NUMBER
    c_MOST_DIGITS_OF_A_NUMBER := PySem.W.mg_of X G z_MOST_DIGITS_OF_A_NUMBER
    t_NAME_CHARACTERS := u_NAME_CHARACTERS
    c_NAME_CHARACTERS := PySem.W.mg_of X G z_NAME_CHARACTERS
    A_REMOVED := ac_REMOVED
    c_REMOVED := PySem.W.mg_of X G z_REMOVED
    r_REMOVED := fun F => rep_tupS [((Str.ofString "task"), u_REMOVED_0), ((Str.ofString "table"), u_REMOVED_1)] zt_REMOVED (by simp only [List.length_cons, List.length_nil]; decide) F
    A_SHOWN := ac_SHOWN
    c_SHOWN := PySem.W.mg_of X G z_SHOWN
    r_SHOWN := fun F => rep_tupS [((Str.ofString "tasks"), u_SHOWN_0), ((Str.ofString "tables"), u_SHOWN_1), ((Str.ofString "questions"), u_SHOWN_2)] zt_SHOWN (by simp only [List.length_cons, List.length_nil]; decide) F
    A_WITH_A_NAME := ac_WITH_A_NAME
    c_WITH_A_NAME := PySem.W.mg_of X G z_WITH_A_NAME
    r_WITH_A_NAME := fun F => rep_tupS [((Str.ofString "task"), u_WITH_A_NAME_0), ((Str.ofString "drop"), u_WITH_A_NAME_1), ((Str.ofString "answer"), u_WITH_A_NAME_2), ((Str.ofString "system"), u_WITH_A_NAME_3)] zt_WITH_A_NAME (by simp only [List.length_cons, List.length_nil]; decide) F
    a_law_row := f_law_row
    d_law_row := _
    F_law_row := fun_mk (st := s_law_row) l_law_row c_law_row k_law_row
    k_law_row := k_law_row
    m_law_row := PySem.W.mg_of X G g_law_row
    b_law_row := (fun_mk (st := s_law_row) l_law_row c_law_row k_law_row).binds (ps := ["cell", "many"]) fun _ _ _ _ _ _ us hl => match us, hl with | [_, _], _ => rfl
    a_law_numbers := f_law_numbers
    d_law_numbers := _
    F_law_numbers := fun_mk (st := s_law_numbers) l_law_numbers c_law_numbers k_law_numbers
    k_law_numbers := k_law_numbers
    m_law_numbers := PySem.W.mg_of X G g_law_numbers
    b_law_numbers := (fun_mk (st := s_law_numbers) l_law_numbers c_law_numbers k_law_numbers).binds (ps := ["script", "many"]) fun _ _ _ _ _ _ us hl => match us, hl with | [_, _], _ => rfl
    a_is_name := f_is_name
    d_is_name := _
    F_is_name := fun_mk (st := s_is_name) l_is_name c_is_name k_is_name
    k_is_name := k_is_name
    m_is_name := PySem.W.mg_of X G g_is_name
    b_is_name := (fun_mk (st := s_is_name) l_is_name c_is_name k_is_name).binds (ps := ["value"]) fun _ _ _ _ _ _ us hl => match us, hl with | [_], _ => rfl
    a_read_number := f_read_number
    d_read_number := _
    F_read_number := fun_mk (st := s_read_number) l_read_number c_read_number k_read_number
    k_read_number := k_read_number
    m_read_number := PySem.W.mg_of X G g_read_number
    b_read_number := (fun_mk (st := s_read_number) l_read_number c_read_number k_read_number).binds (ps := ["word", "most_digits"]) fun _ _ _ _ _ _ us hl => match us, hl with | [_, _], _ => rfl
    a_split_words := f_split_words
    d_split_words := _
    F_split_words := fun_mk (st := s_split_words) l_split_words c_split_words k_split_words
    k_split_words := k_split_words
    m_split_words := PySem.W.mg_of X G g_split_words
    b_split_words := (fun_mk (st := s_split_words) l_split_words c_split_words k_split_words).binds (ps := ["line"]) fun _ _ _ _ _ _ us hl => match us, hl with | [_], _ => rfl
    a_is_number := f_is_number
    d_is_number := _
    F_is_number := fun_mk (st := s_is_number) l_is_number c_is_number k_is_number
    k_is_number := k_is_number
    m_is_number := PySem.W.mg_of X G g_is_number
    b_is_number := (fun_mk (st := s_is_number) l_is_number c_is_number k_is_number).binds (ps := ["word"]) fun _ _ _ _ _ _ us hl => match us, hl with | [_], _ => rfl
    a_is_horizon := f_is_horizon
    d_is_horizon := _
    F_is_horizon := fun_mk (st := s_is_horizon) l_is_horizon c_is_horizon k_is_horizon
    k_is_horizon := k_is_horizon
    m_is_horizon := PySem.W.mg_of X G g_is_horizon
    b_is_horizon := (fun_mk (st := s_is_horizon) l_is_horizon c_is_horizon k_is_horizon).binds (ps := ["word"]) fun _ _ _ _ _ _ us hl => match us, hl with | [_], _ => rfl
    a_are_numbers := f_are_numbers
    d_are_numbers := _
    F_are_numbers := fun_mk (st := s_are_numbers) l_are_numbers c_are_numbers k_are_numbers
    k_are_numbers := k_are_numbers
    m_are_numbers := PySem.W.mg_of X G g_are_numbers
    b_are_numbers := (fun_mk (st := s_are_numbers) l_are_numbers c_are_numbers k_are_numbers).binds (ps := ["words"]) fun _ _ _ _ _ _ us hl => match us, hl with | [_], _ => rfl
    a_are_names := f_are_names
    d_are_names := _
    F_are_names := fun_mk (st := s_are_names) l_are_names c_are_names k_are_names
    k_are_names := k_are_names
    m_are_names := PySem.W.mg_of X G g_are_names
    b_are_names := (fun_mk (st := s_are_names) l_are_names c_are_names k_are_names).binds (ps := ["words"]) fun _ _ _ _ _ _ us hl => match us, hl with | [_], _ => rfl
    a_is_command := f_is_command
    d_is_command := _
    F_is_command := fun_mk (st := s_is_command) l_is_command c_is_command k_is_command
    k_is_command := k_is_command
    m_is_command := PySem.W.mg_of X G g_is_command
    b_is_command := (fun_mk (st := s_is_command) l_is_command c_is_command k_is_command).binds (ps := ["words"]) fun _ _ _ _ _ _ us hl => match us, hl with | [_], _ => rfl
    a_is_block_line := f_is_block_line
    d_is_block_line := _
    F_is_block_line := fun_mk (st := s_is_block_line) l_is_block_line c_is_block_line k_is_block_line
    k_is_block_line := k_is_block_line
    m_is_block_line := PySem.W.mg_of X G g_is_block_line
    b_is_block_line := (fun_mk (st := s_is_block_line) l_is_block_line c_is_block_line k_is_block_line).binds (ps := ["words"]) fun _ _ _ _ _ _ us hl => match us, hl with | [_], _ => rfl
    a_law_word := f_law_word
    d_law_word := _
    F_law_word := fun_mk (st := s_law_word) l_law_word c_law_word k_law_word
    k_law_word := k_law_word
    m_law_word := PySem.W.mg_of X G g_law_word
    b_law_word := (fun_mk (st := s_law_word) l_law_word c_law_word k_law_word).binds (ps := ["number", "more"]) fun _ _ _ _ _ _ us hl => match us, hl with | [_, _], _ => rfl
    a_law_formed := f_law_formed
    d_law_formed := _
    F_law_formed := fun_mk (st := s_law_formed) l_law_formed c_law_formed k_law_formed
    k_law_formed := k_law_formed
    m_law_formed := PySem.W.mg_of X G g_law_formed
    b_law_formed := (fun_mk (st := s_law_formed) l_law_formed c_law_formed k_law_formed).binds (ps := ["words", "number"]) fun _ _ _ _ _ _ us hl => match us, hl with | [_, _], _ => rfl
    a_law_is_name := f_law_is_name
    d_law_is_name := _
    F_law_is_name := fun_mk (st := s_law_is_name) l_law_is_name c_law_is_name k_law_is_name
    k_law_is_name := k_law_is_name
    m_law_is_name := PySem.W.mg_of X G g_law_is_name
    b_law_is_name := (fun_mk (st := s_law_is_name) l_law_is_name c_law_is_name k_law_is_name).binds (ps := ["word"]) fun _ _ _ _ _ _ us hl => match us, hl with | [_], _ => rfl
    a_law_is_number := f_law_is_number
    d_law_is_number := _
    F_law_is_number := fun_mk (st := s_law_is_number) l_law_is_number c_law_is_number k_law_is_number
    k_law_is_number := k_law_is_number
    m_law_is_number := PySem.W.mg_of X G g_law_is_number
    b_law_is_number := (fun_mk (st := s_law_is_number) l_law_is_number c_law_is_number k_law_is_number).binds (ps := ["word"]) fun _ _ _ _ _ _ us hl => match us, hl with | [_], _ => rfl
    a_law_all := f_law_all
    d_law_all := _
    F_law_all := fun_mk (st := s_law_all) l_law_all c_law_all k_law_all
    k_law_all := k_law_all
    m_law_all := PySem.W.mg_of X G g_law_all
    b_law_all := (fun_mk (st := s_law_all) l_law_all c_law_all k_law_all).binds (ps := ["words", "numbers"]) fun _ _ _ _ _ _ us hl => match us, hl with | [_, _], _ => rfl
    a_law_command := f_law_command
    d_law_command := _
    F_law_command := fun_mk (st := s_law_command) l_law_command c_law_command k_law_command
    k_law_command := k_law_command
    m_law_command := PySem.W.mg_of X G g_law_command
    b_law_command := (fun_mk (st := s_law_command) l_law_command c_law_command k_law_command).binds (ps := ["words"]) fun _ _ _ _ _ _ us hl => match us, hl with | [_], _ => rfl
    a_law_block := f_law_block
    d_law_block := _
    F_law_block := fun_mk (st := s_law_block) l_law_block c_law_block k_law_block
    k_law_block := k_law_block
    m_law_block := PySem.W.mg_of X G g_law_block
    b_law_block := (fun_mk (st := s_law_block) l_law_block c_law_block k_law_block).binds (ps := ["words"]) fun _ _ _ _ _ _ us hl => match us, hl with | [_], _ => rfl
    a_law := f_law
    d_law := _
    F_law := fun_mk (st := s_law) l_law c_law k_law
    k_law := k_law
    m_law := PySem.W.mg_of X G g_law
    b_law := (fun_mk (st := s_law) l_law c_law k_law).binds (ps := ["script"]) fun _ _ _ _ _ _ us hl => match us, hl with | [_], _ => rfl
    e_law := fun s v => .of_eq rfl }
  have e : fa = T.a_law := Value.ref.inj (Option.some.inj (hfa.symm.trans T.m_law))
  subst e
  exact ⟨T.d_law, T.e_law, fun base _ _ => (ok_law (P := l.prog) (w := w) (base := base) T).imp fun vs H Q E h => spTrue_of law_true h⟩
theorem walk {l : PySem.W.OpenLaw} {q : Program} {loose : List Str} {XP : (Str → Option Value) → Heap → Prop} {YP : World → Heap → Prop} {d : DefRec} {K : Params → Frag} (hn : l.most = some 63) (hdf : d.params.defaults = [])
    (hY : ∀ (w : World) (h : Heap), YP w h → (K w.params).In h)
    (hF : ∀ (w : World) (mg : Mg) (fa : Addr) (h : Heap), (K w.params).In h → h.Ns mainGlobals mg → mg d.name = some (.ref fa) → ∃ fd : FuncData, (∀ (s : Shared) (u : Value), BindsTo s fd ⟨[u], []⟩ [("script", u)]) ∧
      ∀ base : Heap, (K w.params).In base → base.Ns mainGlobals mg → FnOk l.prog w (K w.params) mg base CX0 5 fa fd ["script"] (spTrue (K w.params))) : PySem.W.WalkO q loose XP YP l.row.toRowW d [] (fun f vs => PySem.call f vs) :=
  L2.walk_of (n := 63) (k := 5) (x := "script") (CX := fun _ => CX0) (sp := fun w => spTrue (K w.params)) hn (by decide) hdf ⟨rfl, by decide, by decide⟩ hY hF (fun _ _ a ns hl _ hS => ⟨a, ns, rfl, hS, hl, fun _ => rfl⟩) fun _ _ _ _ _ z => z
end
end My
open PySem PySem.W PyProof.Rows in
set_option maxRecDepth 100000 in
set_option maxHeartbeats 0 in
theorem PySem.Challenge.cw_neverlate_k95_words_of_a_session_holds : PySem.Challenge.rw_neverlate_k95_words_of_a_session.Holds := by
  w_on; o_law; k_head; (case hw => w_witness2)
  k_fill
  refine My.walk (l := PySem.Challenge.rw_neverlate_k95_words_of_a_session) rfl rfl (fun w h Y => PySem.W.kIn_of Y) ?hF
  case hF =>
    intro w mg fa h KX G hmg
    refine' My.all_mk KX G hmg ?z_abs ?z_all ?z_bool ?z_int ?z_isinstance ?z_len ?z_list ?z_max ?z_range ?z_str ?z_ALONE ?zt_ALONE ?z_DIGITS ?z_GREATEST_HORIZON ?z_LONGEST_NAME ?z_MOST_DIGITS_OF_A_NUMBER ?z_NAME_CHARACTERS ?z_REMOVED ?zt_REMOVED ?z_SHOWN ?zt_SHOWN ?z_WITH_A_NAME ?zt_WITH_A_NAME ?g_law_row ?l_law_row ?c_law_row ?k_law_row ?g_law_numbers ?l_law_numbers ?c_law_numbers ?k_law_numbers ?g_is_name ?l_is_name ?c_is_name ?k_is_name ?g_read_number ?l_read_number ?c_read_number ?k_read_number ?g_split_words ?l_split_words ?c_split_words ?k_split_words ?g_is_number ?l_is_number ?c_is_number ?k_is_number ?g_is_horizon ?l_is_horizon ?c_is_horizon ?k_is_horizon ?g_are_numbers ?l_are_numbers ?c_are_numbers ?k_are_numbers ?g_are_names ?l_are_names ?c_are_names ?k_are_names ?g_is_command ?l_is_command ?c_is_command ?k_is_command ?g_is_block_line ?l_is_block_line ?c_is_block_line ?k_is_block_line ?g_law_word ?l_law_word ?c_law_word ?k_law_word ?g_law_formed ?l_law_formed ?c_law_formed ?k_law_formed ?g_law_is_name ?l_law_is_name ?c_law_is_name ?k_law_is_name ?g_law_is_number ?l_law_is_number ?c_law_is_number ?k_law_is_number ?g_law_all ?l_law_all ?c_law_all ?k_law_all ?g_law_command ?l_law_command ?c_law_command ?k_law_command ?g_law_block ?l_law_block ?c_law_block ?k_law_block ?g_law ?l_law ?c_law ?k_law
    (case z_abs => k_is)
    (case z_all => k_is)
    (case z_bool => k_is)
    (case z_int => k_is)
    (case z_isinstance => k_is)
    (case z_len => k_is)
    (case z_list => k_is)
    (case z_max => k_is)
    (case z_range => k_is)
    (case z_str => k_is)
    (case z_ALONE => k_is)
    (case zt_ALONE => k_is)
    (case z_DIGITS => k_is)
    (case z_GREATEST_HORIZON => k_is)
    (case z_LONGEST_NAME => k_is)
    (case z_MOST_DIGITS_OF_A_NUMBER => k_is)
    (case z_NAME_CHARACTERS => k_is)
    (case z_REMOVED => k_is)
    (case zt_REMOVED => k_is)
    (case z_SHOWN => k_is)
    (case zt_SHOWN => k_is)
    (case z_WITH_A_NAME => k_is)
    (case zt_WITH_A_NAME => k_is)
    (case g_law_row => k_is)
    (case l_law_row => k_is)
    (case c_law_row => k_is)
    (case k_law_row => k_is)
    (case g_law_numbers => k_is)
    (case l_law_numbers => k_is)
    (case c_law_numbers => k_is)
    (case k_law_numbers => k_is)
    (case g_is_name => k_is)
    (case l_is_name => k_is)
    (case c_is_name => k_is)
    (case k_is_name => k_is)
    (case g_read_number => k_is)
    (case l_read_number => k_is)
    (case c_read_number => k_is)
    (case k_read_number => k_is)
    (case g_split_words => k_is)
    (case l_split_words => k_is)
    (case c_split_words => k_is)
    (case k_split_words => k_is)
    (case g_is_number => k_is)
    (case l_is_number => k_is)
    (case c_is_number => k_is)
    (case k_is_number => k_is)
    (case g_is_horizon => k_is)
    (case l_is_horizon => k_is)
    (case c_is_horizon => k_is)
    (case k_is_horizon => k_is)
    (case g_are_numbers => k_is)
    (case l_are_numbers => k_is)
    (case c_are_numbers => k_is)
    (case k_are_numbers => k_is)
    (case g_are_names => k_is)
    (case l_are_names => k_is)
    (case c_are_names => k_is)
    (case k_are_names => k_is)
    (case g_is_command => k_is)
    (case l_is_command => k_is)
    (case c_is_command => k_is)
    (case k_is_command => k_is)
    (case g_is_block_line => k_is)
    (case l_is_block_line => k_is)
    (case c_is_block_line => k_is)
    (case k_is_block_line => k_is)
    (case g_law_word => k_is)
    (case l_law_word => k_is)
    (case c_law_word => k_is)
    (case k_law_word => k_is)
    (case g_law_formed => k_is)
    (case l_law_formed => k_is)
    (case c_law_formed => k_is)
    (case k_law_formed => k_is)
    (case g_law_is_name => k_is)
    (case l_law_is_name => k_is)
    (case c_law_is_name => k_is)
    (case k_law_is_name => k_is)
    (case g_law_is_number => k_is)
    (case l_law_is_number => k_is)
    (case c_law_is_number => k_is)
    (case k_law_is_number => k_is)
    (case g_law_all => k_is)
    (case l_law_all => k_is)
    (case c_law_all => k_is)
    (case k_law_all => k_is)
    (case g_law_command => k_is)
    (case l_law_command => k_is)
    (case c_law_command => k_is)
    (case k_law_command => k_is)
    (case g_law_block => k_is)
    (case l_law_block => k_is)
    (case c_law_block => k_is)
    (case k_law_block => k_is)
    (case g_law => k_is)
    (case l_law => k_is)
    (case c_law => k_is)
    (case k_law => k_is)
