import PyProof.Rows.All
import KE.DataMinMax
import KE.GoesEnumKw
import KE.GoesRev
import HandS.RepeatKit
import Wide.All
import OpenK.AllK
import Wide.FinOn
import HandS.ForMost
import HandS.ForExc
import HandS.IsInst
import HandS.Gcd
import HandS.Wide
import HandS.Property
import HandS.MakeKw
import HandS.MakeKwOnly
import HandS.Iter
import HandS.Strs
import HandS.Text
import KE.GoesMore
import PyProof.EnumMake
import KE.DataEq
import HandS.Style
import KE.KTupSum
import KE.DatumOrd
import HandS.SortKw
import HandS.Defaults
import KE.KMathGC
import KE.GoesZip
import KE.GoesEnum
import KE.SortData
import KE.DataCmp
import HandS.CallSlots
import HandS.ExcIs
import HandS.ExcField
import HandS.ExcInit
import HandS.Nested
import HandS.FStr
import HandS.ExcSuper
import HandS.TryOnly
import KE.KExcSuper
import KE.KExcIs
import PyProof.FitsInt
import PyProof.StrBlock2
import HandS.RaiseMore
import HandS.StrMore
import PyProof.NoPylong
import PyProof.Rows.RuleDivmod
import PyProof.Rows.InDataRows
import PyProof.StrLawsIn
import KE.IntTextLaws
import KE.KDictZip
import HandS.Dict
import HandS.EndTab
import HandS.Lambda
import HandS.Conv
import HandS.DictComp
import PyProof.MinMaxWalk
import HandS.SetKeys
import HandS.SetBool
import HandS.TupSets
import HandS.Deep
import HandS.HotCalls
import PySem.Challenge.RW_neverlate_k11_tables
set_option Elab.async false
set_option linter.all false
set_option maxRecDepth 100000
set_option maxHeartbeats 0
namespace Nz
open PySem PySem.Spec PyProof.Rows L2
/-- data that never changes any more -/
inductive D where
  | non | bl (b : Bool) | int (i : Int) | str (s : Str)
  | tup (xs : List D) | lst (xs : List D) | obj (c : Str) (fs : List (Str × D))
  | dK (kvs : List (Key × D)) | dT (kvs : List (List Key × D))
abbrev Frag := PySem.W.Frag
abbrev Mg := Str → Option Value
mutual
inductive Rep (K : Frag) (mg : Mg) (F : Hp) : D → V → Prop
  | non : Rep K mg F .non .non
  | bl (b : Bool) : Rep K mg F (.bl b) (.bl b)
  | int (i : Int) : Rep K mg F (.int i) (.int i)
  | str (s : Str) : Rep K mg F (.str s) (.str s)
  | tup {a : Addr} {ds : List D} {vs : List V} : SqT K F a vs → Reps K mg F ds vs → Rep K mg F (.tup ds) (.ref a)
  | lst {a : Addr} {ds : List D} {vs : List V} : SqL K F a vs → Reps K mg F ds vs → Rep K mg F (.lst ds) (.ref a)
  | obj {a dx C : Addr} {c : Str} {fs : List (Str × D)} {vs : List (Str × V)} : mg c = some (.ref C) → F a = some (.ins C dx vs) → F dx = some (.own a) →
      RepF K mg F fs vs → Rep K mg F (.obj c fs) (.ref a)
  | dK {a : Addr} {kvs : List (Key × D)} {vs : List (Key × V)} : F a = some (.dK vs) → kvs.map Prod.fst = vs.map Prod.fst → Reps K mg F (kvs.map Prod.snd) (vs.map Prod.snd) → Rep K mg F (.dK kvs) (.ref a)
  | dT {a : Addr} {kvs : List (List Key × D)} {vs : List (List Key × V)} : F a = some (.dT vs) → kvs.map Prod.fst = vs.map Prod.fst → Reps K mg F (kvs.map Prod.snd) (vs.map Prod.snd) → Rep K mg F (.dT kvs) (.ref a)
inductive Reps (K : Frag) (mg : Mg) (F : Hp) : List D → List V → Prop
  | nil : Reps K mg F [] []
  | cons {d : D} {v : V} {ds : List D} {vs : List V} : Rep K mg F d v → Reps K mg F ds vs → Reps K mg F (d :: ds) (v :: vs)
inductive RepF (K : Frag) (mg : Mg) (F : Hp) : List (Str × D) → List (Str × V) → Prop
  | nil : RepF K mg F [] []
  | cons {n : Str} {d : D} {v : V} {ds : List (Str × D)} {vs : List (Str × V)} : Rep K mg F d v → RepF K mg F ds vs → RepF K mg F ((n, d) :: ds) ((n, v) :: vs)
end
theorem _root_.L2.Same.seqT {K : Frag} {H H' : Hp} {a : Addr} {xs : List V} (e : Same H H') (h : SqT K H a xs) : SqT K H' a xs := by
  rcases h with (h | ⟨o, h⟩) | h
  · exact .inl (.inl (e _ _ h))
  · exact .inl (.inr ⟨o, e _ _ h⟩)
  · exact .inr h
section
variable {K : Frag} {mg : Mg} {F F' : Hp}
mutual
theorem Rep.mono (s : Same F F') : ∀ {d : D} {v : V}, Rep K mg F d v → Rep K mg F' d v
  | _, _, .non => .non
  | _, _, .bl b => .bl b
  | _, _, .int i => .int i
  | _, _, .str x => .str x
  | _, _, .tup h r => .tup (s.seqT h) (Reps.mono s r)
  | _, _, .lst h r => .lst (s.seq h) (Reps.mono s r)
  | _, _, .obj m h1 h2 r => .obj m (s _ _ h1) (s _ _ h2) (RepF.mono s r)
  | _, _, .dK h e r => .dK (s _ _ h) e (Reps.mono s r)
  | _, _, .dT h e r => .dT (s _ _ h) e (Reps.mono s r)
theorem Reps.mono (s : Same F F') : ∀ {d : List D} {v : List V}, Reps K mg F d v → Reps K mg F' d v
  | _, _, .nil => .nil
  | _, _, .cons h r => .cons (Rep.mono s h) (Reps.mono s r)
theorem RepF.mono (s : Same F F') : ∀ {d : List (Str × D)} {v : List (Str × V)}, RepF K mg F d v → RepF K mg F' d v
  | _, _, .nil => .nil
  | _, _, .cons h r => .cons (Rep.mono s h) (RepF.mono s r)
end
theorem Reps.length : ∀ {ds : List D} {vs : List V}, Reps K mg F ds vs → ds.length = vs.length
  | _, _, .nil => rfl
  | _, _, .cons _ r => congrArg (· + 1) (Reps.length r)
theorem Reps.get : ∀ {ds : List D} {vs : List V} {i : Nat} {d : D}, Reps K mg F ds vs → ds[i]? = some d → ∃ v, vs[i]? = some v ∧ Rep K mg F d v
  | _, _, _, _, .nil, h => by simp at h
  | _, _, 0, _, .cons h r, e => by simp at e; subst e; exact ⟨_, rfl, h⟩
  | _, _, i + 1, _, .cons h r, e => by
    obtain ⟨v, h1, h2⟩ := Reps.get (i := i) r (by simpa using e)
    exact ⟨v, by simpa using h1, h2⟩
theorem Reps.append : ∀ {ds es : List D} {vs us : List V}, Reps K mg F ds vs → Reps K mg F es us → Reps K mg F (ds ++ es) (vs ++ us)
  | _, _, _, _, .nil, s => s
  | _, _, _, _, .cons h r, s => .cons h (r.append s)
theorem Reps.ints : ∀ {ns : List Int}, Reps K mg F (ns.map D.int) (ns.map V.int)
  | [] => .nil
  | _ :: ns => .cons (.int _) (Reps.ints (ns := ns))
theorem Reps.set : ∀ {ds : List D} {vs : List V} (i : Nat) {d : D} {v : V}, Reps K mg F ds vs → Rep K mg F d v → Reps K mg F (ds.set i d) (vs.set i v)
  | _, _, _, _, _, .nil, _ => .nil
  | _, _, 0, _, _, .cons _ r, h => .cons h r
  | _, _, i + 1, _, _, .cons q r, h => .cons q (r.set i h)
theorem Reps.take : ∀ {ds : List D} {vs : List V} (i : Nat), Reps K mg F ds vs → Reps K mg F (ds.take i) (vs.take i)
  | _, _, 0, _ => by simpa using Reps.nil
  | _, _, _ + 1, .nil => .nil
  | _, _, i + 1, .cons q r => .cons q (r.take i)
theorem Reps.drop : ∀ {ds : List D} {vs : List V} (i : Nat), Reps K mg F ds vs → Reps K mg F (ds.drop i) (vs.drop i)
  | _, _, 0, r => r
  | _, _, _ + 1, .nil => .nil
  | _, _, i + 1, .cons _ r => r.drop i
end
/-- no instance, no owner's mark -/
def plainO : HO → Bool
  | .own _ => false
  | .ins _ _ _ => false
  | _ => true
/-- a cell: frozen data, or the live object of this name -/
inductive Ce where
  | fr (d : D) | ad (n : Nat) | xv (u : V)
/-- a live object -/
inductive LO where
  | fl (ds : List D)                    -- a list of frozen data
  | cl (cs : List Ce)                   -- a list of cells
  | ins (c : Str) (fs : List (Str × Ce)) -- an instance
  | dT (kvs : List (List Key × D))
  | dK (kvs : List (Key × D))
  | dC (kvs : List (Key × Ce))
  | tab (p : Addr) (nm : Nat → Nat → Str) -- a table of code objects
  | px (φ : Hp → Addr → HO → Prop) -- any other thing
/-- a state: the slots, the live objects -/
structure S where
  ρ : List (Option Ce)
  L : List (Nat × LO)
def names (L : List (Nat × LO)) : List Nat := L.map (·.1)
def CRel (K : Frag) (mg : Mg) (F : Hp) (α : Nat → Addr) (L : List (Nat × LO)) (c : Ce) (v : V) : Prop :=
  match c with
  | .fr d => Rep K mg F d v
  | .ad n => n ∈ names L ∧ v = .ref (α n)
  | .xv u => v = u
inductive CRels (K : Frag) (mg : Mg) (F : Hp) (α : Nat → Addr) (L : List (Nat × LO)) : List Ce → List V → Prop
  | nil : CRels K mg F α L [] []
  | cons {c : Ce} {v : V} {cs : List Ce} {vs : List V} : CRel K mg F α L c v → CRels K mg F α L cs vs → CRels K mg F α L (c :: cs) (v :: vs)
inductive CRelF (K : Frag) (mg : Mg) (F : Hp) (α : Nat → Addr) (L : List (Nat × LO)) : List (Str × Ce) → List (Str × V) → Prop
  | nil : CRelF K mg F α L [] []
  | cons {n : Str} {c : Ce} {v : V} {cs : List (Str × Ce)} {vs : List (Str × V)} : CRel K mg F α L c v → CRelF K mg F α L cs vs → CRelF K mg F α L ((n, c) :: cs) ((n, v) :: vs)
inductive CRelK {κ : Type} (K : Frag) (mg : Mg) (F : Hp) (α : Nat → Addr) (L : List (Nat × LO)) : List (κ × Ce) → List (κ × V) → Prop
  | nil : CRelK K mg F α L [] []
  | cons {n : κ} {c : Ce} {v : V} {cs : List (κ × Ce)} {vs : List (κ × V)} : CRel K mg F α L c v → CRelK K mg F α L cs vs → CRelK K mg F α L ((n, c) :: cs) ((n, v) :: vs)
/-- the slots -/
inductive SlR (K : Frag) (mg : Mg) (F : Hp) (α : Nat → Addr) (L : List (Nat × LO)) : List (Option Ce) → L2.St → Prop
  | nil : SlR K mg F α L [] []
  | no {o : Option V} {cs : List (Option Ce)} {vs : L2.St} : SlR K mg F α L cs vs → SlR K mg F α L (none :: cs) (o :: vs)
  | so {c : Ce} {v : V} {cs : List (Option Ce)} {vs : L2.St} : CRel K mg F α L c v → SlR K mg F α L cs vs → SlR K mg F α L (some c :: cs) (some v :: vs)
/-- what a def was entered with: the frozen heap, the heap, what it may change -/
structure Bd where
  F0 : Hp
  H0 : Hp
  fp : Addr → Prop
  pa : Nat → Option Addr
  hpa : ∀ n, 100 ≤ n → pa n = none
/-- the live object o stands at a -/
def LAt (K : Frag) (mg : Mg) (B : Bd) (F : Hp) (α : Nat → Addr) (L : List (Nat × LO)) (H : Hp) (a : Addr) : LO → Prop
  | .fl ds => ∃ vs, H a = some (.lst vs) ∧ Reps K mg F ds vs
  | .cl cs => ∃ vs, H a = some (.lst vs) ∧ CRels K mg F α L cs vs
  | .ins c fs => ∃ C dx vs, mg c = some (.ref C) ∧ H a = some (.ins C dx vs) ∧ H dx = some (.own a) ∧ F dx = none ∧ (B.H0 dx = none ∨ B.fp dx) ∧ CRelF K mg F α L fs vs
  | .dT kvs => ∃ vs, H a = some (.dT vs) ∧ Paired (fun (p : List Key × D) (q : List Key × V) => p.1 = q.1 ∧ Rep K mg F p.2 q.2) kvs vs
  | .dK kvs => ∃ vs, H a = some (.dK vs) ∧ Paired (fun (p : Key × D) (q : Key × V) => p.1 = q.1 ∧ Rep K mg F p.2 q.2) kvs vs
  | .dC kvs => ∃ vs, H a = some (.dK vs) ∧ CRelK K mg F α L kvs vs
  | .tab p nm => a = p ∧ ∃ ps, H a = some (.tbl ps) ∧ TriplesOk ps.toList ∧ ∀ pos cv, codeAmong pos ps.toList = some cv → ∃ c, cv = .ref c ∧ F c = some (LamX.CodeO c (nm pos.line pos.col))
  | .px φ => ∃ o, H a = some o ∧ plainO o = true ∧ ∀ F', Same F F' → φ F' a o
structure Rel (K : Frag) (mg : Mg) (B : Bd) (F : Hp) (α : Nat → Addr) (H : Hp) (σ : L2.St) (S : S) : Prop where
  sub : Same F H
  bF : Same B.F0 F
  nF : ∀ b o, F b = some o → B.F0 b = some o ∨ B.H0 b = none ∨ B.fp b
  frame : ∀ b o, B.H0 b = some o → ¬ B.fp b → H b = some o
  nd : (names S.L).Nodup
  inj : ∀ n m, n ∈ names S.L → m ∈ names S.L → α n = α m → n = m
  live : ∀ n o, (n, o) ∈ S.L → F (α n) = none ∧ (B.H0 (α n) = none ∨ B.fp (α n)) ∧ LAt K mg B F α S.L H (α n) o
  slots : SlR K mg F α S.L S.ρ σ
  fix : ∀ n a, B.pa n = some a → n ∈ names S.L → α n = a
/-- a step keeps what is frozen, and the names of what lives -/
structure Stp (F : Hp) (α : Nat → Addr) (L : List (Nat × LO)) (F' : Hp) (α' : Nat → Addr) : Prop where
  fro : Same F F'
  nm : ∀ n, n ∈ names L → α' n = α n
def wE (X : Cx) (e : Expr) (σ : L2.St) (H : Hp) (Q : VK) : Prop :=
  ∀ pins s, Inv X pins σ H s → wpAny (model X.prog X.w) X.A (eval e X.env) (EP X pins σ Q) X.xe s
def wT (X : Cx) (e : Expr) (σ : L2.St) (H : Hp) (Q : Bool → Hp → Prop) : Prop :=
  ∀ pins s, Inv X pins σ H s → wpAny (model X.prog X.w) X.A (isTrue e X.env (eval e X.env)) (TP X pins σ Q) X.xe s
def wA (X : Cx) (es : List Expr) (σ : L2.St) (H : Hp) (Q : List V → Hp → Prop) : Prop :=
  ∀ pos pins s, Inv X pins σ H s → wpAny (model X.prog X.w) X.A (spliced (backTo pos (starEach es X.env))) (AP X pins σ Q) X.xe s
def wS (X : Cx) (st : Stmt) (D : Ends) (σ : L2.St) (H : Hp) : Prop :=
  ∀ pins s, Inv X pins σ H s → wpAny (model X.prog X.w) X.A (exec st X.env) (SP X pins D) X.xe s
def wSs (X : Cx) (st : List Stmt) (D : Ends) (σ : L2.St) (H : Hp) : Prop :=
  ∀ pins s, Inv X pins σ H s → wpAny (model X.prog X.w) X.A (execs st X.env) (SP X pins D) X.xe s
theorem pe_w {X : Cx} {e : Expr} : PE X e (wE X e) := ⟨fun pins s σ H Q I h => h pins s I⟩
theorem pt_w {X : Cx} {e : Expr} : PT X e (wT X e) := ⟨fun pins s σ H Q I h => h pins s I⟩
theorem pa_w {X : Cx} {e : List Expr} : PA X e (wA X e) := ⟨fun pos pins s σ H Q I h => h pos pins s I⟩
theorem ps_w {X : Cx} {e : Stmt} : PS X e (wS X e) := ⟨fun pins s σ H Q I h => h pins s I⟩
theorem pss_w {X : Cx} {e : List Stmt} : PSs X e (wSs X e) := ⟨fun pins s σ H Q I h => h pins s I⟩
theorem wE.of {X : Cx} {e : Expr} {t : TE} {σ : L2.St} {H : Hp} {Q : VK} (h : PE X e t) (q : t σ H Q) : wE X e σ H Q := fun pins s I => h.run pins s σ H Q I q
theorem wT.of {X : Cx} {e : Expr} {t : TT} {σ : L2.St} {H : Hp} {Q : Bool → Hp → Prop} (h : PT X e t) (q : t σ H Q) : wT X e σ H Q := fun pins s I => h.run pins s σ H Q I q
theorem wA.of {X : Cx} {e : List Expr} {t : TA} {σ : L2.St} {H : Hp} {Q : List V → Hp → Prop} (h : PA X e t) (q : t σ H Q) : wA X e σ H Q := fun pos pins s I => h.run pos pins s σ H Q I q
theorem wS.of {X : Cx} {e : Stmt} {t : TS} {σ : L2.St} {H : Hp} {D : Ends} (h : PS X e t) (q : t D σ H) : wS X e D σ H := fun pins s I => h.run pins s σ H D I q
theorem wSs.of {X : Cx} {e : List Stmt} {t : TS} {σ : L2.St} {H : Hp} {D : Ends} (h : PSs X e t) (q : t D σ H) : wSs X e D σ H := fun pins s I => h.run pins s σ H D I q
abbrev RelX (X : Cx) := Rel X.K X.mg
abbrev CR (X : Cx) := CRel X.K X.mg
/-- e in the state S gives c and leaves S' -/
def Ev (X : Cx) (B : Bd) (e : Expr) (S : S) (c : Ce) (S' : Nz.S) : Prop :=
  ∀ F α H σ Q, RelX X B F α H σ S → (∀ F' α' v H', RelX X B F' α' H' σ S' → Stp F α S.L F' α' → CR X F' α' S'.L c v → Q v H') → wE X e σ H Q
def Et (X : Cx) (B : Bd) (e : Expr) (S : S) (b : Bool) (S' : Nz.S) : Prop :=
  ∀ F α H σ Q, RelX X B F α H σ S → (∀ F' α' H', RelX X B F' α' H' σ S' → Stp F α S.L F' α' → Q b H') → wT X e σ H Q
def Ea (X : Cx) (B : Bd) (es : List Expr) (S : S) (cs : List Ce) (S' : Nz.S) : Prop :=
  ∀ F α H σ Q, RelX X B F α H σ S → (∀ F' α' vs H', RelX X B F' α' H' σ S' → Stp F α S.L F' α' → CRels X.K X.mg F' α' S'.L cs vs → Q vs H') → wA X es σ H Q
/-- how a statement ends -/
inductive Out where
  | nx (S : S) | ret (c : Ce) (S : S) | bk (S : S) | ct (S : S)
structure OutOk (X : Cx) (B : Bd) (F : Hp) (K : Out → Prop) (D : Ends) : Prop where
  nx : ∀ S' F' α' H' σ', K (.nx S') → RelX X B F' α' H' σ' S' → Same F F' → D.nx σ' H'
  bk : ∀ S' F' α' H' σ', K (.bk S') → RelX X B F' α' H' σ' S' → Same F F' → D.bk σ' H'
  ct : ∀ S' F' α' H' σ', K (.ct S') → RelX X B F' α' H' σ' S' → Same F F' → D.ct σ' H'
  ret : ∀ c S' F' α' H' σ' v, K (.ret c S') → RelX X B F' α' H' σ' S' → Same F F' → CR X F' α' S'.L c v → D.rt v H'
theorem OutOk.mono {X : Cx} {B : Bd} {F F' : Hp} {K : Out → Prop} {D : Ends} (h : OutOk X B F K D) (s : Same F F') : OutOk X B F' K D :=
  ⟨fun S' F1 α' H' σ' k r q => h.nx _ _ _ _ _ k r (s.trans q), fun S' F1 α' H' σ' k r q => h.bk _ _ _ _ _ k r (s.trans q), fun S' F1 α' H' σ' k r q => h.ct _ _ _ _ _ k r (s.trans q),
    fun c S' F1 α' H' σ' v k r q z => h.ret _ _ _ _ _ _ _ k r (s.trans q) z⟩
def Ex (X : Cx) (B : Bd) (st : Stmt) (S : S) (K : Out → Prop) : Prop :=
  ∀ F α H σ D, RelX X B F α H σ S → OutOk X B F K D → wS X st D σ H
def Exs (X : Cx) (B : Bd) (st : List Stmt) (S : S) (K : Out → Prop) : Prop :=
  ∀ F α H σ D, RelX X B F α H σ S → OutOk X B F K D → wSs X st D σ H
end Nz
namespace Nz
open PySem PySem.Spec PyProof.Rows L2
def getL (n : Nat) : List (Nat × LO) → Option LO
  | [] => none
  | (m, o) :: r => if n = m then some o else getL n r
def setL (n : Nat) (o : LO) : List (Nat × LO) → List (Nat × LO)
  | [] => []
  | (m, u) :: r => if n = m then (m, o) :: r else (m, u) :: setL n o r
theorem getL_mem : ∀ {L : List (Nat × LO)} {n : Nat} {o : LO}, getL n L = some o → (n, o) ∈ L
  | (m, u) :: r, n, o, h => by
    unfold getL at h
    split at h
    · rename_i e; cases h; rw [e]; exact List.mem_cons_self
    · exact List.mem_cons_of_mem _ (getL_mem h)
theorem mem_names {L : List (Nat × LO)} {n : Nat} {o : LO} (h : (n, o) ∈ L) : n ∈ names L := List.mem_map.mpr ⟨_, h, rfl⟩
theorem names_setL : ∀ (L : List (Nat × LO)) (n : Nat) (o : LO), names (setL n o L) = names L
  | [], _, _ => rfl
  | (m, u) :: r, n, o => by
    unfold setL
    split
    · rfl
    · show m :: names (setL n o r) = m :: names r
      rw [names_setL r n o]
theorem mem_setL : ∀ {L : List (Nat × LO)} {n m : Nat} {o u : LO}, (names L).Nodup → (m, u) ∈ setL n o L → (m = n ∧ u = o) ∨ (m ≠ n ∧ (m, u) ∈ L)
  | (k, w) :: r, n, m, o, u, nd, h => by
    have nd' : k ∉ names r ∧ (names r).Nodup := List.nodup_cons.mp nd
    unfold setL at h
    split at h
    · rename_i e
      subst e
      rcases List.mem_cons.mp h with h | h
      · cases h; exact .inl ⟨rfl, rfl⟩
      · exact .inr ⟨fun q => nd'.1 (q ▸ mem_names h), List.mem_cons_of_mem _ h⟩
    · rename_i e
      rcases List.mem_cons.mp h with h | h
      · cases h; exact .inr ⟨fun q => e q.symm, List.mem_cons_self⟩
      · rcases mem_setL nd'.2 h with h | ⟨h1, h2⟩
        · exact .inl h
        · exact .inr ⟨h1, List.mem_cons_of_mem _ h2⟩
section
variable {K : Frag} {mg : Mg} {F F' : Hp} {α α' : Nat → Addr} {L L' : List (Nat × LO)}
theorem Stp.refl : Stp F α L F α := ⟨Same.refl _, fun _ _ => rfl⟩
theorem Stp.trans {F2 : Hp} {α2 : Nat → Addr} (a : Stp F α L F' α') (b : Stp F' α' L' F2 α2) (s : ∀ n, n ∈ names L → n ∈ names L') : Stp F α L F2 α2 :=
  ⟨a.fro.trans b.fro, fun n h => (b.nm n (s n h)).trans (a.nm n h)⟩
theorem CRel.step (st : Stp F α L F' α') (hs : ∀ n, n ∈ names L → n ∈ names L') : ∀ {c : Ce} {v : V}, CRel K mg F α L c v → CRel K mg F' α' L' c v
  | .fr _, _, h => Rep.mono st.fro h
  | .ad n, _, ⟨h1, h2⟩ => ⟨hs n h1, by rw [h2, st.nm n h1]⟩
  | .xv _, _, h => h
theorem CRels.step (st : Stp F α L F' α') (hs : ∀ n, n ∈ names L → n ∈ names L') : ∀ {c : List Ce} {v : List V}, CRels K mg F α L c v → CRels K mg F' α' L' c v
  | _, _, .nil => .nil
  | _, _, .cons h r => .cons (h.step st hs) (r.step st hs)
theorem CRelF.step (st : Stp F α L F' α') (hs : ∀ n, n ∈ names L → n ∈ names L') : ∀ {c : List (Str × Ce)} {v : List (Str × V)}, CRelF K mg F α L c v → CRelF K mg F' α' L' c v
  | _, _, .nil => .nil
  | _, _, .cons h r => .cons (h.step st hs) (r.step st hs)
theorem CRelK.step {κ : Type} (st : Stp F α L F' α') (hs : ∀ n, n ∈ names L → n ∈ names L') : ∀ {c : List (κ × Ce)} {v : List (κ × V)}, CRelK K mg F α L c v → CRelK K mg F' α' L' c v
  | _, _, .nil => .nil
  | _, _, .cons h r => .cons (h.step st hs) (r.step st hs)
theorem SlR.step (st : Stp F α L F' α') (hs : ∀ n, n ∈ names L → n ∈ names L') : ∀ {c : List (Option Ce)} {v : L2.St}, SlR K mg F α L c v → SlR K mg F' α' L' c v
  | _, _, .nil => .nil
  | _, _, .no r => .no (r.step st hs)
  | _, _, .so h r => .so (h.step st hs) (r.step st hs)
theorem SlR.get : ∀ {c : List (Option Ce)} {σ : L2.St} {i : Nat} {x : Ce}, SlR K mg F α L c σ → c[i]? = some (some x) → ∃ v, σ[i]? = some (some v) ∧ CRel K mg F α L x v
  | _, _, _, _, .nil, h => by simp at h
  | _, _, 0, _, .no _, h => by simp at h
  | _, _, 0, _, .so h _, e => by simp at e; subst e; exact ⟨_, rfl, h⟩
  | _, _, i + 1, _, .no r, e => by
    obtain ⟨v, h1, h2⟩ := SlR.get (i := i) r (by simpa using e)
    exact ⟨v, by simpa using h1, h2⟩
  | _, _, i + 1, _, .so _ r, e => by
    obtain ⟨v, h1, h2⟩ := SlR.get (i := i) r (by simpa using e)
    exact ⟨v, by simpa using h1, h2⟩
theorem SlR.set : ∀ {c : List (Option Ce)} {σ : L2.St} (i : Nat) {x : Ce} {v : V}, SlR K mg F α L c σ → CRel K mg F α L x v → SlR K mg F α L (c.set i (some x)) (σ.set i (some v))
  | _, _, _, _, _, .nil, _ => .nil
  | _, _, 0, _, _, .no r, h => .so h r
  | _, _, 0, _, _, .so _ r, h => .so h r
  | _, _, i + 1, _, _, .no r, h => .no (r.set i h)
  | _, _, i + 1, _, _, .so q r, h => .so q (r.set i h)
theorem CRels.fr : ∀ {ds : List D} {vs : List V}, CRels K mg F α L (ds.map Ce.fr) vs → Reps K mg F ds vs
  | [], _, .nil => .nil
  | _ :: _, _, .cons h r => .cons h (CRels.fr r)
theorem CRels.length : ∀ {c : List Ce} {v : List V}, CRels K mg F α L c v → c.length = v.length
  | _, _, .nil => rfl
  | _, _, .cons _ r => congrArg (· + 1) r.length
theorem CRels.append : ∀ {c c' : List Ce} {v v' : List V}, CRels K mg F α L c v → CRels K mg F α L c' v' → CRels K mg F α L (c ++ c') (v ++ v')
  | _, _, _, _, .nil, s => s
  | _, _, _, _, .cons h r, s => .cons h (r.append s)
theorem CRels.get : ∀ {ds : List Ce} {vs : List V} {i : Nat} {d : Ce}, CRels K mg F α L ds vs → ds[i]? = some d → ∃ v, vs[i]? = some v ∧ CRel K mg F α L d v
  | _, _, _, _, .nil, h => by simp at h
  | _, _, 0, _, .cons h r, e => by simp at e; subst e; exact ⟨_, rfl, h⟩
  | _, _, i + 1, _, .cons h r, e => by
    obtain ⟨v, h1, h2⟩ := CRels.get (i := i) r (by simpa using e)
    exact ⟨v, by simpa using h1, h2⟩
variable {B : Bd} {H H' : Hp} {a : Addr}
theorem Paired.imp {κ μ : Type} {R R' : κ → μ → Prop} (h : ∀ a b, R a b → R' a b) : ∀ {xs : List κ} {ys : List μ}, Paired R xs ys → Paired R' xs ys
  | _, _, .nil => .nil
  | _, _, .cons r t => .cons (h _ _ r) (Paired.imp h t)
theorem LAt.step {o : LO} (st : Stp F α L F' α') (hs : ∀ n, n ∈ names L → n ∈ names L') (hH : ∀ b u, H b = some u → H' b = some u) (hF : ∀ b u, F' b = some u → F b = some u ∨ H b = none)
    (h : LAt K mg B F α L H a o) : LAt K mg B F' α' L' H' a o := by
  cases o with
  | fl ds => obtain ⟨vs, e, r⟩ := h; exact ⟨vs, hH _ _ e, r.mono st.fro⟩
  | cl cs => obtain ⟨vs, e, r⟩ := h; exact ⟨vs, hH _ _ e, r.step st hs⟩
  | ins c fs =>
    obtain ⟨C, dx, vs, m, e1, e2, e3, e4, r⟩ := h
    refine ⟨C, dx, vs, m, hH _ _ e1, hH _ _ e2, ?_, e4, r.step st hs⟩
    cases q : F' dx with
    | none => rfl
    | some u =>
      rcases hF _ _ q with z | z
      · rw [e3] at z; cases z
      · rw [e2] at z; cases z
  | dT kvs => obtain ⟨vs, e, r⟩ := h; exact ⟨vs, hH _ _ e, Paired.imp (fun _ _ z => ⟨z.1, z.2.mono st.fro⟩) r⟩
  | dK kvs => obtain ⟨vs, e, r⟩ := h; exact ⟨vs, hH _ _ e, Paired.imp (fun _ _ z => ⟨z.1, z.2.mono st.fro⟩) r⟩
  | dC kvs => obtain ⟨vs, e, r⟩ := h; exact ⟨vs, hH _ _ e, r.step st hs⟩
  | tab p0 nm => obtain ⟨e0, ps, e, e2, e3⟩ := h; exact ⟨e0, ps, hH _ _ e, e2, fun p v z => let ⟨c, a, b⟩ := e3 p v z; ⟨c, a, st.fro _ _ b⟩⟩
  | px φ => obtain ⟨o, e, ne1, q⟩ := h; exact ⟨o, hH _ _ e, ne1, fun F2 s => q F2 (st.fro.trans s)⟩
theorem LAt.is {o : LO} (h : LAt K mg B F α L H a o) : ∃ u, H a = some u := by
  cases o with
  | fl ds => obtain ⟨vs, e, r⟩ := h; exact ⟨_, e⟩
  | cl cs => obtain ⟨vs, e, r⟩ := h; exact ⟨_, e⟩
  | ins c fs => obtain ⟨C, dx, vs, m, e1, _⟩ := h; exact ⟨_, e1⟩
  | dT kvs => obtain ⟨vs, e, r⟩ := h; exact ⟨_, e⟩
  | dK kvs => obtain ⟨vs, e, r⟩ := h; exact ⟨_, e⟩
  | dC kvs => obtain ⟨vs, e, r⟩ := h; exact ⟨_, e⟩
  | tab p0 nm => obtain ⟨e0, vs, e, r⟩ := h; exact ⟨_, e⟩
  | px φ => obtain ⟨o, e, _⟩ := h; exact ⟨_, e⟩
variable {σ : L2.St} {S : Nz.S}
/-- the heap grows, and what is frozen by new things -/
theorem Rel.grow (R : Rel K mg B F α H σ S) (hF : Same F F') (hH : Same H H') (hs : Same F' H') (hn : ∀ b u, F' b = some u → F b = some u ∨ H b = none) : Rel K mg B F' α H' σ S := by
  have st : Stp F α S.L F' α := ⟨hF, fun _ _ => rfl⟩
  refine ⟨hs, R.bF.trans hF, fun b o e => ?_, fun b o e n => hH _ _ (R.frame b o e n), R.nd, R.inj, fun n o h => ?_, R.slots.step st fun _ z => z, R.fix⟩
  · rcases hn b o e with z | z
    · exact R.nF b o z
    · refine .inr ?_
      by_cases f : B.fp b
      · exact .inr f
      · refine .inl ?_
        cases q : B.H0 b with
        | none => rfl
        | some u => rw [R.frame b u q f] at z; cases z
  · obtain ⟨h1, h2, h3⟩ := R.live n o h
    refine ⟨?_, h2, h3.step st (fun _ z => z) hH hn⟩
    cases q : F' (α n) with
    | none => rfl
    | some u =>
      obtain ⟨w', hw⟩ := h3.is
      rcases hn _ _ q with z | z
      · rw [h1] at z; cases z
      · rw [hw] at z; cases z
theorem same_upd {H : Hp} {p : Addr} {o : HO} (h : H p = none) : Same H (upd H p o) := fun b u e => by rw [upd_ne (ne_of_none e h)]; exact e
theorem Rel.fresh (R : Rel K mg B F α H σ S) {p : Addr} (h : H p = none) : F p = none := R.sub.free h
/-- a new frozen thing -/
theorem Rel.allocF (R : Rel K mg B F α H σ S) {p : Addr} {o : HO} (h : H p = none) : Rel K mg B (upd F p o) α (upd H p o) σ S := by
  refine R.grow (same_upd (R.fresh h)) (same_upd h) (fun b u e => ?_) fun b u e => ?_
  · by_cases q : b = p
    · subst q; rw [upd_same] at e ⊢; exact e
    · rw [upd_ne q] at e ⊢; exact R.sub b u e
  · by_cases q : b = p
    · subst q; exact .inr h
    · rw [upd_ne q] at e; exact .inl e
theorem stp_allocF {p : Addr} {o : HO} (h : F p = none) : Stp F α L (upd F p o) α := ⟨same_upd h, fun _ _ => rfl⟩
def setα (α : Nat → Addr) (n : Nat) (p : Addr) : Nat → Addr := fun m => if m = n then p else α m
theorem stp_setα {n : Nat} {p : Addr} (h : n ∉ names L) : Stp F α L F (setα α n p) := ⟨Same.refl _, fun m hm => by show (if m = n then p else α m) = α m; rw [if_neg (show ¬ m = n from fun q => h (by rw [← q]; exact hm))]⟩
theorem names_append (L : List (Nat × LO)) (n : Nat) (o : LO) : names (L ++ [(n, o)]) = names L ++ [n] := by simp [names]
/-- a new live thing -/
theorem Rel.allocL (R : Rel K mg B F α H σ S) {p : Addr} {o : HO} {n : Nat} {u : LO} (h : H p = none) (hn : n ∉ names S.L) (h100 : 100 ≤ n)
    (new : LAt K mg B F (setα α n p) (S.L ++ [(n, u)]) (upd H p o) p u) : Rel K mg B F (setα α n p) (upd H p o) σ ⟨S.ρ, S.L ++ [(n, u)]⟩ := by
  have st : Stp F α S.L F (setα α n p) := stp_setα hn
  have hsub : ∀ m, m ∈ names S.L → m ∈ names (S.L ++ [(n, u)]) := fun m hm => by rw [names_append]; exact List.mem_append_left _ hm
  have hself : setα α n p n = p := by unfold setα; rw [if_pos rfl]
  have hp0 : B.H0 p = none ∨ B.fp p := by
    by_cases f : B.fp p
    · exact .inr f
    · refine .inl ?_
      cases q : B.H0 p with
      | none => rfl
      | some w' => rw [R.frame p w' q f] at h; cases h
  refine ⟨fun b w' e => same_upd h b w' (R.sub b w' e), R.bF, R.nF, fun b w' e f => same_upd h b w' (R.frame b w' e f), ?_, ?_, ?_, R.slots.step st hsub, fun m a e hm => ?_⟩
  · rw [names_append]
    exact List.nodup_append.mpr ⟨R.nd, by simp, fun a ha b hb => by
      have : b = n := by simpa using hb
      subst this
      exact fun q => hn (q ▸ ha)⟩
  · have key : ∀ m, m ∈ names S.L → setα α n p m ≠ p := fun m hm e => by
      rw [st.nm m hm] at e
      obtain ⟨⟨m', o'⟩, h1, h2⟩ := List.mem_map.mp hm
      cases h2
      obtain ⟨w', hw⟩ := (R.live _ _ h1).2.2.is
      rw [e, h] at hw; cases hw
    intro a b ha hb e
    rw [names_append] at ha hb
    rcases List.mem_append.mp ha with ha' | ha' <;> rcases List.mem_append.mp hb with hb' | hb'
    · rw [st.nm a ha', st.nm b hb'] at e; exact R.inj a b ha' hb' e
    · have h2 : b = n := by simpa using hb'
      rw [h2, hself] at e
      exact absurd e (key a ha')
    · have h2 : a = n := by simpa using ha'
      rw [h2, hself] at e
      exact absurd e.symm (key b hb')
    · have h1 : a = n := by simpa using ha'
      have h2 : b = n := by simpa using hb'
      rw [h1, h2]
  · intro m o' hm
    rcases List.mem_append.mp hm with hm | hm
    · obtain ⟨h1, h2, h3⟩ := R.live m o' hm
      have e : setα α n p m = α m := st.nm m (mem_names hm)
      rw [e]
      exact ⟨h1, h2, h3.step st hsub (same_upd h) fun b w' z => .inl z⟩
    · have e : (m, o') = (n, u) := by simpa using hm
      cases e
      rw [hself]
      exact ⟨R.fresh h, hp0, new⟩
  · have hm : m ∈ names (S.L ++ [(n, u)]) := hm
    rw [names_append] at hm
    rcases List.mem_append.mp hm with hm | hm
    · rw [st.nm m hm]; exact R.fix m a e hm
    · have : m = n := by simpa using hm
      rw [this, B.hpa n h100] at e; cases e
/-- a live thing is changed -/
theorem Rel.write (R : Rel K mg B F α H σ S) {n : Nat} {o u : LO} {o' : HO} (hn : (n, o) ∈ S.L)
    (no : ∀ b y, H b = some (.own y) → b ≠ α n) (new : LAt K mg B F α (setL n u S.L) (upd H (α n) o') (α n) u)
    (oth : ∀ m w', (m, w') ∈ S.L → m ≠ n → LAt K mg B F α S.L H (α m) w' → LAt K mg B F α (setL n u S.L) (upd H (α n) o') (α m) w') :
    Rel K mg B F α (upd H (α n) o') σ ⟨S.ρ, setL n u S.L⟩ := by
  obtain ⟨f0, f1, f2⟩ := R.live n o hn
  obtain ⟨w0, hw0⟩ := f2.is
  have st : Stp F α S.L F α := Stp.refl
  have hsub : ∀ m, m ∈ names S.L → m ∈ names (setL n u S.L) := fun m hm => by rw [names_setL]; exact hm
  refine ⟨fun b w' e => ?_, R.bF, R.nF, fun b w' e f => ?_, by rw [names_setL]; exact R.nd, fun a b ha hb e => R.inj a b (by rw [names_setL] at ha; exact ha) (by rw [names_setL] at hb; exact hb) e, fun m w' hm => ?_, R.slots.step st hsub, fun m a e hm => R.fix m a e (by rw [names_setL] at hm; exact hm)⟩
  · rw [upd_ne (fun q => by rw [q, f0] at e; cases e)]; exact R.sub b w' e
  · have hb : b ≠ α n := fun q => by
      subst q
      rcases f1 with z | z
      · rw [z] at e; cases e
      · exact f z
    rw [upd_ne hb]; exact R.frame b w' e f
  · rcases mem_setL R.nd hm with ⟨h1, h2⟩ | ⟨h1, h2⟩
    · subst h1; subst h2
      exact ⟨f0, f1, new⟩
    · obtain ⟨g0, g1, g2⟩ := R.live m w' h2
      exact ⟨g0, g1, oth m w' h2 h1 g2⟩
theorem LAt.other {o : LO} {p : Addr} {w' : HO} (ne : a ≠ p) (no : ∀ b, H b = some (.own a) → b ≠ p) (hs : ∀ n, n ∈ names L → n ∈ names L') (h : LAt K mg B F α L H a o) : LAt K mg B F α L' (upd H p w') a o := by
  have st : Stp F α L F α := Stp.refl
  cases o with
  | fl ds => obtain ⟨vs, e, r⟩ := h; exact ⟨vs, by rw [upd_ne ne]; exact e, r⟩
  | cl cs => obtain ⟨vs, e, r⟩ := h; exact ⟨vs, by rw [upd_ne ne]; exact e, r.step st hs⟩
  | ins c fs => obtain ⟨C, dx, vs, m, e1, e2, e3, e4, r⟩ := h; exact ⟨C, dx, vs, m, by rw [upd_ne ne]; exact e1, by rw [upd_ne (no _ e2)]; exact e2, e3, e4, r.step st hs⟩
  | dT kvs => obtain ⟨vs, e, r⟩ := h; exact ⟨vs, by rw [upd_ne ne]; exact e, r⟩
  | dK kvs => obtain ⟨vs, e, r⟩ := h; exact ⟨vs, by rw [upd_ne ne]; exact e, r⟩
  | dC kvs => obtain ⟨vs, e, r⟩ := h; exact ⟨vs, by rw [upd_ne ne]; exact e, r.step st hs⟩
  | tab p0 nm => obtain ⟨e0, vs, e, r⟩ := h; exact ⟨e0, vs, by rw [upd_ne ne]; exact e, r⟩
  | px φ => obtain ⟨o, e, r⟩ := h; exact ⟨o, by rw [upd_ne ne]; exact e, r⟩
theorem LAt.notown {o : LO} (h : LAt K mg B F α L H a o) : ∀ b y, H b = some (.own y) → b ≠ a := fun b y e q => by
  subst q
  cases o with
  | fl ds => obtain ⟨vs, e1, r⟩ := h; rw [e] at e1; cases e1
  | cl cs => obtain ⟨vs, e1, r⟩ := h; rw [e] at e1; cases e1
  | ins c fs => obtain ⟨C, dx, vs, m, e1, _⟩ := h; rw [e] at e1; cases e1
  | dT kvs => obtain ⟨vs, e1, r⟩ := h; rw [e] at e1; cases e1
  | dK kvs => obtain ⟨vs, e1, r⟩ := h; rw [e] at e1; cases e1
  | dC kvs => obtain ⟨vs, e1, r⟩ := h; rw [e] at e1; cases e1
  | tab p0 nm => obtain ⟨e0, vs, e1, r⟩ := h; rw [e] at e1; cases e1
  | px φ => obtain ⟨o, e1, r1, _⟩ := h; rw [e] at e1; cases e1; cases r1
/-- .. in short -/
theorem Rel.put (R : Rel K mg B F α H σ S) {n : Nat} {o u : LO} {o' : HO} (hn : (n, o) ∈ S.L) (new : LAt K mg B F α (setL n u S.L) (upd H (α n) o') (α n) u) : Rel K mg B F α (upd H (α n) o') σ ⟨S.ρ, setL n u S.L⟩ := by
  have no := LAt.notown (R.live n o hn).2.2
  refine R.write hn no new fun m w' hm ne h => h.other (fun q => ne (R.inj _ _ (mem_names hm) (mem_names hn) q)) (fun b e => no b _ e) fun k hk => by rw [names_setL]; exact hk
end
end Nz
namespace Nz
open PySem PySem.Spec PyProof.Rows L2
def Sub (L L' : List (Nat × LO)) : Prop := ∀ n, n ∈ names L → n ∈ names L'
theorem Sub.refl {L : List (Nat × LO)} : Sub L L := fun _ h => h
theorem Sub.app {L M : List (Nat × LO)} : Sub L (L ++ M) := fun n h => by rw [names, List.map_append]; exact List.mem_append_left _ h
/-- the cell c looks like the list ds, the tuple ds -/
def AsL (L : List (Nat × LO)) (c : Ce) (ds : List D) : Prop :=
  match c with
  | .fr d => d = .lst ds
  | .ad n => getL n L = some (.fl ds)
  | .xv _ => False
section
variable {X : Cx} {B : Bd} {F : Hp} {α : Nat → Addr} {H : Hp} {σ : L2.St} {S : Nz.S}
theorem Rel.asL (R : RelX X B F α H σ S) {c : Ce} {ds : List D} {v : V} (h : AsL S.L c ds) (r : CR X F α S.L c v) : ∃ a vs, v = .ref a ∧ SqL X.K H a vs ∧ Reps X.K X.mg F ds vs := by
  cases c with
  | fr d =>
    have e : d = .lst ds := h
    subst e
    have r' : Rep X.K X.mg F (.lst ds) v := r
    cases r' with
    | lst h1 h2 => exact ⟨_, _, rfl, R.sub.seq h1, h2⟩
  | ad n =>
    obtain ⟨_, rfl⟩ := r
    obtain ⟨_, _, vs, e, q⟩ := R.live n _ (getL_mem h)
    exact ⟨_, vs, rfl, SqL.of e, q⟩
  | xv u => exact False.elim h
theorem Rel.asT (R : RelX X B F α H σ S) {ds : List D} {v : V} (r : Rep X.K X.mg F (.tup ds) v) : ∃ a vs, v = .ref a ∧ SqT X.K H a vs ∧ Reps X.K X.mg F ds vs := by
  cases r with
  | tup h1 h2 => exact ⟨_, _, rfl, R.sub.seqT h1, h2⟩
end
def Op2 (X : Cx) (f : Value → Value → Sem Value) (d1 d2 d : D) : Prop :=
  ∀ B F α H σ (S : Nz.S) (Q : VK) x y, RelX X B F α H σ S → Rep X.K X.mg F d1 x → Rep X.K X.mg F d2 y → (∀ F' α' v H', RelX X B F' α' H' σ S → Stp F α S.L F' α' → Rep X.K X.mg F' d v → Q v H') →
    ∀ pins s v u, Inv X pins σ H s → RelV x v → RelV y u → wpAny (model X.prog X.w) X.A (f v u) (EP X pins σ Q) X.xe s
theorem Op2.pure {X : Cx} {f : Value → Value → Sem Value} {d1 d2 d : D} {r : R2} {v : V} (h : OpR X f r) (hd : ∀ F, Rep X.K X.mg F d v)
    (hr : ∀ F H (Q : VK) x y, Same F H → Rep X.K X.mg F d1 x → Rep X.K X.mg F d2 y → Q v H → r x y H Q) : Op2 X f d1 d2 d :=
  fun B F α H σ S Q x y R rx ry k pins s v' u I rv ru => h pins s σ H x y v' u Q I rv ru (hr F H Q x y R.sub rx ry (k F α v H R Stp.refl (hd F)))
section
variable {X : Cx}
theorem op2I {f : Value → Value → Sem Value} {C : Int → Int → Prop} {g : Int → Int → V} {i j : Int} {d : D} (h : OpR X f (rI C g)) (hc : C i j) (hd : ∀ F, Rep X.K X.mg F d (g i j)) : Op2 X f (.int i) (.int j) d :=
  .pure h hd fun F H Q x y _ rx ry q => by cases rx; cases ry; exact ⟨_, _, rfl, rfl, hc, q⟩
theorem op2I0 {f : Value → Value → Sem Value} {g : Int → Int → V} {i j : Int} {d : D} (h : OpR X f (rI0 g)) (hd : ∀ F, Rep X.K X.mg F d (g i j)) : Op2 X f (.int i) (.int j) d :=
  .pure h hd fun F H Q x y _ rx ry q => by cases rx; cases ry; exact ⟨_, _, rfl, rfl, q⟩
theorem o_add {i j : Int} : Op2 X (binaryOp .Add) (.int i) (.int j) (.int (i + j)) := op2I0 op_add fun _ => .int _
theorem o_sub {i j : Int} : Op2 X (binaryOp .Sub) (.int i) (.int j) (.int (i - j)) := op2I0 op_sub fun _ => .int _
theorem o_mul {i j : Int} (h : CMul i j) : Op2 X (binaryOp .Mult) (.int i) (.int j) (.int (i * j)) := op2I op_mul h fun _ => .int _
theorem o_div {i j : Int} (h : 0 < j) (h' : j < 1073741824) : Op2 X (binaryOp .FloorDiv) (.int i) (.int j) (.int (i / j)) := op2I op_fdiv ⟨h, h'⟩ fun _ => .int _
theorem o_mod {i j : Int} (h : 0 < j) : Op2 X (binaryOp .Mod) (.int i) (.int j) (.int (i % j)) := op2I op_mod h fun _ => .int _
theorem o_pow {i j : Int} (h : CPow i j) : Op2 X (binaryOp .Pow) (.int i) (.int j) (.int (i ^ j.toNat)) := op2I op_pow h fun _ => .int _
theorem o_lt {i j : Int} : Op2 X (compareOp .Lt) (.int i) (.int j) (.bl (decide (i < j))) := op2I0 op_lt fun _ => .bl _
theorem o_le {i j : Int} : Op2 X (compareOp .LtE) (.int i) (.int j) (.bl (decide (i ≤ j))) := op2I0 op_le fun _ => .bl _
theorem o_gt {i j : Int} : Op2 X (compareOp .Gt) (.int i) (.int j) (.bl (decide (j < i))) := op2I0 op_gt fun _ => .bl _
theorem o_ge {i j : Int} : Op2 X (compareOp .GtE) (.int i) (.int j) (.bl (decide (j ≤ i))) := op2I0 op_ge fun _ => .bl _
theorem o_eqi {i j : Int} : Op2 X (compareOp .Eq) (.int i) (.int j) (.bl (decide (i = j))) :=
  .pure (v := .bl (decide (V.int i = V.int j))) op_eq (fun _ => by rw [show decide (V.int i = V.int j) = decide (i = j) from by simp]; exact .bl _) fun F H Q x y _ rx ry q => by cases rx; cases ry; exact ⟨rfl, q⟩
theorem o_nei {i j : Int} : Op2 X (compareOp .NotEq) (.int i) (.int j) (.bl (!decide (i = j))) :=
  .pure (v := .bl (!decide (V.int i = V.int j))) op_ne (fun _ => by rw [show decide (V.int i = V.int j) = decide (i = j) from by simp]; exact .bl _) fun F H Q x y _ rx ry q => by cases rx; cases ry; exact ⟨rfl, q⟩
theorem o_eqb {i j : Bool} : Op2 X (compareOp .Eq) (.bl i) (.bl j) (.bl (decide (i = j))) :=
  .pure (v := .bl (decide (V.bl i = V.bl j))) op_eq (fun _ => by rw [show decide (V.bl i = V.bl j) = decide (i = j) from by simp]; exact .bl _) fun F H Q x y _ rx ry q => by cases rx; cases ry; exact ⟨rfl, q⟩
theorem o_neb {i j : Bool} : Op2 X (compareOp .NotEq) (.bl i) (.bl j) (.bl (!decide (i = j))) :=
  .pure (v := .bl (!decide (V.bl i = V.bl j))) op_ne (fun _ => by rw [show decide (V.bl i = V.bl j) = decide (i = j) from by simp]; exact .bl _) fun F H Q x y _ rx ry q => by cases rx; cases ry; exact ⟨rfl, q⟩
end
section
variable {X : Cx} {B : Bd} {S S1 S2 S3 : Nz.S} {a b c e : Expr} {es : List Expr} {pos p : Pos} {d d1 d2 d3 : D}
theorem ev_var (i : Nat) {x : Str} {c : Ce} (hN : X.N[i]? = some x) (hv : Vis X.env.scope x) (hρ : S.ρ[i]? = some (some c)) (hd : (x == ("__debug__" : Str)) = false := by decide) (hcd : (x == ("__classdict__" : Str)) = false := by decide) : Ev X B (.Name x pos) S c S :=
  fun F α H σ Q R k => wE.of (pe_var hN hv hd hcd) (by
    obtain ⟨v, e, r⟩ := R.slots.get hρ
    exact ⟨v, e, k F α v H R Stp.refl r⟩)
theorem ev_int {i : Int} {j pos} : Ev X B (.Constant (.int i) j pos) S (.fr (.int i)) S := fun F α H σ Q R k => wE.of pe_int (k F α _ H R Stp.refl (.int i))
theorem ev_bl {i : Bool} {j pos} : Ev X B (.Constant (.bool i) j pos) S (.fr (.bl i)) S := fun F α H σ Q R k => wE.of pe_bl (k F α _ H R Stp.refl (.bl i))
theorem ev_bin {op : Operator} (ho : Op2 X (binaryOp op) d1 d2 d) (ha : Ev X B a S (.fr d1) S1) (hb : Ev X B b S1 (.fr d2) S2) (h1 : Sub S.L S1.L := by exact Sub.refl) (h2 : Sub S1.L S2.L := by exact Sub.refl) : Ev X B (.BinOp a op b pos) S (.fr d) S2 :=
  fun F α H σ Q R k pins s I => by
    refine wpAny_BinOp (thn (ha F α H σ _ R (fun F1 α1 v1 H1 R1 st1 r1 => hb F1 α1 H1 σ (fun v2 H2 => ∃ F2 α2, RelX X B F2 α2 H2 σ S2 ∧ Stp F α S.L F2 α2 ∧ Rep X.K X.mg F2 d1 v1 ∧ Rep X.K X.mg F2 d2 v2) R1 fun F2 α2 v2 H2 R2 st2 r2 =>
      ⟨F2, α2, R2, st1.trans st2 h1, Rep.mono st2.fro r1, r2⟩) pins s I) fun v s1 ⟨x, H1, I1, rv, q1⟩ => thn (q1 pins s1 I1) fun u s2 ⟨y, H2, I2, ru, F2, α2, R2, st, r1, r2⟩ => ?_)
    exact ho B F2 α2 H2 σ S2 Q x y R2 r1 r2 (fun F' α' v' H' R' st' r' => k F' α' v' H' R' (st.trans st' fun n h => h2 n (h1 n h)) r') pins s2 v u I2 rv ru
theorem ev_cmp {op : CmpOp} (ho : Op2 X (compareOp op) d1 d2 d) (ha : Ev X B a S (.fr d1) S1) (hb : Ev X B b S1 (.fr d2) S2) (hm : behindInMarks op b = false) (h1 : Sub S.L S1.L := by exact Sub.refl) (h2 : Sub S1.L S2.L := by exact Sub.refl) : Ev X B (.Compare a [op] [b] pos) S (.fr d) S2 :=
  fun F α H σ Q R k pins s I => by
    refine wpAny_Compare1 (thn (ha F α H σ _ R (fun F1 α1 v1 H1 R1 st1 r1 => hb F1 α1 H1 σ (fun v2 H2 => ∃ F2 α2, RelX X B F2 α2 H2 σ S2 ∧ Stp F α S.L F2 α2 ∧ Rep X.K X.mg F2 d1 v1 ∧ Rep X.K X.mg F2 d2 v2) R1 fun F2 α2 v2 H2 R2 st2 r2 =>
      ⟨F2, α2, R2, st1.trans st2 h1, Rep.mono st2.fro r1, r2⟩) pins s I) fun v s1 ⟨x, H1, I1, rv, q1⟩ => thn (q1 pins s1 I1) fun u s2 ⟨y, H2, I2, ru, F2, α2, R2, st, r1, r2⟩ => ?_) hm
    exact ho B F2 α2 H2 σ S2 Q x y R2 r1 r2 (fun F' α' v' H' R' st' r' => k F' α' v' H' R' (st.trans st' fun n h => h2 n (h1 n h)) r') pins s2 v u I2 rv ru
theorem ev_one {op : BoolOp} {c : Ce} (ha : Ev X B a S c S1) : Ev X B (.BoolOp op [a] pos) S c S1 :=
  fun F α H σ Q R k => wE.of (pe_one pe_w) (ha F α H σ _ R k)
theorem ev_and {i j : Bool} (ha : Ev X B a S (.fr (.bl i)) S) (hb : i = true → Ev X B (.BoolOp .And (b :: es) pos) S (.fr (.bl j)) S) : Ev X B (.BoolOp .And (a :: b :: es) pos) S (.fr (.bl (i && j))) S :=
  fun F α H σ Q R k => wE.of (pe_and pe_w pe_w) (ha F α H σ _ R fun F1 α1 v1 H1 R1 st1 r1 => by
    cases r1
    refine ⟨i, rfl, ?_⟩
    cases i with
    | true => rw [if_pos rfl]; exact hb rfl F1 α1 H1 σ _ R1 fun F2 α2 v2 H2 R2 st2 r2 => k F2 α2 v2 H2 R2 (st1.trans st2 Sub.refl) (by simpa using r2)
    | false => rw [if_neg Bool.false_ne_true]; exact k F1 α1 _ H1 R1 st1 (.bl _))
/-- tests -/
theorem et_val {i : Bool} (ha : Ev X B a S (.fr (.bl i)) S1) (he : ∀ whole, isTrue a X.env whole = (do let v ← whole; standAt a.pos; holding [v] (truthy v)) := by intro _; rfl) : Et X B a S i S1 :=
  fun F α H σ Q R k => wT.of (pt_val pe_w he) (ha F α H σ _ R fun F1 α1 v1 H1 R1 st1 r1 => by cases r1; exact ⟨i, rfl, k F1 α1 H1 R1 st1⟩)
theorem et_cmp {op : CmpOp} {i : Bool} (ho : Op2 X (compareOp op) d1 d2 (.bl i)) (ha : Ev X B a S (.fr d1) S1) (hb : Ev X B b S1 (.fr d2) S2) (hm : behindInMarks op b = false) (h1 : Sub S.L S1.L := by exact Sub.refl) (h2 : Sub S1.L S2.L := by exact Sub.refl) : Et X B (.Compare a [op] [b] pos) S i S2 :=
  fun F α H σ Q R k pins s I => by
    refine wpAny_isTrue_Compare1 (thn (ha F α H σ _ R (fun F1 α1 v1 H1 R1 st1 r1 => hb F1 α1 H1 σ (fun v2 H2 => ∃ F2 α2, RelX X B F2 α2 H2 σ S2 ∧ Stp F α S.L F2 α2 ∧ Rep X.K X.mg F2 d1 v1 ∧ Rep X.K X.mg F2 d2 v2) R1 fun F2 α2 v2 H2 R2 st2 r2 =>
      ⟨F2, α2, R2, st1.trans st2 h1, Rep.mono st2.fro r1, r2⟩) pins s I) fun v s1 ⟨x, H1, I1, rv, q1⟩ => thn (q1 pins s1 I1) fun u s2 ⟨y, H2, I2, ru, F2, α2, R2, st, r1, r2⟩ => ?_) hm
    refine thn (ho B F2 α2 H2 σ S2 (fun v' H' => ∃ k, v' = .bl k ∧ Q k H') x y R2 r1 r2 (fun F' α' v' H' R' st' r' => by cases r'; exact ⟨i, rfl, k F' α' H' R' (st.trans st' fun n h => h2 n (h1 n h))⟩) pins s2 v u I2 rv ru) fun c s3 ⟨z, H3, I3, r3, k', e, q3⟩ => ?_
    subst e
    cases r3
    exact wpAny_truthy_bool ⟨H3, I3, q3⟩
theorem et_not {i : Bool} (ha : Et X B a S i S1) : Et X B (.UnaryOp .Not a pos) S (!i) S1 := fun F α H σ Q R k => wT.of (pt_not pt_w) (ha F α H σ _ R k)
/-- a chain of tests, whatever its whole -/
def Ew (X : Cx) (B : Bd) (e : Expr) (S : Nz.S) (b : Bool) : Prop :=
  ∀ F α H σ (Q : Bool → Hp → Prop), RelX X B F α H σ S → (∀ F' α' H', RelX X B F' α' H' σ S → Stp F α S.L F' α' → Q b H') → ∀ whole pins s, Inv X pins σ H s → wpAny (model X.prog X.w) X.A (isTrue e X.env whole) (TP X pins σ Q) X.xe s
def tW (X : Cx) (e : Expr) : TT := fun σ H Q => ∀ whole pins s, Inv X pins σ H s → wpAny (model X.prog X.w) X.A (isTrue e X.env whole) (TP X pins σ Q) X.xe s
theorem pw_w {e : Expr} : PW X e (tW X e) := ⟨fun whole pins s σ H Q I h => h whole pins s I⟩
theorem Ew.of {e : Expr} {t : TT} {i : Bool} (h : PW X e t) (q : ∀ F α H σ (Q : Bool → Hp → Prop), RelX X B F α H σ S → (∀ F' α' H', RelX X B F' α' H' σ S → Stp F α S.L F' α' → Q i H') → t σ H Q) : Ew X B e S i :=
  fun F α H σ Q R k whole pins s I => h.run whole pins s σ H Q I (q F α H σ Q R k)
theorem Ew.et {e : Expr} {i : Bool} (h : Ew X B e S i) : Et X B e S i S := fun F α H σ Q R k pins s I => h F α H σ Q R k _ pins s I
theorem ew_and1 {i : Bool} (ha : Et X B a S i S) : Ew X B (.BoolOp .And [a] pos) S i := .of (pw_and1 pt_w) fun F α H σ Q R k => ha F α H σ _ R k
theorem ew_or1 {i : Bool} (ha : Et X B a S i S) : Ew X B (.BoolOp .Or [a] pos) S i := .of (pw_or1 pt_w) fun F α H σ Q R k => ha F α H σ _ R k
theorem ew_and {i j : Bool} (ha : Et X B a S i S) (hb : i = true → Ew X B (.BoolOp .And (b :: es) pos) S j) : Ew X B (.BoolOp .And (a :: b :: es) pos) S (i && j) :=
  .of (pw_and pt_w pw_w) fun F α H σ Q R k => ha F α H σ _ R fun F1 α1 H1 R1 st1 => by
    cases i with
    | true => rw [if_pos rfl]; exact hb rfl F1 α1 H1 σ _ R1 fun F2 α2 H2 R2 st2 => by simpa using k F2 α2 H2 R2 (st1.trans st2 Sub.refl)
    | false => rw [if_neg Bool.false_ne_true]; simpa using k F1 α1 H1 R1 st1
theorem ew_or {i j : Bool} (ha : Et X B a S i S) (hb : i = false → Ew X B (.BoolOp .Or (b :: es) pos) S j) : Ew X B (.BoolOp .Or (a :: b :: es) pos) S (i || j) :=
  .of (pw_or pt_w pw_w) fun F α H σ Q R k => ha F α H σ _ R fun F1 α1 H1 R1 st1 => by
    cases i with
    | false => rw [if_neg Bool.false_ne_true]; exact hb rfl F1 α1 H1 σ _ R1 fun F2 α2 H2 R2 st2 => by simpa using k F2 α2 H2 R2 (st1.trans st2 Sub.refl)
    | true => rw [if_pos rfl]; simpa using k F1 α1 H1 R1 st1
theorem ea_nil : Ea X B [] S [] S := fun F α H σ Q R k => wA.of pa_nil (k F α _ H R Stp.refl .nil)
theorem ea_cons {c : Ce} {cs : List Ce} (ha : Ev X B a S c S1) (hr : Ea X B es S1 cs S2) (h1 : Sub S.L S1.L := by exact Sub.refl) (h2 : Sub S1.L S2.L := by exact Sub.refl) (hs : starEach (a :: es) X.env = (false, eval a X.env) :: starEach es X.env := by rfl) : Ea X B (a :: es) S (c :: cs) S2 :=
  fun F α H σ Q R k => wA.of (pa_cons pe_w pa_w hs) (ha F α H σ _ R fun F1 α1 v1 H1 R1 st1 r1 => hr F1 α1 H1 σ _ R1 fun F2 α2 vs H2 R2 st2 r2 => k F2 α2 _ H2 R2 (st1.trans st2 h1) (.cons (r1.step st2 h2) r2))
theorem ev_lst {ds : List D} (h : Ea X B es S (ds.map Ce.fr) S1) (hz : ds.length ≤ sizeLine) : Ev X B (.List es pos) S (.fr (.lst ds)) S1 :=
  fun F α H σ Q R k => wE.of (pe_lst pa_w) (h F α H σ _ R fun F1 α1 vs H1 R1 st1 r1 => by
    have r := r1.fr
    refine ⟨by rw [← r.length]; exact hz, fun p hp => ?_⟩
    have hf := R1.fresh hp
    exact k _ α1 _ _ (R1.allocF hp) ⟨st1.fro.trans (same_upd hf), st1.nm⟩ (Rep.lst (SqL.of upd_same) (r.mono (same_upd hf))))
theorem ev_tup {ds : List D} {k1} (h : Ea X B es S (ds.map Ce.fr) S1) (hz : ds.length ≤ sizeLine) : Ev X B (.Tuple es k1 pos) S (.fr (.tup ds)) S1 :=
  fun F α H σ Q R k => wE.of (pe_tup pa_w) (h F α H σ _ R fun F1 α1 vs H1 R1 st1 r1 => by
    have r := r1.fr
    refine ⟨by rw [← r.length]; exact hz, fun p hp => ?_⟩
    have hf := R1.fresh hp
    exact k _ α1 _ _ (R1.allocF hp) ⟨st1.fro.trans (same_upd hf), st1.nm⟩ (Rep.tup (SqT.of upd_same) (r.mono (same_upd hf))))
theorem ev_lstL (n : Nat) {ds : List D} (h : Ea X B es S (ds.map Ce.fr) S1) (hz : ds.length ≤ sizeLine) (hn : n ∉ names S1.L) (h100 : 100 ≤ n) (h1 : Sub S.L S1.L := by exact Sub.refl) : Ev X B (.List es pos) S (.ad n) ⟨S1.ρ, S1.L ++ [(n, .fl ds)]⟩ :=
  fun F α H σ Q R k => wE.of (pe_lst pa_w) (h F α H σ _ R fun F1 α1 vs H1 R1 st1 r1 => by
    have r := r1.fr
    refine ⟨by rw [← r.length]; exact hz, fun p hp => ?_⟩
    refine k F1 (setα α1 n p) _ _ (R1.allocL hp hn h100 ⟨vs, upd_same, r⟩) (st1.trans (stp_setα hn) h1) ⟨?_, ?_⟩
    · rw [names_append]; exact List.mem_append_right _ (List.mem_singleton.mpr rfl)
    · show V.ref p = V.ref (if n = n then p else α1 n)
      rw [if_pos rfl])
theorem ev_ixL {ca : Ce} {i : Int} {ds : List D} (ha : Ev X B a S ca S1) (hb : Ev X B b S1 (.fr (.int i)) S2) (hl : AsL S2.L ca ds) (hi : atI ds i = some d) (hs : PlainIx b := by exact fun _ _ => rfl) (h1 : Sub S.L S1.L := by exact Sub.refl) (h2 : Sub S1.L S2.L := by exact Sub.refl) :
    Ev X B (.Subscript a b pos) S (.fr d) S2 :=
  fun F α H σ Q R k => wE.of (pe_ix ix_list pe_w pe_w hs) (ha F α H σ _ R fun F1 α1 v1 H1 R1 st1 r1 => hb F1 α1 H1 σ _ R1 fun F2 α2 v2 H2 R2 st2 r2 => by
    obtain ⟨p, vs, rfl, hq, rs⟩ := R2.asL hl (r1.step st2 h2)
    cases r2
    obtain ⟨v, hv, rv⟩ : ∃ v, atI vs i = some v ∧ Rep X.K X.mg F2 d v := by
      unfold atI at hi ⊢
      rw [← rs.length]
      cases q : ixN ds.length i with
      | none => rw [q] at hi; cases hi
      | some j => rw [q] at hi; exact rs.get hi
    exact ⟨p, vs, i, v, rfl, rfl, hq, hv, k F2 α2 v H2 R2 (st1.trans st2 h1) rv⟩)
theorem ev_ixT {i : Int} {ds : List D} (ha : Ev X B a S (.fr (.tup ds)) S1) (hb : Ev X B b S1 (.fr (.int i)) S2) (hi : atI ds i = some d) (hs : PlainIx b := by exact fun _ _ => rfl) (h1 : Sub S.L S1.L := by exact Sub.refl) (h2 : Sub S1.L S2.L := by exact Sub.refl) :
    Ev X B (.Subscript a b pos) S (.fr d) S2 :=
  fun F α H σ Q R k => wE.of (pe_ix ix_tup pe_w pe_w hs) (ha F α H σ _ R fun F1 α1 v1 H1 R1 st1 r1 => hb F1 α1 H1 σ _ R1 fun F2 α2 v2 H2 R2 st2 r2 => by
    obtain ⟨p, vs, rfl, hq, rs⟩ := R2.asT (Rep.mono st2.fro r1)
    cases r2
    obtain ⟨v, hv, rv⟩ : ∃ v, atI vs i = some v ∧ Rep X.K X.mg F2 d v := by
      unfold atI at hi ⊢
      rw [← rs.length]
      cases q : ixN ds.length i with
      | none => rw [q] at hi; cases hi
      | some j => rw [q] at hi; exact rs.get hi
    exact ⟨p, vs, i, v, rfl, rfl, hq, hv, k F2 α2 v H2 R2 (st1.trans st2 h1) rv⟩)
end
end Nz
namespace Nz
open PySem PySem.Spec PyProof.Rows L2
def wI (X : Cx) (tg iter : Expr) (σ : L2.St) (H : Hp) (R : It → Hp → Prop) : Prop :=
  ∀ pins s, Inv X pins σ H s → wpAny (model X.prog X.w) X.A (eval iter X.env) (fun v s1 => wpAny (model X.prog X.w) X.A (pyIter v) (PIE X pins σ tg R) X.xe s1) X.xe s
theorem pi_w {X : Cx} {tg iter : Expr} : PI X tg iter (wI X tg iter) := ⟨fun pins s σ H R I h => h pins s I⟩
theorem wI.of {X : Cx} {tg iter : Expr} {t : TI} {σ : L2.St} {H : Hp} {R : It → Hp → Prop} (h : PI X tg iter t) (q : t σ H R) : wI X tg iter σ H R := fun pins s I => h.run pins s σ H R I q
structure JOk (K : Frag) (mg : Mg) (F : Hp) (J : It) (xs : List D) : Prop where
  go : ∀ (B : Bd) F' α H σ (S : Nz.S) (i : Nat) (d : D), Rel K mg B F' α H σ S → Same F F' → xs[i]? = some d → J.go i H ∧ ∀ x H', J.yld i H x H' → ∃ F2, Rel K mg B F2 α H' σ S ∧ Same F' F2 ∧ Rep K mg F2 d x
  stop : ∀ (B : Bd) F' α H σ (S : Nz.S) (i : Nat), Rel K mg B F' α H σ S → Same F F' → xs.length ≤ i → J.stop i H
def Src (X : Cx) (B : Bd) (tg iter : Expr) (S : Nz.S) (xs : List D) (S1 : Nz.S) : Prop :=
  ∀ F α H σ R, RelX X B F α H σ S → (∀ F' α' H' J, RelX X B F' α' H' σ S1 → Stp F α S.L F' α' → JOk X.K X.mg F' J xs → R J H') → wI X tg iter σ H R
section
variable {X : Cx} {B : Bd} {S S1 S2 S3 : Nz.S} {tg a b c e : Expr} {es : List Expr} {pos p : Pos} {d d1 d2 d3 : D} {xs : List D}
theorem src_list (h : Ev X B e S (.fr (.lst xs)) S1) : Src X B tg e S xs S1 := fun F α H σ R RR k => wI.of (pi_list pe_w) (h F α H σ _ RR fun F1 α1 v1 H1 R1 st1 r1 => by
  cases r1 with
  | lst h1 h2 =>
    rename_i a vs
    refine ⟨a, rfl, ⟨vs, R1.sub.seq h1⟩, k F1 α1 H1 _ R1 st1 ⟨fun B F' α H σ S i d R' hs hi => ?_, fun B F' α H σ S i R' hs hi => ⟨vs, R'.sub.seq (hs.seq h1), by rw [← h2.length]; exact hi⟩⟩⟩
    obtain ⟨v, hv, rv⟩ := h2.get hi
    refine ⟨⟨vs, v, R'.sub.seq (hs.seq h1), hv⟩, fun x H' y => ?_⟩
    obtain ⟨rfl, y⟩ := y
    have := y vs (R'.sub.seq (hs.seq h1))
    rw [hv] at this; cases this
    exact ⟨F', R', Same.refl _, rv.mono hs⟩)
/-- lo, lo + 1, .. -/
def rngD (lo : Int) (n : Nat) : List D := (List.range n).map fun (i : Nat) => D.int (lo + (i : Int))
theorem rngD_get {lo : Int} {n i : Nat} {d : D} (h : (rngD lo n)[i]? = some d) : i < n ∧ d = .int (lo + i) := by
  unfold rngD at h
  rw [List.getElem?_map] at h
  by_cases hi : i < n
  · rw [List.getElem?_range hi] at h
    exact ⟨hi, (Option.some.inj h).symm⟩
  · rw [List.getElem?_eq_none (by simpa using hi)] at h
    cases h
theorem rngD_len {lo : Int} {n : Nat} : (rngD lo n).length = n := by simp [rngD]
theorem jok_range {K : Frag} {mg : Mg} {F : Hp} {lo : Int} {n : Nat} : JOk K mg F (Itr lo n) (rngD lo n) :=
  ⟨fun B F' α H σ S i d R' hs hi => by
    obtain ⟨h1, rfl⟩ := rngD_get hi
    refine ⟨h1, fun x H' y => ?_⟩
    obtain ⟨rfl, rfl⟩ := y
    exact ⟨F', R', Same.refl _, .int _⟩, fun B F' α H σ S i R' hs hi => by rw [rngD_len] at hi; exact hi⟩
theorem src_range1 {j : Int} (h : Ea X B [a] S [.fr (.int j)] S1) (hg : Gl X "range") (hm : X.mg "range" = none) (h1 : -(2 ^ 62) ≤ j) (h2 : j < 2 ^ 62) (hs : starEach [a] X.env = [(false, eval a X.env)] := by rfl) : Src X B tg (.Call (.Name "range" p) [a] [] pos) S (rngD 0 j.toNat) S1 :=
  fun F α H σ R RR k => wI.of (pi_range1 hg hm pa_w hs) (h F α H σ _ RR fun F1 α1 vs H1 R1 st1 r1 => by
    cases r1 with
    | cons r1 r2 =>
      cases r2
      cases r1
      exact ⟨j, rfl, h1, h2, k F1 α1 H1 _ R1 st1 jok_range⟩)
theorem src_range2 {i j : Int} (h : Ea X B [a, b] S [.fr (.int i), .fr (.int j)] S1) (hg : Gl X "range") (hm : X.mg "range" = none) (h1 : -(2 ^ 62) ≤ i) (h2 : i < 2 ^ 62) (h3 : -(2 ^ 62) ≤ j) (h4 : j < 2 ^ 62) (hs : starEach [a, b] X.env = [(false, eval a X.env), (false, eval b X.env)] := by rfl) (hs2 : starEach [b] X.env = [(false, eval b X.env)] := by rfl) :
    Src X B tg (.Call (.Name "range" p) [a, b] [] pos) S (rngD i (j - i).toNat) S1 :=
  fun F α H σ R RR k => wI.of (pi_range2 hg hm pa_w hs hs2) (h F α H σ _ RR fun F1 α1 vs H1 R1 st1 r1 => by
    cases r1 with
    | cons r1 r2 =>
      cases r2 with
      | cons r2 r3 =>
        cases r3
        cases r1
        cases r2
        exact ⟨i, j, rfl, ⟨h1, h2, h3, h4⟩, k F1 α1 H1 _ R1 st1 jok_range⟩)
def wG (X : Cx) (tg : Expr) (v : V) (σ : L2.St) (H : Hp) (Q : L2.St → Hp → Prop) : Prop :=
  ∀ pins s u, Inv X pins σ H s → RelV v u → wpAny (model X.prog X.w) X.A (assign tg X.env u) (fun _ s' => ∃ σ' H', Inv X pins σ' H' s' ∧ Q σ' H') X.xe s
theorem pg_w {tg : Expr} : PG X tg (fun v σ H Q => wG X tg v σ H Q) := ⟨fun pins s σ H v u Q I r h => h pins s u I r⟩
def Eg (X : Cx) (B : Bd) (tg : Expr) (c : Ce) (S S2 : Nz.S) : Prop :=
  ∀ F α H σ v Q, RelX X B F α H σ S → CR X F α S.L c v → (∀ σ' F' H', RelX X B F' α H' σ' S2 → Same F F' → Q σ' H') → wG X tg v σ H Q
def setS (S : Nz.S) (i : Nat) (c : Ce) : Nz.S := ⟨S.ρ.set i (some c), S.L⟩
theorem Rel.setS {K : Frag} {mg : Mg} {F : Hp} {α : Nat → Addr} {H : Hp} {σ : L2.St} (R : Rel K mg B F α H σ S) {i : Nat} {c : Ce} {v : V} (r : CRel K mg F α S.L c v) : Rel K mg B F α H (σ.set i (some v)) (setS S i c) :=
  ⟨R.sub, R.bF, R.nF, R.frame, R.nd, R.inj, R.live, R.slots.set i r, R.fix⟩
theorem eg_name (i : Nat) {x : Str} {c : Ce} (hN : X.N.Nodup) (hi : X.N[i]? = some x) (hx : Loc X.env.scope x) (hf : X.fn x = true ∨ X.env.scope.names.lookup x = some .local := by first | exact .inl rfl | exact .inr rfl | assumption) : Eg X B (.Name x pos) c S (setS S i c) :=
  fun F α H σ v Q R r k pins s u I ru => (pg_name hN hi hx hf).run pins s σ H v u Q I ru (k _ F H (R.setS r) (Same.refl _))
/-- several -/
def Egs (X : Cx) (B : Bd) (ts : List Expr) (cs : List D) (S S2 : Nz.S) : Prop :=
  ∀ F α H σ vs (Q : L2.St → Hp → Prop), RelX X B F α H σ S → Reps X.K X.mg F cs vs → (∀ σ' F' H', RelX X B F' α H' σ' S2 → Same F F' → Q σ' H') →
    ∀ pins s us, Inv X pins σ H s → Vals vs us → wpAny (model X.prog X.w) X.A (assignInOrder ((assignEach ts X.env).map (·.2)) us) (fun _ s' => ∃ σ' H', Inv X pins σ' H' s' ∧ Q σ' H') X.xe s
theorem egs_nil : Egs X B [] [] S S := fun F α H σ vs Q R r k pins s us I ru => by
  cases r
  cases ru
  exact assignInOrder_nil ⟨σ, H, I, k σ F H R (Same.refl _)⟩
theorem egs_cons {ds : List D} (h1 : Eg X B e (.fr d) S S1) (h2 : Egs X B es ds S1 S2) (hL : S1.L = S.L := by rfl) (hs : (assignEach (e :: es) X.env).map (·.2) = assign e X.env :: (assignEach es X.env).map (·.2) := by rfl) : Egs X B (e :: es) (d :: ds) S S2 :=
  fun F α H σ vs Q R r k pins s us I ru => by
    cases r with
    | cons r rr =>
      cases ru with
      | cons u uu =>
        rw [hs]
        refine assignInOrder_cons (thn (h1 F α H σ _ (fun σ1 H1 => ∃ F1, RelX X B F1 α H1 σ1 S1 ∧ Same F F1) R r (fun σ' F' H' R' s' => ⟨F', R', s'⟩) pins s _ I u) fun _ s1 ⟨σ1, H1, I1, F1, R1, sm⟩ => ?_)
        exact h2 F1 α H1 σ1 _ Q R1 (rr.mono sm) (fun σ' F' H' R' s' => k σ' F' H' R' (sm.trans s')) pins s1 _ I1 uu
theorem eg_tup {ds : List D} {k1} (hc : X.calm = true) (h : Egs X B es ds S S2) (hn : (assignEach es X.env).length = ds.length := by rfl) (hst : (assignEach es X.env).findIdx? (·.1) = none := by rfl) : Eg X B (.Tuple es k1 pos) (.fr (.tup ds)) S S2 :=
  fun F α H σ v Q R r k pins s u I ru => by
    cases (show Rep X.K X.mg F (.tup ds) v from r) with
    | tup hq hr =>
      have hq' := R.sub.seqT hq
      cases ru
      obtain ⟨its, rv, ht, hz⟩ := I.tuple hq'
      refine assign_Tuple_tuple (I.ok.hd hc) ht (by simp [hn, hr.length, rv.length]) hst fun h' hx => ?_
      have I1 : Inv X pins σ H { s with heap := h' } := I.kept (t' := s.toks) fun b o e => hx b o (Nat.ne_of_lt (Heap.lt_size e)) e
      exact h F α H σ _ Q R hr k pins _ _ I1 (by simpa using rv)
variable {K : Out → Prop} {st : Stmt} {sts body els : List Stmt}
def seqK (X : Cx) (B : Bd) (rest : List Stmt) (K : Out → Prop) : Out → Prop
  | .nx S => Exs X B rest S K
  | .ret c S => K (.ret c S)
  | .bk S => K (.bk S)
  | .ct S => K (.ct S)
theorem exs_nil (h : K (.nx S)) : Exs X B [] S K := fun F α H σ D R o => wSs.of pss_nil (o.nx S F α H σ h R (Same.refl _))
theorem exs_cons (h : Ex X B st S (seqK X B sts K)) : Exs X B (st :: sts) S K := fun F α H σ D R o => wSs.of (pss_cons ps_w pss_w) (h F α H σ _ R
  ⟨fun S' F' α' H' σ' k R' s' => k F' α' H' σ' D R' (o.mono s'), fun S' F' α' H' σ' k R' s' => o.bk S' F' α' H' σ' k R' s', fun S' F' α' H' σ' k R' s' => o.ct S' F' α' H' σ' k R' s',
    fun c S' F' α' H' σ' v k R' s' r => o.ret c S' F' α' H' σ' v k R' s' r⟩)
theorem exs_one (h : Ex X B st S K) : Exs X B [st] S K := fun F α H σ D R o => wSs.of (pss_one ps_w) (h F α H σ _ R o)
theorem ex_asg {cv : Ce} (he : Ev X B e S cv S1) (hg : Eg X B tg cv S1 S2) (k : K (.nx S2)) (hs : swapsWithSole [tg] e pos.line X.env = pure false := by rfl) (hw : swappedStores [tg] e X.env = pure none := by rfl)
    (h1 : (assignEach [tg] X.env).map (·.2) = [assign tg X.env] := by rfl) : Ex X B (.Assign [tg] e pos) S K := fun F α H σ D R o => wS.of (ps_asg pe_w pg_w hs hw h1) (he F α H σ _ R fun F1 α1 v1 H1 R1 st1 r1 =>
      hg F1 α1 H1 σ v1 _ R1 r1 fun σ' F' H' R' s' => o.nx S2 F' α1 H' σ' k R' (st1.fro.trans s'))
theorem ex_set (i : Nat) {x : Str} {c : Ce} {pos' : Pos} (he : Ev X B e S c S1) (k : K (.nx (setS S1 i c))) (hN : X.N.Nodup) (hi : X.N[i]? = some x) (hx : Loc X.env.scope x) (hs : swapsWith e (some (.Name x pos')) pos.line X.env = pure false := by rfl)
    (hf : X.fn x = true ∨ X.env.scope.names.lookup x = some .local := by first | exact .inl rfl | exact .inr rfl | assumption) : Ex X B (.Assign [.Name x pos'] e pos) S K :=
  fun F α H σ D R o => wS.of (ps_set hN hi hx pe_w hs hf) (he F α H σ _ R fun F1 α1 v1 H1 R1 st1 r1 => o.nx _ F1 α1 H1 _ k (R1.setS r1) st1.fro)
theorem ex_ret {c : Ce} (he : Ev X B e S c S1) (k : K (.ret c S1)) : Ex X B (.Return (some e) pos) S K := fun F α H σ D R o => wS.of (ps_ret pe_w) (he F α H σ _ R fun F1 α1 v1 H1 R1 st1 r1 => o.ret c S1 F1 α1 H1 σ v1 k R1 st1.fro r1)
theorem ex_expr {c : Ce} (he : Ev X B e S c S1) (k : K (.nx S1)) (hs : swapsWith e none pos.line X.env = pure false := by rfl) : Ex X B (.Expr e pos) S K := fun F α H σ D R o => wS.of (ps_expr pe_w hs) (he F α H σ _ R fun F1 α1 v1 H1 R1 st1 r1 => o.nx S1 F1 α1 H1 σ k R1 st1.fro)
theorem ex_if {i : Bool} (ht : Et X B e S i S1) (ha : i = true → Exs X B body S1 K) (hb : i = false → Exs X B els S1 K) : Ex X B (.If e body els pos) S K := fun F α H σ D R o => wS.of (ps_if pt_w pss_w pss_w) (ht F α H σ _ R fun F1 α1 H1 R1 st1 => by
  cases i with
  | true => rw [if_pos rfl]; exact ha rfl F1 α1 H1 σ D R1 (o.mono st1.fro)
  | false => rw [if_neg Bool.false_ne_true]; exact hb rfl F1 α1 H1 σ D R1 (o.mono st1.fro))
theorem Exs.mono {K' : Out → Prop} (h : Exs X B sts S K) (hk : ∀ o, K o → K' o) : Exs X B sts S K' := fun F α H σ D R o => h F α H σ D R
  ⟨fun S' F' α' H' σ' k => o.nx S' F' α' H' σ' (hk _ k), fun S' F' α' H' σ' k => o.bk S' F' α' H' σ' (hk _ k), fun S' F' α' H' σ' k => o.ct S' F' α' H' σ' (hk _ k), fun c S' F' α' H' σ' v k => o.ret c S' F' α' H' σ' v (hk _ k)⟩
theorem Ex.mono {K' : Out → Prop} (h : Ex X B st S K) (hk : ∀ o, K o → K' o) : Ex X B st S K' := fun F α H σ D R o => h F α H σ D R
  ⟨fun S' F' α' H' σ' k => o.nx S' F' α' H' σ' (hk _ k), fun S' F' α' H' σ' k => o.bk S' F' α' H' σ' (hk _ k), fun S' F' α' H' σ' k => o.ct S' F' α' H' σ' (hk _ k), fun c S' F' α' H' σ' v k => o.ret c S' F' α' H' σ' v (hk _ k)⟩
end
end Nz
namespace Nz
open PySem PySem.Spec PyProof.Rows L2
def delL (n : Nat) : List (Nat × LO) → List (Nat × LO)
  | [] => []
  | (m, o) :: r => if n = m then delL n r else (m, o) :: delL n r
def frC (n : Nat) (d : D) : Ce → Ce
  | .fr e => .fr e
  | .ad m => if n = m then .fr d else .ad m
  | .xv u => .xv u
def frO (n : Nat) (d : D) : LO → LO
  | .fl ds => .fl ds
  | .cl cs => .cl (cs.map (frC n d))
  | .ins c fs => .ins c (fs.map fun p => (p.1, frC n d p.2))
  | .dT kvs => .dT kvs
  | .dK kvs => .dK kvs
  | .dC kvs => .dC (kvs.map fun p => (p.1, frC n d p.2))
  | .tab p nm => .tab p nm
  | .px φ => .px φ
def frS (n : Nat) (d : D) (S : Nz.S) : Nz.S := ⟨S.ρ.map (Option.map (frC n d)), (delL n S.L).map fun p => (p.1, frO n d p.2)⟩
section
variable {K : Frag} {mg : Mg} {B : Bd} {F F' : Hp} {α α' : Nat → Addr} {L L' : List (Nat × LO)} {H H' : Hp} {σ : L2.St} {S : Nz.S}
theorem mem_delL : ∀ {L : List (Nat × LO)} {n m : Nat} {o : LO}, (m, o) ∈ delL n L ↔ m ≠ n ∧ (m, o) ∈ L
  | [], n, m, o => by simp [delL]
  | (k, u) :: r, n, m, o => by
    unfold delL
    by_cases q : n = k
    · subst q
      rw [if_pos rfl, mem_delL, List.mem_cons]
      constructor
      · rintro ⟨h1, h2⟩; exact ⟨h1, .inr h2⟩
      · rintro ⟨h1, h2 | h2⟩
        · cases h2; exact absurd rfl h1
        · exact ⟨h1, h2⟩
    · rw [if_neg q, List.mem_cons, mem_delL, List.mem_cons]
      constructor
      · rintro (h | ⟨h1, h2⟩)
        · cases h; exact ⟨fun z => q z.symm, .inl rfl⟩
        · exact ⟨h1, .inr h2⟩
      · rintro ⟨h1, h2 | h2⟩
        · exact .inl h2
        · exact .inr ⟨h1, h2⟩
theorem names_delL {n m : Nat} : m ∈ names (delL n L) ↔ m ≠ n ∧ m ∈ names L := by
  constructor
  · intro h
    obtain ⟨⟨a, o⟩, h1, h2⟩ := List.mem_map.mp h
    have h2 : a = m := h2
    subst h2
    obtain ⟨h3, h4⟩ := mem_delL.mp h1
    exact ⟨h3, mem_names h4⟩
  · rintro ⟨h1, h2⟩
    obtain ⟨⟨a, o⟩, h3, h4⟩ := List.mem_map.mp h2
    have h4 : a = m := h4
    subst h4
    exact mem_names (mem_delL.mpr ⟨h1, h3⟩)
theorem names_frS {n : Nat} {d : D} : names ((delL n L).map fun p => (p.1, frO n d p.2)) = names (delL n L) := by simp [names]
theorem nodup_delL {n : Nat} (h : (names L).Nodup) : (names (delL n L)).Nodup := by
  refine h.sublist (List.Sublist.map _ ?_)
  induction L with
  | nil => exact .slnil
  | cons p r ih =>
    obtain ⟨m, o⟩ := p
    have ih' := ih (List.nodup_cons.mp h).2
    unfold delL
    split
    · exact .cons _ ih'
    · exact .cons₂ _ ih'
theorem CRel.freeze {n : Nat} {d : D} (hF : Same F F') (hd : Rep K mg F' d (.ref (α n))) : ∀ {c : Ce} {v : V}, CRel K mg F α L c v → CRel K mg F' α ((delL n L).map fun p => (p.1, frO n d p.2)) (frC n d c) v
  | .fr e, v, h => Rep.mono hF h
  | .ad m, v, ⟨h1, h2⟩ => by
    subst h2
    show CRel K mg F' α _ (if n = m then .fr d else .ad m) _
    by_cases q : n = m
    · subst q; rw [if_pos rfl]; exact hd
    · rw [if_neg q]
      exact ⟨by rw [names_frS]; exact names_delL.mpr ⟨fun z => q z.symm, h1⟩, rfl⟩
  | .xv _, _, h => h
theorem CRels.freeze {n : Nat} {d : D} (hF : Same F F') (hd : Rep K mg F' d (.ref (α n))) : ∀ {c : List Ce} {v : List V}, CRels K mg F α L c v → CRels K mg F' α ((delL n L).map fun p => (p.1, frO n d p.2)) (c.map (frC n d)) v
  | _, _, .nil => .nil
  | _, _, .cons h r => .cons (h.freeze hF hd) (r.freeze hF hd)
theorem CRelF.freeze {n : Nat} {d : D} (hF : Same F F') (hd : Rep K mg F' d (.ref (α n))) : ∀ {c : List (Str × Ce)} {v : List (Str × V)}, CRelF K mg F α L c v → CRelF K mg F' α ((delL n L).map fun p => (p.1, frO n d p.2)) (c.map fun p => (p.1, frC n d p.2)) v
  | _, _, .nil => .nil
  | _, _, .cons h r => .cons (h.freeze hF hd) (r.freeze hF hd)
theorem CRelK.freeze {κ : Type} {n : Nat} {d : D} (hF : Same F F') (hd : Rep K mg F' d (.ref (α n))) : ∀ {c : List (κ × Ce)} {v : List (κ × V)}, CRelK K mg F α L c v → CRelK K mg F' α ((delL n L).map fun p => (p.1, frO n d p.2)) (c.map fun p => (p.1, frC n d p.2)) v
  | _, _, .nil => .nil
  | _, _, .cons h r => .cons (h.freeze hF hd) (r.freeze hF hd)
theorem SlR.freeze {n : Nat} {d : D} (hF : Same F F') (hd : Rep K mg F' d (.ref (α n))) : ∀ {c : List (Option Ce)} {v : L2.St}, SlR K mg F α L c v → SlR K mg F' α ((delL n L).map fun p => (p.1, frO n d p.2)) (c.map (Option.map (frC n d))) v
  | _, _, .nil => .nil
  | _, _, .no r => .no (r.freeze hF hd)
  | _, _, .so h r => .so (h.freeze hF hd) (r.freeze hF hd)
/-- a live list whose items are frozen is frozen -/
theorem Rel.freeze (R : Rel K mg B F α H σ S) {n : Nat} {ds : List D} (hn : getL n S.L = some (.fl ds)) :
    ∃ F', Rel K mg B F' α H σ (frS n (.lst ds) S) ∧ Stp F α S.L F' α ∧ Rep K mg F' (.lst ds) (.ref (α n)) ∧ ∀ c v, CRel K mg F α S.L c v → CRel K mg F' α (frS n (.lst ds) S).L (frC n (.lst ds) c) v := by
  obtain ⟨f0, f1, vs, e, r⟩ := R.live n _ (getL_mem hn)
  have hF : Same F (upd F (α n) (.lst vs)) := same_upd f0
  have hd : Rep K mg (upd F (α n) (.lst vs)) (.lst ds) (.ref (α n)) := .lst (SqL.of upd_same) (r.mono hF)
  refine ⟨upd F (α n) (.lst vs), ⟨fun b u q => ?_, R.bF.trans hF, fun b u q => ?_, R.frame, ?_, fun a b ha hb => ?_, fun m o hm => ?_, R.slots.freeze hF hd, fun m a e hm => R.fix m a e (names_delL.mp (by rw [← names_frS]; exact hm)).2⟩, ⟨hF, fun _ _ => rfl⟩, hd, fun c v h => h.freeze hF hd⟩
  · by_cases z : b = α n
    · subst z; rw [upd_same] at q; rw [e]; exact q
    · rw [upd_ne z] at q; exact R.sub b u q
  · by_cases z : b = α n
    · subst z; exact .inr f1
    · rw [upd_ne z] at q; exact R.nF b u q
  · show (names ((delL n S.L).map fun p => (p.1, frO n (.lst ds) p.2))).Nodup
    rw [names_frS]; exact nodup_delL R.nd
  · have ha : a ∈ names ((delL n S.L).map fun p => (p.1, frO n (.lst ds) p.2)) := ha
    have hb : b ∈ names ((delL n S.L).map fun p => (p.1, frO n (.lst ds) p.2)) := hb
    rw [names_frS] at ha hb
    exact R.inj a b (names_delL.mp ha).2 (names_delL.mp hb).2
  · obtain ⟨⟨m', o'⟩, h1, h2⟩ := List.mem_map.mp hm
    cases h2
    obtain ⟨h3, h4⟩ := mem_delL.mp h1
    obtain ⟨g0, g1, g2⟩ := R.live m' o' h4
    have ne : α m' ≠ α n := fun q => h3 (R.inj _ _ (mem_names h4) (mem_names (getL_mem hn)) q)
    refine ⟨(upd_ne ne).trans g0, g1, ?_⟩
    cases o' with
    | fl ds' => obtain ⟨us, e1, r1⟩ := g2; exact ⟨us, e1, r1.mono hF⟩
    | cl cs => obtain ⟨us, e1, r1⟩ := g2; exact ⟨us, e1, r1.freeze hF hd⟩
    | ins c fs =>
      obtain ⟨C, dx, us, m1, e1, e2, e3, e4, r1⟩ := g2
      exact ⟨C, dx, us, m1, e1, e2, by rw [upd_ne (fun q => by rw [q, e] at e2; cases e2)]; exact e3, e4, r1.freeze hF hd⟩
    | dT kvs => obtain ⟨us, e1, r1⟩ := g2; exact ⟨us, e1, Paired.imp (fun _ _ z => ⟨z.1, z.2.mono hF⟩) r1⟩
    | dK kvs => obtain ⟨us, e1, r1⟩ := g2; exact ⟨us, e1, Paired.imp (fun _ _ z => ⟨z.1, z.2.mono hF⟩) r1⟩
    | dC kvs => obtain ⟨us, e1, r1⟩ := g2; exact ⟨us, e1, r1.freeze hF hd⟩
    | tab p0 nm => obtain ⟨e0, ps, e1, e2, e3⟩ := g2; exact ⟨e0, ps, e1, e2, fun p v z => let ⟨c, a, b⟩ := e3 p v z; ⟨c, a, hF _ _ b⟩⟩
    | px φ => obtain ⟨o, e1, ne1, q⟩ := g2; exact ⟨o, e1, ne1, fun F2 s => q F2 (hF.trans s)⟩
/-- an object's cells speak of L alone -/
theorem CRel.res : ∀ {c : Ce} {v v1 : V} {F1 : Hp} {α1 : Nat → Addr} {mg1 : Mg}, CRel K mg F α L' c v → CRel K mg1 F1 α1 L c v1 → CRel K mg F α L c v
  | .fr _, _, _, _, _, _, h, _ => h
  | .ad n, _, _, _, _, _, ⟨_, h2⟩, ⟨h3, _⟩ => ⟨h3, h2⟩
  | .xv _, _, _, _, _, _, h, _ => h
theorem CRels.res : ∀ {c : List Ce} {v v1 : List V} {F1 : Hp} {α1 : Nat → Addr}, CRels K mg F α L' c v → CRels K mg F1 α1 L c v1 → CRels K mg F α L c v
  | _, _, _, _, _, .nil, .nil => .nil
  | _, _, _, _, _, .cons h r, .cons h' r' => .cons (h.res h') (r.res r')
theorem CRelF.res : ∀ {c : List (Str × Ce)} {v v1 : List (Str × V)} {F1 : Hp} {α1 : Nat → Addr}, CRelF K mg F α L' c v → CRelF K mg F1 α1 L c v1 → CRelF K mg F α L c v
  | _, _, _, _, _, .nil, .nil => .nil
  | _, _, _, _, _, .cons h r, .cons h' r' => .cons (h.res h') (r.res r')
theorem CRelK.res {κ : Type} : ∀ {c : List (κ × Ce)} {v v1 : List (κ × V)} {F1 : Hp} {α1 : Nat → Addr}, CRelK K mg F α L' c v → CRelK K mg F1 α1 L c v1 → CRelK K mg F α L c v
  | _, _, _, _, _, .nil, .nil => .nil
  | _, _, _, _, _, .cons h r, .cons h' r' => .cons (h.res h') (r.res r')
theorem LAt.res {a a1 : Addr} {o : LO} {F1 H1 : Hp} {α1 : Nat → Addr} (h : LAt K mg B F α L' H a o) (h1 : LAt K mg B F1 α1 L H1 a1 o) : LAt K mg B F α L H a o := by
  cases o with
  | fl ds => exact h
  | cl cs => obtain ⟨us, e1, r1⟩ := h; obtain ⟨_, _, q⟩ := h1; exact ⟨us, e1, r1.res q⟩
  | ins c fs => obtain ⟨C, dx, us, m1, e1, e2, e3, e4, r1⟩ := h; obtain ⟨_, _, _, _, _, _, _, _, q⟩ := h1; exact ⟨C, dx, us, m1, e1, e2, e3, e4, r1.res q⟩
  | dT kvs => exact h
  | dK kvs => exact h
  | dC kvs => obtain ⟨us, e1, r1⟩ := h; obtain ⟨_, _, q⟩ := h1; exact ⟨us, e1, r1.res q⟩
  | tab p0 nm => exact h
  | px φ => exact h
theorem LAt.frz {a p : Addr} {o : LO} {vs : List V} (f0 : F p = none) (e : H p = some (.lst vs)) (h : LAt K mg B F α L H a o) : LAt K mg B (upd F p (.lst vs)) α L H a o := by
  have hF : Same F (upd F p (.lst vs)) := same_upd f0
  have st : Stp F α L (upd F p (.lst vs)) α := ⟨hF, fun _ _ => rfl⟩
  cases o with
  | fl ds => obtain ⟨us, e1, r1⟩ := h; exact ⟨us, e1, r1.mono hF⟩
  | cl cs => obtain ⟨us, e1, r1⟩ := h; exact ⟨us, e1, r1.step st fun _ z => z⟩
  | ins c fs =>
    obtain ⟨C, dx, us, m1, e1, e2, e3, e4, r1⟩ := h
    exact ⟨C, dx, us, m1, e1, e2, by rw [upd_ne (fun q => by rw [q, e] at e2; cases e2)]; exact e3, e4, r1.step st fun _ z => z⟩
  | dT kvs => obtain ⟨us, e1, r1⟩ := h; exact ⟨us, e1, Paired.imp (fun _ _ z => ⟨z.1, z.2.mono hF⟩) r1⟩
  | dK kvs => obtain ⟨us, e1, r1⟩ := h; exact ⟨us, e1, Paired.imp (fun _ _ z => ⟨z.1, z.2.mono hF⟩) r1⟩
  | dC kvs => obtain ⟨us, e1, r1⟩ := h; exact ⟨us, e1, r1.step st fun _ z => z⟩
  | tab p0 nm => obtain ⟨e0, ps, e1, e2, e3⟩ := h; exact ⟨e0, ps, e1, e2, fun p v z => let ⟨c, a, b⟩ := e3 p v z; ⟨c, a, hF _ _ b⟩⟩
  | px φ => obtain ⟨o, e1, ne1, q⟩ := h; exact ⟨o, e1, ne1, fun F2 s => q F2 (hF.trans s)⟩
/-- the last live list is frozen, the rest is as it was -/
theorem Rel.close {F1 H1 : Hp} {α1 : Nat → Addr} {σ1 : L2.St} {ρ ρ1 : List (Option Ce)} {n : Nat} {ds : List D} (R1 : Rel K mg B F1 α1 H1 σ1 ⟨ρ1, L⟩) (R : Rel K mg B F α H σ ⟨ρ, L ++ [(n, .fl ds)]⟩) (st : Stp F1 α1 L F α) (hn : n ∉ names L) :
    ∃ F', Rel K mg B F' α H σ1 ⟨ρ1, L⟩ ∧ Stp F1 α1 L F' α ∧ Rep K mg F' (.lst ds) (.ref (α n)) := by
  obtain ⟨f0, f1, vs, e, r⟩ := R.live n (.fl ds) (List.mem_append_right _ (List.mem_singleton.mpr rfl))
  have hF : Same F (upd F (α n) (.lst vs)) := same_upd f0
  have hd : Rep K mg (upd F (α n) (.lst vs)) (.lst ds) (.ref (α n)) := .lst (SqL.of upd_same) (r.mono hF)
  have st2 : Stp F1 α1 L (upd F (α n) (.lst vs)) α := ⟨st.fro.trans hF, st.nm⟩
  have nn : ∀ m, m ∈ names L → m ∈ names (L ++ [(n, LO.fl ds)]) := fun m h => Sub.app m h
  refine ⟨upd F (α n) (.lst vs), ⟨fun b u q => ?_, R.bF.trans hF, fun b u q => ?_, R.frame, R1.nd, fun a b ha hb => R.inj a b (nn a ha) (nn b hb), fun m o hm => ?_, R1.slots.step st2 fun _ z => z, fun m a e hm => R.fix m a e (nn m hm)⟩, st2, hd⟩
  · by_cases z : b = α n
    · subst z; rw [upd_same] at q; rw [e]; exact q
    · rw [upd_ne z] at q; exact R.sub b u q
  · by_cases z : b = α n
    · subst z; exact .inr f1
    · rw [upd_ne z] at q; exact R.nF b u q
  · have hm' : (m, o) ∈ L := hm
    obtain ⟨g0, g1, g2⟩ := R.live m o (List.mem_append_left _ hm')
    have ne : α m ≠ α n := fun q => hn (by rw [← R.inj _ _ (nn m (mem_names hm')) (by rw [names_append]; exact List.mem_append_right _ (List.mem_singleton.mpr rfl)) q]; exact mem_names hm')
    refine ⟨by rw [upd_ne ne]; exact g0, g1, ?_⟩
    have g3 : LAt K mg B (upd F (α n) (.lst vs)) α (L ++ [(n, .fl ds)]) H (α m) o := g2.frz f0 e
    exact g3.res (R1.live m o hm').2.2
end
end Nz
namespace Nz
open PySem PySem.Spec PyProof.Rows L2
def EgC (X : Cx) (B : Bd) (tg : Expr) (c : Ce) (S S2 : Nz.S) (vs : List Nat) : Prop :=
  ∀ F α H σ v Q, RelX X B F α H σ S → CR X F α S.L c v → (∀ σ' F' H', RelX X B F' α H' σ' S2 → Same F F' → wipe σ' vs = wipe σ vs → Q σ' H') → wG X tg v σ H Q
theorem wipe_set : ∀ {vs : List Nat} {σ : L2.St} {i : Nat} {x : Option V}, i ∈ vs → wipe (σ.set i x) vs = wipe σ vs
  | v :: vs, σ, i, x, h => by
    show (wipe (σ.set i x) vs).set v none = (wipe σ vs).set v none
    by_cases hi : i ∈ vs
    · rw [wipe_set hi]
    · have e : v = i := by
        rcases List.mem_cons.mp h with h | h
        · exact h.symm
        · exact absurd h hi
      subst e
      clear h
      have key : ∀ (vs : List Nat) (σ : L2.St), v ∉ vs → wipe (σ.set v x) vs = (wipe σ vs).set v x := by
        intro vs
        induction vs with
        | nil => intro σ _; rfl
        | cons u us ih =>
          intro σ hn
          show (wipe (σ.set v x) us).set u none = ((wipe σ us).set u none).set v x
          rw [ih σ (fun z => hn (List.mem_cons_of_mem _ z)), List.set_comm _ _ (fun z => hn (by rw [z]; exact List.mem_cons_self))]
      rw [key vs σ hi, List.set_set]
theorem wipe_idem {σ : L2.St} : ∀ {vs : List Nat}, wipe (wipe σ vs) vs = wipe σ vs
  | [] => rfl
  | v :: vs => by
    show (wipe ((wipe σ vs).set v none) vs).set v none = (wipe σ vs).set v none
    by_cases h : v ∈ vs
    · rw [wipe_set h, wipe_idem]
    · have key : ∀ (ws : List Nat) (τ : L2.St), v ∉ ws → wipe (τ.set v none) ws = (wipe τ ws).set v none := by
        intro ws
        induction ws with
        | nil => intro τ _; rfl
        | cons u us ih =>
          intro τ hn
          show (wipe (τ.set v none) us).set u none = ((wipe τ us).set u none).set v none
          rw [ih τ (fun z => hn (List.mem_cons_of_mem _ z)), List.set_comm _ _ (fun z => hn (by rw [z]; exact List.mem_cons_self))]
      rw [key vs _ h, wipe_idem, List.set_set]
theorem getL_app : ∀ {L : List (Nat × LO)} {n : Nat} {o : LO}, n ∉ names L → getL n (L ++ [(n, o)]) = some o
  | [], n, o, _ => by simp [getL]
  | (m, u) :: r, n, o, h => by
    show (if n = m then some u else getL n (r ++ [(n, o)])) = _
    rw [if_neg (fun z => h (by rw [z]; exact List.mem_cons_self)), getL_app (fun z => h (List.mem_cons_of_mem _ z))]
theorem setL_app : ∀ {L : List (Nat × LO)} {n : Nat} {o u : LO}, n ∉ names L → setL n u (L ++ [(n, o)]) = L ++ [(n, u)]
  | [], n, o, u, _ => by simp [setL]
  | (m, w) :: r, n, o, u, h => by
    show (if n = m then (m, u) :: (r ++ [(n, o)]) else (m, w) :: setL n u (r ++ [(n, o)])) = _
    rw [if_neg (fun z => h (by rw [z]; exact List.mem_cons_self)), setL_app (fun z => h (List.mem_cons_of_mem _ z))]
    rfl
theorem eg_nameC {X : Cx} {B : Bd} {S : Nz.S} {vs : List Nat} (i : Nat) {x : Str} {c : Ce} {pos : Pos} (hN : X.N.Nodup) (hi : X.N[i]? = some x) (hx : Loc X.env.scope x) (hv : i ∈ vs) (hf : X.fn x = true ∨ X.env.scope.names.lookup x = some .local) : EgC X B (.Name x pos) c S (setS S i c) vs :=
  fun F α H σ v Q R r k pins s u I ru => (pg_name hN hi hx hf).run pins s σ H v u Q I ru (k _ F H (R.setS r) (Same.refl _) (wipe_set hv))
def EgsC (X : Cx) (B : Bd) (ts : List Expr) (cs : List D) (S S2 : Nz.S) (ws : List Nat) : Prop :=
  ∀ F α H σ vs (Q : L2.St → Hp → Prop), RelX X B F α H σ S → Reps X.K X.mg F cs vs → (∀ σ' F' H', RelX X B F' α H' σ' S2 → Same F F' → wipe σ' ws = wipe σ ws → Q σ' H') →
    ∀ pins s us, Inv X pins σ H s → Vals vs us → wpAny (model X.prog X.w) X.A (assignInOrder ((assignEach ts X.env).map (·.2)) us) (fun _ s' => ∃ σ' H', Inv X pins σ' H' s' ∧ Q σ' H') X.xe s
section
variable {X : Cx} {B : Bd} {S S1 S2 : Nz.S} {ws : List Nat} {e : Expr} {es : List Expr} {d : D} {pos : Pos}
theorem egs_nilC : EgsC X B [] [] S S ws := fun F α H σ vs Q R r k pins s us I ru => by
  cases r
  cases ru
  exact assignInOrder_nil ⟨σ, H, I, k σ F H R (Same.refl _) rfl⟩
theorem egs_consC {ds : List D} (h1 : EgC X B e (.fr d) S S1 ws) (h2 : EgsC X B es ds S1 S2 ws) (hL : S1.L = S.L := by rfl) (hs : (assignEach (e :: es) X.env).map (·.2) = assign e X.env :: (assignEach es X.env).map (·.2) := by rfl) : EgsC X B (e :: es) (d :: ds) S S2 ws :=
  fun F α H σ vs Q R r k pins s us I ru => by
    cases r with
    | cons r rr =>
      cases ru with
      | cons u uu =>
        rw [hs]
        refine assignInOrder_cons (thn (h1 F α H σ _ (fun σ1 H1 => ∃ F1, RelX X B F1 α H1 σ1 S1 ∧ Same F F1 ∧ wipe σ1 ws = wipe σ ws) R r (fun σ' F' H' R' s' w' => ⟨F', R', s', w'⟩) pins s _ I u) fun _ s1 ⟨σ1, H1, I1, F1, R1, sm, w1⟩ => ?_)
        exact h2 F1 α H1 σ1 _ Q R1 (rr.mono sm) (fun σ' F' H' R' s' w' => k σ' F' H' R' (sm.trans s') (w'.trans w1)) pins s1 _ I1 uu
theorem eg_tupC {ds : List D} {k1} (hc : X.calm = true) (h : EgsC X B es ds S S2 ws) (hn : (assignEach es X.env).length = ds.length := by rfl) (hst : (assignEach es X.env).findIdx? (·.1) = none := by rfl) : EgC X B (.Tuple es k1 pos) (.fr (.tup ds)) S S2 ws :=
  fun F α H σ v Q R r k pins s u I ru => by
    cases (show Rep X.K X.mg F (.tup ds) v from r) with
    | tup hq hr =>
      have hq' := R.sub.seqT hq
      cases ru
      obtain ⟨its, rv, ht, hz⟩ := I.tuple hq'
      refine assign_Tuple_tuple (I.ok.hd hc) ht (by simp [hn, hr.length, rv.length]) hst fun h' hx => ?_
      have I1 : Inv X pins σ H { s with heap := h' } := I.kept (t' := s.toks) fun b o e => hx b o (Nat.ne_of_lt (Heap.lt_size e)) e
      exact h F α H σ _ Q R hr k pins _ _ I1 (by simpa using rv)
end
def wTs (X : Cx) (ifs : List Expr) (σ : L2.St) (H : Hp) (Q : Bool → Hp → Prop) : Prop :=
  ∀ pins s, Inv X pins σ H s → wpAny (model X.prog X.w) X.A (forIn ifs true fun c r => if r = true then do let ok ← isTrue c X.env (eval c X.env); pure (ForInStep.yield ok) else pure (ForInStep.yield r)) (TP X pins σ Q) X.xe s
def Ets (X : Cx) (B : Bd) (ifs : List Expr) (S : Nz.S) (b : Bool) : Prop :=
  ∀ F α H σ Q, RelX X B F α H σ S → (∀ F' α' H', RelX X B F' α' H' σ S → Stp F α S.L F' α' → Q b H') → wTs X ifs σ H Q
theorem ets_nil {X : Cx} {B : Bd} {S : Nz.S} : Ets X B [] S true := fun F α H σ Q R k pins s I => pts_nil.run pins s σ H Q I (k F α H R Stp.refl)
def wipeC (ρ : List (Option Ce)) : List Nat → List (Option Ce)
  | [] => ρ
  | v :: vs => (wipeC ρ vs).set v none
theorem SlR.setN {K : Frag} {mg : Mg} {F : Hp} {α : Nat → Addr} {L : List (Nat × LO)} : ∀ {c : List (Option Ce)} {σ : L2.St} (i : Nat) {o : Option V}, SlR K mg F α L c σ → SlR K mg F α L (c.set i none) (σ.set i o)
  | _, _, _, _, .nil => .nil
  | _, _, 0, _, .no r => .no r
  | _, _, 0, _, .so _ r => .no r
  | _, _, i + 1, _, .no r => .no (r.setN i)
  | _, _, i + 1, _, .so q r => .so q (r.setN i)
theorem SlR.wipe {K : Frag} {mg : Mg} {F : Hp} {α : Nat → Addr} {L : List (Nat × LO)} {c : List (Option Ce)} {σ : L2.St} (h : SlR K mg F α L c σ) : ∀ vs : List Nat, SlR K mg F α L (wipeC c vs) (L2.wipe σ vs)
  | [] => h
  | v :: vs => (h.wipe vs).setN v
/-- the context of a comprehension's block -/
abbrev Blk (X : Cx) (scope : Scope) (s : Shared) (H : Hp) (C : Addr) (cl : List (Str × Addr)) (fp : List Addr) : Cx := X.blk s H scope (compEnvC scope cl C X.env) fp
section
variable {X : Cx} {B : Bd} {S S1 : Nz.S} {elt tg iter : Expr} {ifs : List Expr} {scope : Scope} {own : List (Str × Nat)} {pos : Pos}
/-- [elt for tg in iter if ..] of data -/
theorem lc_reading {τ : Type} (nD : Nat) {ys : List τ} {enc : τ → D} (f : τ → D) (p : τ → Bool) (Sx : Nat → τ → List D → Nz.S)
    (hsrc : Src X B tg iter S (ys.map enc) S1) (hn : nD ∉ names S1.L) (h100 : 100 ≤ nD) (hz : ys.length ≤ sizeLine) (hL : ∀ i y acc, (Sx i y acc).L = S1.L ++ [(nD, .fl acc)])
    (hg : ∀ i y acc, ys[i]? = some y → ∀ s H0 C cl fp, EgC (Blk X scope s H0 C cl fp) B tg (.fr (enc y)) ⟨wipeC S1.ρ (own.map (·.2)), S1.L ++ [(nD, .fl acc)]⟩ (Sx i y acc) (own.map (·.2)))
    (ht : ∀ i y acc, ys[i]? = some y → ∀ s H0 C cl fp, Ets (Blk X scope s H0 C cl fp) B ifs (Sx i y acc) (p y))
    (he : ∀ i y acc, ys[i]? = some y → p y = true → ∀ s H0 C cl fp, Ev (Blk X scope s H0 C cl fp) B elt (Sx i y acc) (.fr (f y)) (Sx i y acc))
    (F : Hp) (α : Nat → Addr) (H : Hp) (σ : L2.St) (Q : VK) (R : RelX X B F α H σ S) (hS : Sub S.L S1.L)
    (k : ∀ F' α' v H', RelX X B F' α' H' σ S1 → Stp F α S.L F' α' → Rep X.K X.mg F' (.lst ((ys.filter p).map f)) v → Q v H') :
    tLc (wI X tg iter) (fun v σ H Q => ∀ s H0 C cl fp, wG (Blk X scope s H0 C cl fp) tg v σ H Q) (fun σ H Q => ∀ s H0 C cl fp, wTs (Blk X scope s H0 C cl fp) ifs σ H Q) (fun σ H Q => ∀ s H0 C cl fp, wE (Blk X scope s H0 C cl fp) elt σ H Q) (own.map (·.2)) σ H Q := by
  refine hsrc F α H σ _ R fun F1 α1 H1 J R1 st1 j => ?_
  intro D hD
  have Rn := R1.allocL (n := nD) (u := .fl []) (o := .lst []) hD hn h100 ⟨[], upd_same, .nil⟩
  have stn : Stp F1 α1 S1.L F1 (setα α1 nD D) := stp_setα hn
  have eD : setα α1 nD D nD = D := by unfold setα; rw [if_pos rfl]
  -- the state at turn i
  let W : Nat → Hp → Prop := fun i H => ∃ F' α', RelX X B F' α' H (L2.wipe σ (own.map (·.2))) ⟨wipeC S1.ρ (own.map (·.2)), S1.L ++ [(nD, .fl (((ys.take i).filter p).map f))]⟩ ∧ Stp F1 (setα α1 nD D) (S1.L ++ [(nD, .fl [])]) F' α'
  have w0 : W 0 (upd H1 D (.lst [])) := ⟨F1, setα α1 nD D, ⟨Rn.sub, Rn.bF, Rn.nF, Rn.frame, Rn.nd, Rn.inj, Rn.live, Rn.slots.wipe _, Rn.fix⟩, Stp.refl⟩
  refine ⟨fun i m H => m = ys.length - i ∧ i ≤ ys.length ∧ W i H, ⟨ys.length, by simp, Nat.zero_le _, w0⟩, ?_⟩
  rintro i m H' ⟨rfl, hi, F', α', R', st'⟩
  have sm : Same F1 F' := st'.fro
  have nmD : α' nD = D := by rw [st'.nm nD (by rw [names_append]; exact List.mem_append_right _ (List.mem_singleton.mpr rfl)), eD]
  by_cases hlt : i < ys.length
  · obtain ⟨y, hy⟩ : ∃ y, ys[i]? = some y := ⟨ys[i], by simp [hlt]⟩
    obtain ⟨g, yl⟩ := j.go B F' α' H' _ _ i (enc y) R' sm (by rw [List.getElem?_map, hy]; rfl)
    have tk : (ys.take (i + 1)) = ys.take i ++ [y] := by rw [List.take_succ, hy]; rfl
    refine .inr ⟨g, W (i + 1), fun H2 w2 => ⟨ys.length - (i + 1), by omega, rfl, hlt, w2⟩, fun x H2 yy => ?_⟩
    obtain ⟨F2, R2, s2, r2⟩ := yl x H2 yy
    intro sA HA CA clA fpA
    refine hg i y (((ys.take i).filter p).map f) hy sA HA CA clA fpA F2 α' H2 _ x _ R2 r2 fun σ3 F3 H3 R3 s3 w3 => ⟨w3.trans wipe_idem, ?_⟩
    intro sB HB CB clB fpB
    refine ht i y (((ys.take i).filter p).map f) hy sB HB CB clB fpB F3 α' H3 σ3 _ R3 fun F4 α4 H4 R4 st4 => ?_
    have hLL := hL i y (((ys.take i).filter p).map f)
    have full : ∀ {F5 : Hp} {α5 : Nat → Addr} {acc : List Nz.D}, Same F' F5 → (∀ n, n ∈ names (S1.L ++ [(nD, LO.fl (((ys.take i).filter p).map f))]) → α5 n = α' n) → Stp F1 (setα α1 nD D) (S1.L ++ [(nD, .fl [])]) F5 α5 := fun {F5 α5 acc} h1 h2 =>
      ⟨sm.trans h1, fun n hn' => by
        rw [h2 n (by rw [names_append] at hn' ⊢; exact hn'), st'.nm n hn']⟩
    have back : ∀ {F5 : Hp} {α5 : Nat → Addr} {H5 : Hp} {acc : List Nz.D}, RelX X B F5 α5 H5 σ3 ⟨(Sx i y (((ys.take i).filter p).map f)).ρ, S1.L ++ [(nD, .fl acc)]⟩ → SlR X.K X.mg F5 α5 (S1.L ++ [(nD, .fl acc)]) (wipeC S1.ρ (own.map (·.2))) (L2.wipe σ (own.map (·.2))) →
        RelX X B F5 α5 H5 (L2.wipe σ (own.map (·.2))) ⟨wipeC S1.ρ (own.map (·.2)), S1.L ++ [(nD, .fl acc)]⟩ := fun {F5 α5 H5 acc} Rr sl => ⟨Rr.sub, Rr.bF, Rr.nF, Rr.frame, Rr.nd, Rr.inj, Rr.live, sl, Rr.fix⟩
    have sl0 : SlR X.K X.mg F' α' (S1.L ++ [(nD, .fl (((ys.take i).filter p).map f))]) (wipeC S1.ρ (own.map (·.2))) (L2.wipe σ (own.map (·.2))) := R'.slots
    have st4' : Stp F' α' (S1.L ++ [(nD, .fl (((ys.take i).filter p).map f))]) F4 α4 := ⟨s2.trans (s3.trans st4.fro), fun n hn' => st4.nm n (by rw [hLL]; exact hn')⟩
    cases hp : p y with
    | false =>
      rw [if_neg Bool.false_ne_true]
      have e2 : ((ys.take (i + 1)).filter p).map f = ((ys.take i).filter p).map f := by rw [tk, List.filter_append]; simp [hp]
      refine ⟨F4, α4, ?_, full (acc := []) st4'.fro st4'.nm⟩
      rw [e2]
      have R4' : RelX X B F4 α4 H4 σ3 ⟨(Sx i y (((ys.take i).filter p).map f)).ρ, S1.L ++ [(nD, .fl (((ys.take i).filter p).map f))]⟩ := by rw [← hLL]; exact R4
      exact back R4' (sl0.step st4' fun _ z => z)
    | true =>
      rw [if_pos rfl]
      intro sC HC CC clC fpC
      refine he i y (((ys.take i).filter p).map f) hy hp sC HC CC clC fpC F4 α4 H4 σ3 _ R4 fun F5 α5 v5 H5 R5 st5 r5 => ?_
      have st5' : Stp F' α' (S1.L ++ [(nD, .fl (((ys.take i).filter p).map f))]) F5 α5 := st4'.trans ⟨st5.fro, fun n hn' => st5.nm n (by rw [hLL]; exact hn')⟩ fun _ z => z
      have R5' : RelX X B F5 α5 H5 σ3 ⟨(Sx i y (((ys.take i).filter p).map f)).ρ, S1.L ++ [(nD, .fl (((ys.take i).filter p).map f))]⟩ := by rw [← hLL]; exact R5
      obtain ⟨q0, q1, vs5, e5, rs5⟩ := R5'.live nD _ (List.mem_append_right _ (List.mem_singleton.mpr rfl))
      have nm5 : α5 nD = D := by rw [st5'.nm nD (by rw [names_append]; exact List.mem_append_right _ (List.mem_singleton.mpr rfl)), nmD]
      have gl := getL_app (o := .fl (((ys.take i).filter p).map f)) hn
      have sl : ∀ (acc : List Nz.D), setL nD (.fl acc) (S1.L ++ [(nD, LO.fl (((ys.take i).filter p).map f))]) = S1.L ++ [(nD, .fl acc)] := fun acc => setL_app hn
      rw [nm5] at e5
      have e2 : ((ys.take (i + 1)).filter p).map f = ((ys.take i).filter p).map f ++ [f y] := by rw [tk, List.filter_append, List.map_append]; simp [hp]
      have lenv : vs5.length < sizeLine := by
        rw [← rs5.length, List.length_map]
        have := List.length_filter_le p (ys.take i)
        rw [List.length_take] at this
        omega
      refine ⟨vs5, e5, lenv, F5, α5, ?_, full (acc := []) st5'.fro st5'.nm⟩
      have Rp := R5'.put (n := nD) (u := .fl (((ys.take i).filter p).map f ++ [f y])) (o' := .lst (vs5 ++ [v5])) (getL_mem gl) ⟨vs5 ++ [v5], upd_same, rs5.append (.cons r5 .nil)⟩
      rw [nm5] at Rp
      rw [e2]
      have Rp' : RelX X B F5 α5 (upd H5 D (.lst (vs5 ++ [v5]))) σ3 ⟨(Sx i y (((ys.take i).filter p).map f)).ρ, S1.L ++ [(nD, .fl (((ys.take i).filter p).map f ++ [f y]))]⟩ := by rw [← sl]; exact Rp
      refine back Rp' (sl0.step (L' := S1.L ++ [(nD, .fl (((ys.take i).filter p).map f ++ [f y]))]) st5' fun n hn' => by rw [names_append] at hn' ⊢; exact hn')
  · have e1 : i = ys.length := by omega
    subst e1
    refine .inl ⟨j.stop B F' α' H' _ _ _ R' sm (by rw [List.length_map]; exact Nat.le_refl _), ?_⟩
    rw [List.take_length] at R'
    have stA : Stp F1 α1 S1.L F' α' := stn.trans ⟨st'.fro, fun n hn' => st'.nm n (Sub.app n hn')⟩ fun _ z => z
    obtain ⟨F6, R6, st6, r6⟩ := Rel.close (L := S1.L) R1 R' stA hn
    rw [nmD] at r6
    exact k F6 α' (.ref D) H' R6 (st1.trans st6 hS) r6
section
variable {τ : Type} {ys : List τ} {enc : τ → D}
theorem ev_lc (nD : Nat) (ys : List τ) (enc : τ → D) (f : τ → D) (p : τ → Bool) (Sx : Nat → τ → List D → Nz.S) (hc : X.calm = true) (hN : X.N.Nodup) (ok : BlkOk X.N X.env.scope scope own)
    (hsrc : Src X B tg iter S (ys.map enc) S1) (hn : nD ∉ names S1.L) (h100 : 100 ≤ nD) (hz : ys.length ≤ sizeLine) (hL : ∀ i y acc, (Sx i y acc).L = S1.L ++ [(nD, .fl acc)])
    (hg : ∀ i y acc, ys[i]? = some y → ∀ s H0 C cl fp, EgC (Blk X scope s H0 C cl fp) B tg (.fr (enc y)) ⟨wipeC S1.ρ (own.map (·.2)), S1.L ++ [(nD, .fl acc)]⟩ (Sx i y acc) (own.map (·.2)))
    (ht : ∀ i y acc, ys[i]? = some y → ∀ s H0 C cl fp, Ets (Blk X scope s H0 C cl fp) B ifs (Sx i y acc) (p y))
    (he : ∀ i y acc, ys[i]? = some y → p y = true → ∀ s H0 C cl fp, Ev (Blk X scope s H0 C cl fp) B elt (Sx i y acc) (.fr (f y)) (Sx i y acc)) (hS : Sub S.L S1.L := by exact Sub.refl) (hs : ∀ x, foldedSetIterable iter X.env x = pure x := by intro _; rfl) :
    Ev X B (.ListComp elt [⟨tg, iter, ifs, 0⟩] scope pos) S (.fr (.lst ((ys.filter p).map f))) S1 :=
  fun F α H σ Q R k => wE.of (pe_lc hc hN pi_w ok (fun s H0 C cl fp => ⟨fun pins s1 σ1 H1 v u Q1 I r h => h s H0 C cl fp pins s1 u I r⟩) (fun s H0 C cl fp => ⟨fun pins s1 σ1 H1 Q1 I h => h s H0 C cl fp pins s1 I⟩) (fun s H0 C cl fp => ⟨fun pins s1 σ1 H1 Q1 I h => h s H0 C cl fp pins s1 I⟩) hs)
    (lc_reading nD f p Sx hsrc hn h100 hz hL hg ht he F α H σ Q R hS k)
theorem ex_setLc (i : Nat) {y : Str} {py spos : Pos} {K : Out → Prop} (nD : Nat) (ys : List τ) (enc : τ → D) (f : τ → D) (p : τ → Bool) (Sx : Nat → τ → List D → Nz.S) (hc : X.calm = true) (hN : X.N.Nodup) (hy : X.N[i]? = some y) (hyl : X.env.scope.names.lookup y = some .local)
    (hsw : swapsWith (.ListComp elt [⟨tg, iter, ifs, 0⟩] scope pos) (some (.Name y py)) spos.line X.env = pure true) (ok : BlkOk X.N X.env.scope scope own)
    (hsrc : Src X B tg iter S (ys.map enc) S1) (hn : nD ∉ names S1.L) (h100 : 100 ≤ nD) (hz : ys.length ≤ sizeLine) (hL : ∀ i y acc, (Sx i y acc).L = S1.L ++ [(nD, .fl acc)])
    (hg : ∀ i y acc, ys[i]? = some y → ∀ s H0 C cl fp, EgC (Blk X scope s H0 C cl fp) B tg (.fr (enc y)) ⟨wipeC S1.ρ (own.map (·.2)), S1.L ++ [(nD, .fl acc)]⟩ (Sx i y acc) (own.map (·.2)))
    (ht : ∀ i y acc, ys[i]? = some y → ∀ s H0 C cl fp, Ets (Blk X scope s H0 C cl fp) B ifs (Sx i y acc) (p y))
    (he : ∀ i y acc, ys[i]? = some y → p y = true → ∀ s H0 C cl fp, Ev (Blk X scope s H0 C cl fp) B elt (Sx i y acc) (.fr (f y)) (Sx i y acc))
    (k : K (.nx (setS S1 i (.fr (.lst ((ys.filter p).map f)))))) (hS : Sub S.L S1.L := by exact Sub.refl) (hs : ∀ x, foldedSetIterable iter X.env x = pure x := by intro _; rfl) :
    Ex X B (.Assign [.Name y py] (.ListComp elt [⟨tg, iter, ifs, 0⟩] scope pos) spos) S K :=
  fun F α H σ D R o => wS.of (ps_setLc hc hN hy hyl hsw pi_w ok (fun s H0 C cl fp => ⟨fun pins s1 σ1 H1 v u Q1 I r h => h s H0 C cl fp pins s1 u I r⟩) (fun s H0 C cl fp => ⟨fun pins s1 σ1 H1 Q1 I h => h s H0 C cl fp pins s1 I⟩) (fun s H0 C cl fp => ⟨fun pins s1 σ1 H1 Q1 I h => h s H0 C cl fp pins s1 I⟩) hs)
    (lc_reading nD f p Sx hsrc hn h100 hz hL hg ht he F α H σ _ R hS fun F' α' v H' R' st r => o.nx _ F' α' H' _ k (R'.setS r) st.fro)
end
end
def Cb (X : Cx) (f : Value) (ds : List D) (d : D) : Prop :=
  ∀ B F α H σ (S : Nz.S) (Q : VK) xs, RelX X B F α H σ S → Reps X.K X.mg F ds xs → (∀ F' α' v H', RelX X B F' α' H' σ S → Stp F α S.L F' α' → Rep X.K X.mg F' d v → Q v H') →
    ∀ pins s us, Inv X pins σ H s → Vals xs us → wpAny (model X.prog X.w) X.A (call f us) (EP X pins σ Q) X.xe s
theorem Cb.of {X : Cx} {f : Value} {ds : List D} {d : D} {r : List V → Hp → VK → Prop} (h : CallR X f r)
    (hr : ∀ B F α H σ (S : Nz.S) (Q : VK) xs, RelX X B F α H σ S → Reps X.K X.mg F ds xs → (∀ F' α' v H', RelX X B F' α' H' σ S → Stp F α S.L F' α' → Rep X.K X.mg F' d v → Q v H') → r xs H Q) : Cb X f ds d :=
  fun B F α H σ S Q xs R rx k pins s us I rv => h pins s σ H xs us Q I rv (hr B F α H σ S Q xs R rx k)
section
variable {X : Cx} {B : Bd} {S S1 : Nz.S} {a e : Expr} {es : List Expr} {pos p : Pos} {x : Str} {ds : List D} {d : D} {id T : String}
theorem ev_callB (hc : Cb X (.builtin id) ds d) (ha : Ea X B (e :: es) S (ds.map Ce.fr) S1) (hg : Gl X x) (hm : X.mg x = none) (hv : bootBuiltins x = some (.builtin id)) (h1 : Sub S.L S1.L := by exact Sub.refl) (hn : x ≠ "__name__" := by decide) (hdb : (x == ("__debug__" : Str)) = false := by decide)
    (he : starEach (e :: es) X.env = (false, eval e X.env) :: starEach es X.env := by rfl) (hpl : (backTo pos (starEach es X.env)).any (·.1) = false := by rfl) : Ev X B (.Call (.Name x p) (e :: es) [] pos) S (.fr d) S1 :=
  fun F α H σ Q R k pins s I => wpAny_Call_Name_kw (ld_blt I hg hm hv (PyProof.Rows.callWith_builtin1 (thn (ha F α H σ (fun vs H1 => ∃ F1 α1, RelX X B F1 α1 H1 σ S1 ∧ Stp F α S.L F1 α1 ∧ Reps X.K X.mg F1 ds vs) R
    (fun F1 α1 vs H1 R1 st1 r1 => ⟨F1, α1, R1, st1, r1.fr⟩) pos pins s I) fun us s1 ⟨vs, H1, I1, rv, F1, α1, R1, st1, r1⟩ =>
      hc B F1 α1 H1 σ S1 Q vs R1 r1 (fun F' α' v H' R' st' r' => k F' α' v H' R' (st1.trans st' h1) r') pins s1 us I1 rv) he hpl) hn hdb)
theorem ev_callTy (hc : Cb X (.type T) ds d) (ha : Ea X B (e :: es) S (ds.map Ce.fr) S1) (hg : Gl X x) (hm : X.mg x = none) (hv : bootBuiltins x = some (.type T)) (h1 : Sub S.L S1.L := by exact Sub.refl) (hn : x ≠ "__name__" := by decide) (hdb : (x == ("__debug__" : Str)) = false := by decide)
    (he : starEach (e :: es) X.env = (false, eval e X.env) :: starEach es X.env := by rfl) (hpl : (backTo pos (starEach es X.env)).any (·.1) = false := by rfl) : Ev X B (.Call (.Name x p) (e :: es) [] pos) S (.fr d) S1 :=
  fun F α H σ Q R k pins s I => wpAny_Call_Name_kw (ld_blt I hg hm hv (PyProof.Rows.callWith_type1 (thn (ha F α H σ (fun vs H1 => ∃ F1 α1, RelX X B F1 α1 H1 σ S1 ∧ Stp F α S.L F1 α1 ∧ Reps X.K X.mg F1 ds vs) R
    (fun F1 α1 vs H1 R1 st1 r1 => ⟨F1, α1, R1, st1, r1.fr⟩) pos pins s I) fun us s1 ⟨vs, H1, I1, rv, F1, α1, R1, st1, r1⟩ =>
      hc B F1 α1 H1 σ S1 Q vs R1 r1 (fun F' α' v H' R' st' r' => k F' α' v H' R' (st1.trans st' h1) r') pins s1 us I1 rv) he hpl) hn hdb)
theorem c_abs {i : Int} : Cb X (.builtin "abs") [.int i] (.int (if i < 0 then -i else i)) := .of call_abs fun B F α H σ S Q xs R rx k => by
  cases rx with | cons r rr => cases rr; cases r; exact ⟨i, rfl, k F α _ H R Stp.refl (.int _)⟩
theorem c_max2 {i j : Int} (hc : X.calm = true) : Cb X (.builtin "max") [.int i, .int j] (.int (if j > i then j else i)) := .of (call_max2 hc) fun B F α H σ S Q xs R rx k => by
  cases rx with | cons r rr => cases rr with | cons r2 rr => cases rr; cases r; cases r2; exact ⟨i, j, rfl, k F α _ H R Stp.refl (.int _)⟩
theorem c_lenT {xs : List D} : Cb X (.builtin "len") [.tup xs] (.int xs.length) := .of call_len_seq fun B F α H σ S Q vs R rx k => by
  cases rx with
  | cons r rr =>
    cases rr
    obtain ⟨a, us, rfl, hq, rs⟩ := R.asT r
    exact ⟨a, us, rfl, .inr hq, by rw [← rs.length]; exact k F α _ H R Stp.refl (.int _)⟩
theorem c_lenS {z : Str} (h : z.length ≤ sizeLine) : Cb X (.builtin "len") [.str z] (.int z.length) := .of call_len_str fun B F α H σ S Q vs R rx k => by
  cases rx with | cons r rr => cases rr; cases r; exact ⟨z, rfl, h, k F α _ H R Stp.refl (.int _)⟩
theorem c_list {xs : List D} : Cb X (.type "list") [.lst xs] (.lst xs) := .of call_list_of fun B F α H σ S Q vs R rx k => by
  cases rx with
  | cons r rr =>
    cases rr
    obtain ⟨a, us, rfl, hq, rs⟩ := R.asL (c := .fr (.lst xs)) rfl r
    exact ⟨a, us, rfl, .inl hq, fun l hl => k _ α _ _ (R.allocF hl) (stp_allocF (R.fresh hl)) (.lst (SqL.of upd_same) (rs.mono (same_upd (R.fresh hl))))⟩
theorem c_listT {xs : List D} : Cb X (.type "list") [.tup xs] (.lst xs) := .of call_list_of fun B F α H σ S Q vs R rx k => by
  cases rx with
  | cons r rr =>
    cases rr
    obtain ⟨a, us, rfl, hq, rs⟩ := R.asT r
    exact ⟨a, us, rfl, .inr hq, fun l hl => k _ α _ _ (R.allocF hl) (stp_allocF (R.fresh hl)) (.lst (SqL.of upd_same) (rs.mono (same_upd (R.fresh hl))))⟩
theorem c_tuple {xs : List D} : Cb X (.type "tuple") [.lst xs] (.tup xs) := .of call_tuple_of fun B F α H σ S Q vs R rx k => by
  cases rx with
  | cons r rr =>
    cases rr
    obtain ⟨a, us, rfl, hq, rs⟩ := R.asL (c := .fr (.lst xs)) rfl r
    exact ⟨a, us, rfl, .inl ⟨hq, fun l hl => k _ α _ _ (R.allocF hl) (stp_allocF (R.fresh hl)) (.tup (SqT.of upd_same) (rs.mono (same_upd (R.fresh hl))))⟩⟩
/-- len of what lives -/
theorem ev_lenL {ca : Ce} (ha : Ev X B e S ca S1) (hl : AsL S1.L ca ds) (hg : Gl X "len") (hm : X.mg "len" = none) (hs : starEach [e] X.env = (false, eval e X.env) :: starEach [] X.env := by rfl) (hpl : (backTo pos (starEach [] X.env)).any (·.1) = false := by rfl) : Ev X B (.Call (.Name "len" p) [e] [] pos) S (.fr (.int ds.length)) S1 :=
  fun F α H σ Q R k => wE.of (pe_callB call_len_seq hg hm PySem.boot_len (pa_cons pe_w pa_nil hs) (by decide) (by decide) hs hpl) (ha F α H σ _ R fun F1 α1 v1 H1 R1 st1 r1 => by
    obtain ⟨a, us, rfl, hq, rs⟩ := R1.asL hl r1
    exact ⟨a, us, rfl, .inl hq, by rw [← rs.length]; exact k F1 α1 _ H1 R1 st1 (.int _)⟩)
def tyOf : D → Option String
  | .non => some "NoneType" | .bl _ => some "bool" | .int _ => some "int" | .str _ => some "str" | .tup _ => some "tuple" | .lst _ => some "list" | .obj _ _ => none | .dK _ => none | .dT _ => none
end
end Nz
namespace Nz
open PySem PySem.Spec PyProof.Rows L2
section
variable {X : Cx} {B : Bd} {S S1 : Nz.S} {a e : Expr} {es : List Expr} {pos p q : Pos} {x : Str} {ds : List D} {d : D}
theorem tyX_lst {K : Frag} {H : Hp} {a : Addr} {vs : List V} (h : SqL K H a vs) : TyX K H (.ref a) (.type "list") := by
  rcases h with (h | ⟨o, h⟩) | ⟨o, its, n, h1, h2, _⟩
  · exact .base (.lst h)
  · exact .base (.frz h)
  · exact .kList h1 h2
theorem tyX_tup {K : Frag} {H : Hp} {a : Addr} {vs : List V} (h : SqT K H a vs) : TyX K H (.ref a) (.type "tuple") := by
  rcases h with (h | ⟨o, h⟩) | ⟨o, its, n, h1, h2, _⟩
  · exact .base (.tup h)
  · exact .fTuple h
  · exact .kTuple h1 h2
theorem Rel.tyX {F : Hp} {α : Nat → Addr} {H : Hp} {σ : L2.St} (R : RelX X B F α H σ S) {v : V} {t : String} (r : Rep X.K X.mg F d v) (h : tyOf d = some t) : TyX X.K H v (.type t) := by
  cases r with
  | non => cases h; exact .base .non
  | bl b => cases h; exact .base (.bl b)
  | int i => cases h; exact .base (.int i)
  | str z => cases h; exact .base (.str z)
  | tup h1 h2 => cases h; exact tyX_tup (R.sub.seqT h1)
  | lst h1 h2 => cases h; exact tyX_lst (R.sub.seq h1)
  | obj m h1 h2 h3 => cases h
  | dK _ _ _ => cases h
  | dT _ _ _ => cases h
/-- isinstance(a, T), T a built-in class -/
theorem ev_isi {T t : String} {b : Bool} {xT : Str} {p2 : Pos} (ha : Ev X B a S (.fr d) S1) (ht : tyOf d = some t) (hk : kitB t T = some b) (hg : Gl X "isinstance") (hm : X.mg "isinstance" = none) (hgT : Gl X xT) (hmT : X.mg xT = none) (hv : bootBuiltins xT = some (.type T))
    (hv2 : bootBuiltins "isinstance" = some (.builtin "isinstance") := by decide +kernel)
    (hn : xT ≠ "__name__" := by decide) (hd : (xT == ("__debug__" : Str)) = false := by decide)
    (he : starEach (a :: [.Name xT p2]) X.env = (false, eval a X.env) :: starEach [.Name xT p2] X.env := by rfl) (he2 : starEach (.Name xT p2 :: []) X.env = (false, eval (.Name xT p2) X.env) :: starEach [] X.env := by rfl) (hpl : (backTo pos (starEach [.Name xT p2] X.env)).any (·.1) = false := by rfl) :
    Ev X B (.Call (.Name "isinstance" p) [a, .Name xT p2] [] pos) S (.fr (.bl b)) S1 :=
  fun F α H σ Q R k => wE.of (pe_callB call_isi hg hm hv2 (pa_cons pe_w (pa_cons (pe_bltn (v := .ty T) hgT hmT hv rfl hn hd) pa_nil he2) he) (by decide) (by decide) he hpl) (ha F α H σ _ R fun F1 α1 v1 H1 R1 st1 r1 => by
    exact ⟨v1, .ty T, .type t, .type T, b, rfl, .ty T, R1.tyX r1 ht, kit_ty hk, k F1 α1 _ H1 R1 st1 (.bl _)⟩)
theorem ev_append {n : Nat} {o : Expr} {apos : Pos} (ho : Ev X B o S (.ad n) S) {ds0 : List D} (ha : Ev X B e S (.fr d) S1) (hn : getL n S1.L = some (.fl ds)) (hn0 : getL n S.L = some (.fl ds0)) (hz : ds.length < sizeLine) (h1 : Sub S.L S1.L := by exact Sub.refl)
    (hbase : attributeBase o "append" X.env (eval o X.env) = eval o X.env := by rfl)
    (hfew : ((backTo pos (starEach (e :: []) X.env)).all (fun x => !x.1) && (backToKw pos (keywordEach [] X.env)).all (fun x => x.1.isSome)
      && decide ((e :: ([] : List Expr)).length + ([] : List Keyword).length + (if ([] : List Keyword).isEmpty then 0 else 1) < 30)) = true := by rfl)
    (hline : (apos.endLine == pos.line) = true := by rfl) (hs : starEach (e :: []) X.env = (false, eval e X.env) :: starEach [] X.env := by rfl) (hplain : (backTo pos (starEach [] X.env)).any (·.1) = false := by rfl) :
    Ev X B (.Call (.Attribute o "append" apos) [e] [] pos) S (.fr .non) ⟨S1.ρ, setL n (.fl (ds ++ [d])) S1.L⟩ :=
  fun F α H σ Q R k => wE.of (pe_bm PySem.F.plainAttrs_list PySem.F.slot_list_append PySem.F.type_list_append mt_append pe_w (pa_cons pe_w pa_nil hs) hbase hfew hline hs hplain) (ho F α H σ _ R fun F1 α1 v1 H1 R1 st1 r1 => by
    obtain ⟨hm, rfl⟩ := r1
    refine ⟨?_, ha F1 α1 H1 σ _ R1 fun F2 α2 v2 H2 R2 st2 r2 => ?_⟩
    · -- it is a list already
      obtain ⟨_, _, vs, e1, rs⟩ := R1.live n _ (getL_mem hn0)
      exact .inl ⟨rfl, _, SqL.of e1⟩
    · have hmm := getL_mem hn
      obtain ⟨f0, f1, vs, e1, rs⟩ := R2.live n _ hmm
      have en : α2 n = α1 n := st2.nm n hm
      refine ⟨α1 n, vs, v2, rfl, rfl, by rw [← en]; exact e1, by rw [← rs.length]; exact hz, ?_⟩
      have Rp := R2.put (n := n) (u := .fl (ds ++ [d])) (o' := .lst (vs ++ [v2])) hmm ⟨vs ++ [v2], upd_same, rs.append (.cons r2 .nil)⟩
      rw [en] at Rp
      exact k F2 α2 .non _ Rp ((st1.trans st2 Sub.refl).trans Stp.refl h1) .non)
/-- what a def promises: of the arguments' cells, the live objects handed in, and what is wanted of the value and of what lives behind -/
abbrev SpN := List Ce → List (Nat × LO) → (Ce → List (Nat × LO) → Prop) → Prop
def bdOf (F H : Hp) (fp : Addr → Prop) (α : Nat → Addr) (L : List (Nat × LO)) : Bd := ⟨F, H, fp, fun n => if n < 100 then some (α n) else none, fun n h => by rw [if_neg (by omega)]⟩
def SpOf (K : Frag) (mg : Mg) (sp : SpN) : Sp := fun vs H Q _ => ∃ F α L cs fp, Rel K mg (bdOf F H fp α L) F α H (vs.map some) ⟨cs.map some, L⟩ ∧
  sp cs L fun c L' => ∀ F' α' v H' ρ' σ', Rel K mg (bdOf F H fp α L) F' α' H' σ' ⟨ρ', L'⟩ → CRel K mg F' α' L' c v → Q v H'
def retK (Kc : Ce → List (Nat × LO) → Prop) : Out → Prop
  | .ret c S => Kc c S.L
  | .nx S => Kc (.fr .non) S.L
  | _ => False
def startC (N : List Str) (cs : List Ce) : List (Option Ce) := cs.map some ++ List.replicate (N.length - cs.length) none
theorem slr_rep {K : Frag} {mg : Mg} {F : Hp} {α : Nat → Addr} {L : List (Nat × LO)} : ∀ n, SlR K mg F α L (List.replicate n none) (List.replicate n none)
  | 0 => .nil
  | n + 1 => .no (slr_rep n)
theorem SlR.append {K : Frag} {mg : Mg} {F : Hp} {α : Nat → Addr} {L : List (Nat × LO)} : ∀ {c c' : List (Option Ce)} {σ σ' : L2.St}, SlR K mg F α L c σ → SlR K mg F α L c' σ' → SlR K mg F α L (c ++ c') (σ ++ σ')
  | _, _, _, _, .nil, h => h
  | _, _, _, _, .no r, h => .no (r.append h)
  | _, _, _, _, .so q r, h => .so q (r.append h)
theorem SlR.length {K : Frag} {mg : Mg} {F : Hp} {α : Nat → Addr} {L : List (Nat × LO)} : ∀ {c : List (Option Ce)} {σ : L2.St}, SlR K mg F α L c σ → c.length = σ.length
  | _, _, .nil => rfl
  | _, _, .no r => congrArg (· + 1) r.length
  | _, _, .so _ r => congrArg (· + 1) r.length
theorem _root_.L2.Fun.okN {P : Program} {w : World} {K : Frag} {mg : Mg} {base : Heap} {x qual : Str} {st : Stmt} {f : Addr} {fd : FuncData} {N ps : List Str} {k : Nat} {sp : SpN} (F : Fun K x qual st f fd) (S : FnScope N ps (defScope st)) (len : ∀ cs L Kc, sp cs L Kc → cs.length = ps.length)
    (hbody : ∀ (cdv : Value) (A : Around) (outer : List Env) (s : Shared) (H : Hp) (E : XK) (B : Bd) (cs : List Ce) (L : List (Nat × LO)) (Kc : Ce → List (Nat × LO) → Prop), Room k (A.deeper (envOfC qual (defScope st) s.heap.objs.size f cdv)) → sp cs L Kc →
      Exs (cxOf CX0 P w K mg base N qual (defScope st) f cdv A outer s H E).nox B (defBody st) ⟨startC N cs, L⟩ (retK Kc)) : FnOk P w K mg base CX0 (k + 1) f fd ps (SpOf K mg sp) := by
  refine F.ok S (fun vs H Q E h => ?_) (fun cdv A outer s H vs Q E hr h => ?_)
  · obtain ⟨F', α, L, cs, fp, R, h⟩ := h
    have e1 := R.slots.length
    have e2 := len _ _ _ h
    simp only [List.length_map] at e1
    omega
  · obtain ⟨F', α, L, cs, fp, R, h⟩ := h
    have e1 : cs.length = vs.length := by have := R.slots.length; simpa using this
    refine ⟨_, pss_w, hbody cdv A outer s H E (bdOf F' H fp α L) cs L _ hr h F' α H _ _ (?_ : Rel _ _ _ _ _ _ _ _) ?_⟩
    · refine ⟨R.sub, R.bF, R.nF, R.frame, R.nd, R.inj, R.live, ?_, R.fix⟩
      show SlR _ _ _ _ _ (cs.map some ++ List.replicate (N.length - cs.length) none) (vs.map some ++ List.replicate (N.length - vs.length) none)
      rw [e1]
      exact R.slots.append (slr_rep _)
    · refine ⟨fun S' F1 α1 H1 σ1 k1 R1 s1 => k1 F1 α1 .non H1 S'.ρ σ1 R1 .non, fun S' F1 α1 H1 σ1 k1 R1 s1 => k1.elim, fun S' F1 α1 H1 σ1 k1 R1 s1 => k1.elim, fun c S' F1 α1 H1 σ1 v k1 R1 s1 r1 => k1 F1 α1 v H1 S'.ρ σ1 R1 r1⟩
theorem paired_slots {K : Frag} {mg : Mg} {F : Hp} {α : Nat → Addr} : ∀ {ds : List D} {vs : List V}, Reps K mg F ds vs → SlR K mg F α [] ((ds.map Ce.fr).map some) (vs.map some)
  | _, _, .nil => .nil
  | _, _, .cons h r => .so h (paired_slots r)
theorem Rel.call0 {K : Frag} {mg : Mg} {B : Bd} {F : Hp} {α : Nat → Addr} {H : Hp} {σ : L2.St} {S : Nz.S} {vs : List V} (R : Rel K mg B F α H σ S) (r : Reps K mg F ds vs) : Rel K mg (bdOf F H (fun _ => False) α []) F α H (vs.map some) ⟨(ds.map Ce.fr).map some, []⟩ :=
  ⟨R.sub, Same.refl _, fun b o e => .inl e, fun b o e _ => e, List.nodup_nil, fun n m h => absurd h (by simp [names]), fun n o h => absurd h (by simp), paired_slots r, fun n a h hn => absurd hn (by simp [names])⟩
/-- behind a call that was handed nothing that lives -/
theorem Rel.back0 {K : Frag} {mg : Mg} {B : Bd} {F F' : Hp} {α α' : Nat → Addr} {H H' : Hp} {σ σ' : L2.St} {S S' : Nz.S} (R : Rel K mg B F α H σ S) (R' : Rel K mg (bdOf F H (fun _ => False) α []) F' α' H' σ' S') : Rel K mg B F' α H' σ S :=
  R.grow R'.bF (fun b o e => R'.frame b o e fun z => z) R'.sub fun b u e => by
    rcases R'.nF b u e with z | z | z
    · exact .inl z
    · exact .inr z
    · exact z.elim
variable {CX : CXT} {f C : Addr} {fd : FuncData} {ps : List Str} {k : Nat} {sp : SpN} {dvs : List D}
/-- a value as the text has it, for a default -/
theorem ev_call {ds' : List D} {dvs : List V} {dfs : List Value} (F : FnOk X.prog X.w X.K X.mg X.base CX0 k f fd ps (SpOf X.K X.mg sp)) (hr : Room k X.A) (hm : X.mg x = some (.ref f)) (hk : PySem.W.keepIn X.K (.ref f) = true) (hb : Binds X.K fd ps dfs) (hd : Vals dvs dfs)
    (hdv : ∀ F', Reps X.K X.mg F' ds' dvs) (ha : Ea X B (e :: es) S (ds.map Ce.fr) S1) (hs : ∀ Kc : Ce → List (Nat × LO) → Prop, (∀ L', Kc (.fr d) L') → sp ((ds ++ ds').map Ce.fr) [] Kc) (hg : Gl X x) (h1 : Sub S.L S1.L := by exact Sub.refl) (hdb : (x == ("__debug__" : Str)) = false := by decide)
    (he : starEach (e :: es) X.env = (false, eval e X.env) :: starEach es X.env := by rfl) (hpl : (backTo pos (starEach es X.env)).any (·.1) = false := by rfl) : Ev X B (.Call (.Name x p) (e :: es) [] pos) S (.fr d) S1 :=
  fun F0 α H σ Q R k => wE.of (pe_call F hr hg hm hk hb hd pass0 pa_w hdb he hpl) (ha F0 α H σ _ R fun F1 α1 vs H1 R1 st1 r1 => by
    have r := Reps.append r1.fr (hdv F1)
    exact ⟨F1, α1, [], _, fun _ => False, R1.call0 r, hs _ fun L' F' α' v H' ρ' σ' R' r' => k F' α1 v H' (R1.back0 R') (st1.trans ⟨R'.bF, fun _ _ => rfl⟩ h1) r'⟩)
/-- c' forgets some of c -/
def Fg : List (Option Ce) → List (Option Ce) → Prop
  | [], [] => True
  | a :: as, b :: bs => (b = none ∨ b = a) ∧ Fg as bs
  | _, _ => False
theorem SlR.fg {K : Frag} {mg : Mg} {F : Hp} {α : Nat → Addr} {L : List (Nat × LO)} : ∀ {c c' : List (Option Ce)} {σ : L2.St}, Fg c c' → SlR K mg F α L c σ → SlR K mg F α L c' σ
  | _, [], _, h, .nil => .nil
  | _, b :: bs, _, h, .no r => by
    obtain ⟨h1 | h1, h2⟩ := h
    · subst h1; exact .no (SlR.fg h2 r)
    · subst h1; exact .no (SlR.fg h2 r)
  | _, b :: bs, _, h, .so q r => by
    obtain ⟨h1 | h1, h2⟩ := h
    · subst h1; exact .no (SlR.fg h2 r)
    · subst h1; exact .so q (SlR.fg h2 r)
  | _, [], _, h, .no r => False.elim h
  | _, [], _, h, .so q r => False.elim h
  | _, _ :: _, _, h, .nil => False.elim h
theorem exs_freeze {sts : List Stmt} {K : Out → Prop} (n : Nat) (hn : getL n S.L = some (.fl ds)) (h : Exs X B sts (frS n (.lst ds) S) K) : Exs X B sts S K := fun F α H σ D R o => by
  obtain ⟨F', R', st, _⟩ := R.freeze hn
  exact h F' α H σ D R' (o.mono st.fro)
end
end Nz
namespace Nz
open PySem PySem.Spec PyProof.Rows L2
section
variable {X : Cx} {B : Bd} {S S1 S2 S3 : Nz.S} {a b c e : Expr} {es : List Expr} {pos p q p2 : Pos} {x : Str} {ds : List D} {d d1 d2 : D}
theorem o_cat {xs ys : List D} (hz : xs.length + ys.length ≤ sizeLine) : Op2 X (binaryOp .Add) (.lst xs) (.lst ys) (.lst (xs ++ ys)) :=
  fun B F α H σ S Q x y R rx ry k pins s v u I rv ru => by
    obtain ⟨l1, vs, rfl, hq, rs⟩ := R.asL (c := .fr (.lst xs)) rfl rx
    obtain ⟨l2, us, rfl, hq2, rs2⟩ := R.asL (c := .fr (.lst ys)) rfl ry
    cases rv
    cases ru
    obtain ⟨its, r, ⟨⟨cl, od, dt, sl⟩, n, e1, c1, o1, t1⟩, z1⟩ := I.list hq
    obtain ⟨its2, r2, ⟨⟨cl2, od2, dt2, sl2⟩, n2, e2, c2, o2, t2⟩, z2⟩ := I.list hq2
    simp only at c1 o1 t1 c2 o2 t2
    subst c1 o1 t1 c2 o2 t2
    have hlen := r.length
    have hlen2 := r2.length
    have h1 := rs.length
    have h2 := rs2.length
    have ee : its.toArray ++ its2.toArray = (its ++ its2).toArray := by simp
    refine concat_meets ⟨_, e1, rfl⟩ ⟨_, e2, rfl⟩ noFill_list_add seq_list_add PySem.F.slot_list_add PySem.F.entry_list_add (PySem.F.args_list_add_2 _ _) (list_addW l1 l2 its.toArray its2.toArray n n2 none none sl sl2 (by simp only [List.size_toArray]; omega)) ⟨e1, e2, ?_⟩
    rw [ee]
    have hf := R.fresh I.fresh
    refine ⟨.ref _, _, I.lnew (t' := s.toks) (r.append r2) (by rw [List.length_append]; omega), rfl, k _ α _ _ (R.allocF I.fresh) (stp_allocF hf) (.lst (SqL.of upd_same) ((rs.append rs2).mono (same_upd hf)))⟩
def Eo (X : Cx) (B : Bd) (e : Option Expr) (S : Nz.S) (o : Option Int) : Prop :=
  ∀ F α H σ (Q : Option Int → Hp → Prop), RelX X B F α H σ S → (∀ F' α' H', RelX X B F' α' H' σ S → Stp F α S.L F' α' → Q o H') →
    ∀ pins s, Inv X pins σ H s → wpAny (model X.prog X.w) X.A (evalPart e X.env) (fun u s' => ∃ o H', Inv X pins σ H' s' ∧ IsPart u o ∧ Q o H') X.xe s
theorem eo_none : Eo X B none S none := fun F α H σ Q R k pins s I => po_none.run pins s σ H Q I (k F α H R Stp.refl)
theorem eo_some {i : Int} (h : Ev X B e S (.fr (.int i)) S) : Eo X B (some e) S (some i) := fun F α H σ Q R k pins s I => (po_some pe_w).run pins s σ H Q I (h F α H σ _ R fun F' α' v H' R' st r => by cases r; exact ⟨i, rfl, k F' α' H' R' st⟩)
def tO (X : Cx) (e : Option Expr) : TO := fun σ H Q => ∀ pins s, Inv X pins σ H s → wpAny (model X.prog X.w) X.A (evalPart e X.env) (fun u s' => ∃ o H', Inv X pins σ H' s' ∧ IsPart u o ∧ Q o H') X.xe s
theorem po_w {e : Option Expr} : PO X e (tO X e) := ⟨fun pins s σ H Q I h => h pins s I⟩
def slcD {τ : Type} (xs : List τ) (lo hi : Option Int) : List τ := (xs.drop (HT.sIx xs.length 0 lo)).take (HT.sIx xs.length xs.length hi - HT.sIx xs.length 0 lo)
theorem slcD_map {τ μ : Type} (f : τ → μ) (xs : List τ) (lo hi : Option Int) : slcD (xs.map f) lo hi = (slcD xs lo hi).map f := by
  unfold slcD
  rw [List.length_map, List.map_take, List.map_drop]
theorem ev_sliceL {ca : Ce} {lo hi : Option Expr} {ol oh : Option Int} (ha : Ev X B a S ca S1) (h1 : Eo X B lo S1 ol) (h2 : Eo X B hi S1 oh) (hl : AsL S1.L ca ds) (hS : Sub S.L S1.L := by exact Sub.refl) : Ev X B (.Subscript a (.Slice lo hi none p2) pos) S (.fr (.lst (slcD ds ol oh))) S1 :=
  fun F α H σ Q R k => wE.of (pe_slice sl_list pe_w po_w po_w) (ha F α H σ _ R fun F1 α1 v1 H1 R1 st1 r1 => h1 F1 α1 H1 σ _ R1 fun F2 α2 H2 R2 st2 => h2 F2 α2 H2 σ _ R2 fun F3 α3 H3 R3 st3 => by
    obtain ⟨pa, vs, rfl, hq, rs⟩ := R3.asL hl (r1.step (st2.trans st3 Sub.refl) Sub.refl)
    refine ⟨pa, vs, rfl, hq, fun l hl' => k _ α3 _ _ (R3.allocF hl') ⟨((st1.trans st2 hS).trans st3 hS).fro.trans (same_upd (R3.fresh hl')), ((st1.trans st2 hS).trans st3 hS).nm⟩ (.lst (SqL.of upd_same) (Reps.mono (same_upd (R3.fresh hl')) ?_))⟩
    unfold slcD cutV
    rw [rs.length]
    exact (rs.drop _).take _)
end
theorem at_map {τ : Type} [Inhabited τ] {enc : τ → D} {xs : List τ} {i : Int} (h0 : 0 ≤ i) (h1 : i < xs.length) : atI (xs.map enc) i = some (enc (xs.getD i.toNat default)) := by
  unfold atI ixN
  rw [if_pos h0, if_pos (by rw [List.length_map]; exact h1)]
  show (xs.map enc)[i.toNat]? = _
  rw [List.getElem?_map]
  have h2 : i.toNat < xs.length := by omega
  rw [List.getElem?_eq_getElem h2, List.getD_eq_getElem?_getD, List.getElem?_eq_getElem h2]
  rfl
end Nz
namespace Nz
open PySem PySem.Spec PyProof.Rows L2
end Nz
namespace Nz
open PySem PySem.Spec PyProof.Rows L2
def Le (S S' : Nz.S) : Prop := Fg S.ρ S'.ρ ∧ S'.L = S.L
theorem fg_refl : ∀ ρ : List (Option Ce), Fg ρ ρ
  | [] => trivial
  | _ :: r => ⟨.inr rfl, fg_refl r⟩
theorem Le.refl {S : Nz.S} : Le S S := ⟨fg_refl _, rfl⟩
theorem Le.of {S S' : Nz.S} (h : S = S') : Le S S' := h ▸ Le.refl
theorem Rel.le {K : Frag} {mg : Mg} {B : Bd} {F : Hp} {α : Nat → Addr} {H : Hp} {σ : L2.St} {S S' : Nz.S} (R : Rel K mg B F α H σ S) (h : Le S S') : Rel K mg B F α H σ S' := by
  obtain ⟨ρ', L'⟩ := S'
  obtain ⟨h1, h2⟩ := h
  have h2 : L' = S.L := h2
  subst h2
  exact ⟨R.sub, R.bF, R.nF, R.frame, R.nd, R.inj, R.live, R.slots.fg h1, R.fix⟩
def loopS (st : Nat → Nz.S) (P : Nat → Prop) (K : Out → Prop) (i : Nat) : Out → Prop
  | .nx S => Le S (st (i + 1)) ∧ P (i + 1)
  | .ct S => Le S (st (i + 1)) ∧ P (i + 1)
  | .bk S => K (.nx S)
  | .ret c S => K (.ret c S)
section
variable {X : Cx} {B : Bd} {S S1 S2 S3 : Nz.S} {tg a b c e : Expr} {es : List Expr} {pos p q p2 : Pos} {K : Out → Prop} {body : List Stmt}
theorem ex_forT {τ : Type} {ys : List τ} {enc : τ → D} (hp : PassesOwn (model X.prog X.w) X.A X.env X.xe) (hc : X.calm = true) (st : Nat → Nz.S) (P : Nat → Prop) (hsrc : Src X B tg e S (ys.map enc) S1) (h0 : Le S1 (st 0)) (p0 : P 0)
    (hs : ∀ i y, ys[i]? = some y → P i → ∃ S2, Eg X B tg (.fr (enc y)) (st i) S2 ∧ Exs X B body S2 (loopS st P K i)) (hd : P ys.length → K (.nx (st ys.length))) (hf : ∀ x, foldedSetIterable e X.env x = pure x := by intro _; rfl) : Ex X B (.For tg e body [] pos) S K :=
  fun F α H σ D R o => wS.of (ps_for hp hc pi_w pg_w pss_w hf) (hsrc F α H σ _ R fun F1 α1 H1 J R1 st1 j => by
    have o1 := o.mono st1.fro
    refine ⟨fun i m σ' H' => m = ys.length - i ∧ i ≤ ys.length ∧ ∃ F' α', RelX X B F' α' H' σ' (st i) ∧ Same F1 F' ∧ P i, ⟨ys.length, by simp, Nat.zero_le _, F1, α1, R1.le h0, Same.refl _, p0⟩, ?_⟩
    rintro i m σ' H' ⟨rfl, hi, F', α', R', sm, q⟩
    by_cases hlt : i < ys.length
    · have e1 : ys[i]? = some ys[i] := by simp [hlt]
      obtain ⟨g, y⟩ := j.go B F' α' H' σ' (st i) i (enc ys[i]) R' sm (by rw [List.getElem?_map, e1]; rfl)
      obtain ⟨S2, hg, hb⟩ := hs i _ e1 q
      refine .inr ⟨g, fun σ2 H2 => ∃ F2 α2, RelX X B F2 α2 H2 σ2 (st (i + 1)) ∧ Same F1 F2 ∧ P (i + 1), fun σ2 H2 ⟨F2, α2, R2, s2, q2⟩ => ⟨ys.length - (i + 1), by omega, rfl, hlt, F2, α2, R2, s2, q2⟩, fun x H2 yy => ?_⟩
      obtain ⟨F2, R2, s2, r2⟩ := y x H2 yy
      refine hg F2 α' H2 σ' x _ R2 r2 fun σ3 F3 H3 R3 s3 => hb F3 α' H3 σ3 _ R3 ?_
      have sall : Same F1 F3 := sm.trans (s2.trans s3)
      refine ⟨fun S4 F4 α4 H4 σ4 k4 R4 s4 => ⟨F4, α4, R4.le k4.1, sall.trans s4, k4.2⟩, fun S4 F4 α4 H4 σ4 k4 R4 s4 => o1.nx S4 F4 α4 H4 σ4 k4 R4 (sall.trans s4), fun S4 F4 α4 H4 σ4 k4 R4 s4 => ⟨F4, α4, R4.le k4.1, sall.trans s4, k4.2⟩,
        fun c S4 F4 α4 H4 σ4 v k4 R4 s4 r4 => o1.ret c S4 F4 α4 H4 σ4 v k4 R4 (sall.trans s4) r4⟩
    · have e1 : i = ys.length := by omega
      subst e1
      exact .inl ⟨j.stop B F' α' H' σ' _ _ R' sm (by rw [List.length_map]; exact Nat.le_refl _), o1.nx _ F' α' H' σ' (hd q) R' sm⟩)
inductive Ix (L : List (Nat × LO)) : Ce → Int → D → Prop
  | l {c : Ce} {ds : List D} {i : Int} {d : D} (h : AsL L c ds) (h2 : atI ds i = some d) : Ix L c i d
  | t {ds : List D} {i : Int} {d : D} (h2 : atI ds i = some d) : Ix L (.fr (.tup ds)) i d
theorem ev_ix {ca : Ce} {i : Int} {d : D} (hx : Ix S2.L ca i d) (ha : Ev X B a S ca S1) (hb : Ev X B b S1 (.fr (.int i)) S2) (hs : PlainIx b := by exact fun _ _ => rfl) (h1 : Sub S.L S1.L := by exact Sub.refl) (h2 : Sub S1.L S2.L := by exact Sub.refl) :
    Ev X B (.Subscript a b pos) S (.fr d) S2 := by
  cases hx with
  | l h h2' => exact ev_ixL ha hb h h2' hs h1 h2
  | t h2' => exact ev_ixT ha hb h2' hs h1 h2
inductive Ln (L : List (Nat × LO)) : Ce → Nat → Prop
  | l {c : Ce} {ds : List D} (h : AsL L c ds) : Ln L c ds.length
  | t {ds : List D} : Ln L (.fr (.tup ds)) ds.length
  | s {z : Str} (h : z.length ≤ sizeLine) : Ln L (.fr (.str z)) z.length
theorem ev_len {ca : Ce} {n : Nat} (hx : Ln S1.L ca n) (ha : Ev X B e S ca S1) (hg : Gl X "len") (hm : X.mg "len" = none) (h1 : Sub S.L S1.L := by exact Sub.refl) (hs : starEach [e] X.env = (false, eval e X.env) :: starEach [] X.env := by rfl) (hpl : (backTo pos (starEach [] X.env)).any (·.1) = false := by rfl) :
    Ev X B (.Call (.Name "len" p) [e] [] pos) S (.fr (.int n)) S1 := by
  cases hx with
  | l h => exact ev_lenL ha h hg hm hs hpl
  | t => exact ev_callB c_lenT (ea_cons ha ea_nil h1 Sub.refl hs) hg hm PySem.boot_len h1 (by decide) (by decide) hs hpl
  | s h => exact ev_callB (c_lenS h) (ea_cons ha ea_nil h1 Sub.refl hs) hg hm PySem.boot_len h1 (by decide) (by decide) hs hpl
end
theorem seq_range {n i y : Nat} (h : (List.range n)[i]? = some y) : i < n ∧ y = i := by
  by_cases hi : i < n
  · rw [List.getElem?_range hi] at h; exact ⟨hi, (Option.some.inj h).symm⟩
  · rw [List.getElem?_eq_none (by simpa using hi)] at h; cases h
theorem take_snoc {τ : Type} {ys : List τ} {i : Nat} {y : τ} (h : ys[i]? = some y) : ys.take (i + 1) = ys.take i ++ [y] := by rw [List.take_succ, h]; rfl
theorem foldl_snoc {τ β : Type} {ys : List τ} {i : Nat} {y : τ} (f : β → τ → β) (b : β) (h : ys[i]? = some y) : (ys.take (i + 1)).foldl f b = f ((ys.take i).foldl f b) y := by rw [take_snoc h, List.foldl_append]; rfl
end Nz
namespace Nz
open PySem PySem.Spec PyProof.Rows L2
abbrev eL {τ : Type} (e : τ → D) (xs : List τ) : D := .lst (xs.map e)
abbrev eU {τ : Type} (e : τ → D) (xs : List τ) : D := .tup (xs.map e)
abbrev eT2 {τ μ : Type} (e : τ → D) (f : μ → D) (p : τ × μ) : D := .tup [e p.1, f p.2]
section
variable {X : Cx} {B : Bd} {S S1 S2 S3 : Nz.S} {tg a b c e : Expr} {es : List Expr} {pos p q p2 : Pos} {K : Out → Prop} {τ : Type} {enc : τ → D}
theorem o_catT {xs ys : List τ} (hz : xs.length + ys.length ≤ sizeLine) : Op2 X (binaryOp .Add) (eL enc xs) (eL enc ys) (eL enc (xs ++ ys)) := by
  have h := o_cat (X := X) (xs := xs.map enc) (ys := ys.map enc) (by simpa using hz)
  rwa [← List.map_append] at h
theorem ix_L [Inhabited τ] {L : List (Nat × LO)} {xs : List τ} {c : Ce} {i : Int} (h : AsL L c (xs.map enc)) (h0 : 0 ≤ i) (h1 : i < xs.length) : Ix L c i (enc (xs.getD i.toNat default)) := .l h (at_map h0 h1)
theorem ln_L {L : List (Nat × LO)} {xs : List τ} {c : Ce} (h : AsL L c (xs.map enc)) : Ln L c xs.length := by
  have := Ln.l h
  rwa [List.length_map] at this
theorem ln_U {L : List (Nat × LO)} {xs : List τ} : Ln L (.fr (eU enc xs)) xs.length := by
  have := Ln.t (L := L) (ds := xs.map enc)
  rwa [List.length_map] at this
theorem ev_sliceT {ca : Ce} {xs : List τ} {lo hi : Option Expr} {ol oh : Option Int} (hl : AsL S1.L ca (xs.map enc)) (ha : Ev X B a S ca S1) (h1 : Eo X B lo S1 ol) (h2 : Eo X B hi S1 oh) (hS : Sub S.L S1.L := by exact Sub.refl) : Ev X B (.Subscript a (.Slice lo hi none p2) pos) S (.fr (eL enc (slcD xs ol oh))) S1 := by
  have := ev_sliceL (pos := pos) (p2 := p2) ha h1 h2 hl hS
  rwa [slcD_map] at this
/-- [..] that lives, by its data -/
theorem ev_lstN (n : Nat) (xs : List τ) {ds : List D} (h : Ea X B es S (ds.map Ce.fr) S1) (hd : ds = xs.map enc) (hz : xs.length ≤ sizeLine) (hn : n ∉ names S1.L) (h100 : 100 ≤ n) (h1 : Sub S.L S1.L := by exact Sub.refl) : Ev X B (.List es pos) S (.ad n) ⟨S1.ρ, S1.L ++ [(n, .fl (xs.map enc))]⟩ := by
  subst hd
  exact ev_lstL n h (by rw [List.length_map]; exact hz) hn h100 h1
theorem ev_appendT {n : Nat} {o : Expr} {apos : Pos} {xs xs0 : List τ} (x : τ) {d : D} (hd : d = enc x) (hn : getL n S1.L = some (.fl (xs.map enc))) (hn0 : getL n S.L = some (.fl (xs0.map enc))) (hz : xs.length < sizeLine) (ho : Ev X B o S (.ad n) S) (ha : Ev X B e S (.fr d) S1) (h1 : Sub S.L S1.L := by exact Sub.refl)
    (hbase : attributeBase o "append" X.env (eval o X.env) = eval o X.env := by rfl)
    (hfew : ((backTo pos (starEach (e :: []) X.env)).all (fun x => !x.1) && (backToKw pos (keywordEach [] X.env)).all (fun x => x.1.isSome)
      && decide ((e :: ([] : List Expr)).length + ([] : List Keyword).length + (if ([] : List Keyword).isEmpty then 0 else 1) < 30)) = true := by rfl)
    (hline : (apos.endLine == pos.line) = true := by rfl) (hs : starEach (e :: []) X.env = (false, eval e X.env) :: starEach [] X.env := by rfl) (hplain : (backTo pos (starEach [] X.env)).any (·.1) = false := by rfl) :
    Ev X B (.Call (.Attribute o "append" apos) [e] [] pos) S (.fr .non) ⟨S1.ρ, setL n (.fl ((xs ++ [x]).map enc)) S1.L⟩ := by
  subst hd
  have := ev_append (pos := pos) (apos := apos) ho ha hn hn0 (by rw [List.length_map]; exact hz) h1 hbase hfew hline hs hplain
  rwa [show xs.map enc ++ [enc x] = (xs ++ [x]).map enc by simp] at this
theorem c_listL {xs : List τ} : Cb X (.type "list") [eL enc xs] (eL enc xs) := c_list
theorem src_listT {xs : List τ} (h : Ev X B e S (.fr (eL enc xs)) S1) : Src X B tg e S (xs.map enc) S1 := src_list h
theorem exs_freezeT {sts : List Stmt} (n : Nat) {xs : List τ} (hn : getL n S.L = some (.fl (xs.map enc))) (h : Exs X B sts (frS n (eL enc xs) S) K) : Exs X B sts S K := exs_freeze n hn h
/-- an if that only stores: its two ends are one state -/
theorem ex_join {st : Stmt} (Sj : Nz.S) (h : Ex X B st S fun o => ∃ S', o = .nx S' ∧ Le S' Sj) (k : K (.nx Sj)) : Ex X B st S K := fun F α H σ D R o => h F α H σ D R
  ⟨fun S' F' α' H' σ' k' R' s' => (by
      obtain ⟨S2, e1, e2⟩ := k'
      cases e1
      exact o.nx Sj F' α' H' σ' k (R'.le e2) s'),
    fun S' F' α' H' σ' k' R' s' => (by obtain ⟨_, e1, _⟩ := k'; cases e1), fun S' F' α' H' σ' k' R' s' => (by obtain ⟨_, e1, _⟩ := k'; cases e1), fun c S' F' α' H' σ' v k' R' s' r => (by obtain ⟨_, e1, _⟩ := k'; cases e1)⟩
end
theorem PassesOwn.nox {P : Program} {w : World} {A : Around} {env : Env} : PassesOwn (model P w) A env (fun _ _ => False) := PassesOwn.never
end Nz
namespace Nz
open PySem PySem.Spec PyProof.Rows L2
theorem lm_map {τ μ : Type} (ys : List τ) (g : τ → μ) (enc2 : μ → D) : ((ys.filter fun _ => true).map fun y => enc2 (g y)) = (ys.map g).map enc2 := by
  rw [List.filter_eq_self.mpr (fun _ _ => rfl), List.map_map]; rfl
theorem bd_d {p : Prop} [Decidable p] : decide p = true ↔ p := decide_eq_true_iff
theorem bd_and {a b : Bool} {p q : Prop} (h1 : a = true ↔ p) (h2 : b = true ↔ q) : (a && b) = true ↔ (p ∧ q) := by rw [Bool.and_eq_true, h1, h2]
theorem bd_or {a b : Bool} {p q : Prop} (h1 : a = true ↔ p) (h2 : b = true ↔ q) : (a || b) = true ↔ (p ∨ q) := by rw [Bool.or_eq_true, h1, h2]
theorem bd_not {a : Bool} {p : Prop} (h1 : a = true ↔ p) : (!a) = true ↔ ¬ p := by rw [← h1]; cases a <;> simp
theorem bd_n {p : Prop} [Decidable p] : (!decide p) = true ↔ ¬ p := bd_not bd_d
section
variable {X : Cx} {B : Bd} {S S1 S2 S3 : Nz.S} {tg a b c e : Expr} {es : List Expr} {pos p q p2 : Pos} {K : Out → Prop} {body els : List Stmt}
theorem ex_ifP {i : Bool} {P : Prop} (h : i = true ↔ P) (ht : Et X B e S i S1) (ha : P → Exs X B body S1 K) (hb : ¬ P → Exs X B els S1 K) : Ex X B (.If e body els pos) S K :=
  ex_if ht (fun z => ha (h.mp z)) fun z => hb fun w => by rw [h.mpr w] at z; cases z
theorem ev_andP {i j : Bool} {P : Prop} (h : i = true ↔ P) (ha : Ev X B a S (.fr (.bl i)) S) (hb : P → Ev X B (.BoolOp .And (b :: es) pos) S (.fr (.bl j)) S) : Ev X B (.BoolOp .And (a :: b :: es) pos) S (.fr (.bl (i && j))) S := ev_and ha fun z => hb (h.mp z)
theorem ew_andP {i j : Bool} {P : Prop} (h : i = true ↔ P) (ha : Et X B a S i S) (hb : P → Ew X B (.BoolOp .And (b :: es) pos) S j) : Ew X B (.BoolOp .And (a :: b :: es) pos) S (i && j) := ew_and ha fun z => hb (h.mp z)
theorem ew_orP {i j : Bool} {P : Prop} (h : i = true ↔ P) (ha : Et X B a S i S) (hb : ¬ P → Ew X B (.BoolOp .Or (b :: es) pos) S j) : Ew X B (.BoolOp .Or (a :: b :: es) pos) S (i || j) := ew_or ha fun z => hb fun w => by rw [h.mpr w] at z; cases z
/-- .. as a test -/
theorem et_chain {op op' : CmpOp} {d1 d2 d3 : D} {i j : Bool} {P : Prop} (h : i = true ↔ P) (ho : Op2 X (compareOp op) d1 d2 (.bl i)) (ho' : Op2 X (compareOp op') d2 d3 (.bl j)) (ha : Ev X B a S (.fr d1) S) (hb : Ev X B b S (.fr d2) S) (hc : P → Ev X B c S (.fr d3) S)
    (hm : lastMarks [op, op'] [b, c] = false := by with_unfolding_all rfl) : Et X B (.Compare a [op, op'] [b, c] pos) S (i && j) S := fun F α H σ Q R k => by
  intro pins s I
  refine isTrue_chain (thn (ha F α H σ _ R (fun F1 α1 v1 H1 R1 st1 r1 => hb F1 α1 H1 σ (fun v2 H2 => ∃ F2 α2, RelX X B F2 α2 H2 σ S ∧ Stp F α S.L F2 α2 ∧ Rep X.K X.mg F2 d1 v1 ∧ Rep X.K X.mg F2 d2 v2) R1 fun F2 α2 v2 H2 R2 st2 r2 => ⟨F2, α2, R2, st1.trans st2 Sub.refl, Rep.mono st2.fro r1, r2⟩) pins s I)
    fun v s1 ⟨x, H1, I1, rv, q1⟩ => test_link (thn (q1 pins s1 I1) fun u s2 ⟨y, H2, I2, ru, F2, α2, R2, st, r1, r2⟩ =>
    thn (ho B F2 α2 H2 σ S (fun v' H' => ∃ F3 α3, v' = .bl i ∧ RelX X B F3 α3 H' σ S ∧ Stp F2 α2 S.L F3 α3) x y R2 r1 r2 (fun F3 α3 v' H3 R3 st3 r3 => by cases r3; exact ⟨F3, α3, rfl, R3, st3⟩) pins s2 v u I2 rv ru) fun d s3 ⟨z, H3, I3, r3, F3, α3, e, R3, st3⟩ => ?_)) hm
  subst e
  cases r3
  refine wpAny_truthy_bool ?_
  have stA : Stp F α S.L F3 α3 := st.trans st3 Sub.refl
  cases i with
  | false => exact ite_ff ⟨H3, I3, by simpa using k F3 α3 H3 R3 stA⟩
  | true =>
    refine ite_tt (test_last (thn (hc (h.mp rfl) F3 α3 H3 σ (fun v3 H4 => ∃ F4 α4, RelX X B F4 α4 H4 σ S ∧ Stp F α S.L F4 α4 ∧ Rep X.K X.mg F4 d2 y ∧ Rep X.K X.mg F4 d3 v3) R3 (fun F4 α4 v4 H4 R4 st4 r4 => ⟨F4, α4, R4, stA.trans st4 Sub.refl, Rep.mono (st3.fro.trans st4.fro) r2, r4⟩) pins s3 I3)
      fun w' s4 ⟨z', H4, I4, r4, F4, α4, R4, st4, q2, q3⟩ => thn (ho' B F4 α4 H4 σ S (fun v' H' => v' = .bl j ∧ ∃ F5 α5, RelX X B F5 α5 H' σ S ∧ Stp F4 α4 S.L F5 α5) y z' R4 q2 q3 (fun F5 α5 v5 H5 R5 st5 r5 => by cases r5; exact ⟨rfl, F5, α5, R5, st5⟩) pins s4 u w' I4 ru r4) fun d' s5 ⟨z2, H5, I5, r5, e2, F5, α5, R5, st5⟩ => ?_))
    subst e2
    cases r5
    exact wpAny_truthy_bool ⟨H5, I5, by simpa using k F5 α5 H5 R5 (st4.trans st5 Sub.refl)⟩
variable {elt iter : Expr} {ifs : List Expr} {scope : Scope} {own : List (Str × Nat)} {τ μ : Type} {ys : List τ} {enc : τ → D} {enc2 : μ → D}
/-- [g y for y in ys], typed -/
theorem ev_lcM (nD : Nat) (g : τ → μ) (Sx : Nat → τ → List D → Nz.S) (hc : X.calm = true) (hN : X.N.Nodup) (ok : BlkOk X.N X.env.scope scope own)
    (hsrc : Src X B tg iter S (ys.map enc) S1) (hn : nD ∉ names S1.L) (h100 : 100 ≤ nD) (hz : ys.length ≤ sizeLine)
    (hg : ∀ i y acc, ys[i]? = some y → ∀ s H0 C cl fp, EgC (Blk X scope s H0 C cl fp) B tg (.fr (enc y)) ⟨wipeC S1.ρ (own.map (·.2)), S1.L ++ [(nD, .fl acc)]⟩ (Sx i y acc) (own.map (·.2)))
    (he : ∀ i y acc, ys[i]? = some y → ∀ s H0 C cl fp, Ev (Blk X scope s H0 C cl fp) B elt (Sx i y acc) (.fr (enc2 (g y))) (Sx i y acc)) (hL : ∀ i y acc, (Sx i y acc).L = S1.L ++ [(nD, .fl acc)] := by exact fun _ _ _ => rfl) (hS : Sub S.L S1.L := by exact Sub.refl) (hs : ∀ x, foldedSetIterable iter X.env x = pure x := by intro _; rfl) :
    Ev X B (.ListComp elt [⟨tg, iter, [], 0⟩] scope pos) S (.fr (eL enc2 (ys.map g))) S1 := by
  have := ev_lc (pos := pos) nD ys enc (fun y => enc2 (g y)) (fun _ => true) Sx hc hN ok hsrc hn h100 hz hL hg (fun _ _ _ _ _ _ _ _ _ => ets_nil) (fun i y acc h1 _ => he i y acc h1) hS hs
  rwa [lm_map] at this
theorem ex_setLcM (i : Nat) {y : Str} {py spos : Pos} (nD : Nat) (g : τ → μ) (Sx : Nat → τ → List D → Nz.S) (hc : X.calm = true) (hN : X.N.Nodup) (hy : X.N[i]? = some y) (hyl : X.env.scope.names.lookup y = some .local)
    (hsw : swapsWith (.ListComp elt [⟨tg, iter, [], 0⟩] scope pos) (some (.Name y py)) spos.line X.env = pure true) (ok : BlkOk X.N X.env.scope scope own)
    (hsrc : Src X B tg iter S (ys.map enc) S1) (hn : nD ∉ names S1.L) (h100 : 100 ≤ nD) (hz : ys.length ≤ sizeLine)
    (hg : ∀ i y acc, ys[i]? = some y → ∀ s H0 C cl fp, EgC (Blk X scope s H0 C cl fp) B tg (.fr (enc y)) ⟨wipeC S1.ρ (own.map (·.2)), S1.L ++ [(nD, .fl acc)]⟩ (Sx i y acc) (own.map (·.2)))
    (he : ∀ i y acc, ys[i]? = some y → ∀ s H0 C cl fp, Ev (Blk X scope s H0 C cl fp) B elt (Sx i y acc) (.fr (enc2 (g y))) (Sx i y acc))
    (k : K (.nx (setS S1 i (.fr (eL enc2 (ys.map g)))))) (hL : ∀ i y acc, (Sx i y acc).L = S1.L ++ [(nD, .fl acc)] := by exact fun _ _ _ => rfl) (hS : Sub S.L S1.L := by exact Sub.refl) (hs : ∀ x, foldedSetIterable iter X.env x = pure x := by intro _; rfl) :
    Ex X B (.Assign [.Name y py] (.ListComp elt [⟨tg, iter, [], 0⟩] scope pos) spos) S K :=
  ex_setLc i nD ys enc (fun y => enc2 (g y)) (fun _ => true) Sx hc hN hy hyl hsw ok hsrc hn h100 hz hL hg (fun _ _ _ _ _ _ _ _ _ => ets_nil) (fun i y acc h1 _ => he i y acc h1) (by
    rw [lm_map]; exact k) hS hs
end
end Nz
namespace Nz
open PySem PySem.Spec PyProof.Rows L2
def loopF (Sn : Nz.S) (q : Prop) : Out → Prop
  | .nx S => Le S Sn ∧ q
  | .ct S => Le S Sn ∧ q
  | _ => False
def runE {τ σ ρ : Type} (step : σ → τ → Except ρ σ) : List τ → σ → Except ρ σ
  | [], s => .ok s
  | y :: ys, s => match step s y with
    | .error r => .error r
    | .ok s' => runE step ys s'
def loopE {σ ρ : Type} (stF : σ → Nz.S) (o : Except ρ σ) (Q : σ → Prop) (R : ρ → Ce → Nz.S → Prop) : Out → Prop
  | .nx S => ∃ s', o = .ok s' ∧ Le S (stF s') ∧ Q s'
  | .ct S => ∃ s', o = .ok s' ∧ Le S (stF s') ∧ Q s'
  | .ret c S => ∃ r, o = .error r ∧ R r c S
  | _ => False
section
variable {X : Cx} {B : Bd} {S S1 S2 S3 : Nz.S} {tg a b c e : Expr} {es : List Expr} {pos p q p2 : Pos} {K : Out → Prop} {body : List Stmt} {τ σ ρ : Type} {ys : List τ} {enc : τ → D}
theorem take_foldl {step : σ → τ → σ} {s0 : σ} {i : Nat} {y : τ} (h : ys[i]? = some y) : (ys.take (i + 1)).foldl step s0 = step ((ys.take i).foldl step s0) y := foldl_snoc step s0 h
theorem ex_forF (stF : σ → Nz.S) (step : σ → τ → σ) (s0 : σ) (Q : Nat → σ → Prop) (hsrc : Src X B tg e S (ys.map enc) S1) (h0 : Le S1 (stF s0)) (q0 : Q 0 s0)
    (hs : ∀ i y s, ys[i]? = some y → Q i s → ∃ S2, Eg X B tg (.fr (enc y)) (stF s) S2 ∧ Exs X B body S2 (loopF (stF (step s y)) (Q (i + 1) (step s y)))) (hd : Q ys.length (ys.foldl step s0) → K (.nx (stF (ys.foldl step s0))))
    (hp : PassesOwn (model X.prog X.w) X.A X.env X.xe) (hc : X.calm = true) (hf : ∀ x, foldedSetIterable e X.env x = pure x := by intro _; rfl) : Ex X B (.For tg e body [] pos) S K := by
  refine ex_forT hp hc (fun i => stF ((ys.take i).foldl step s0)) (fun i => Q i ((ys.take i).foldl step s0)) hsrc h0 q0 (fun i y hy hP => ?_) (fun hP => ?_) hf
  · obtain ⟨S2, h1, h2⟩ := hs i y _ hy hP
    refine ⟨S2, h1, h2.mono fun o ho => ?_⟩
    cases o with
    | nx S => show Le S (stF ((ys.take (i + 1)).foldl step s0)) ∧ Q (i + 1) ((ys.take (i + 1)).foldl step s0); rw [take_foldl hy]; exact ho
    | ct S => show Le S (stF ((ys.take (i + 1)).foldl step s0)) ∧ Q (i + 1) ((ys.take (i + 1)).foldl step s0); rw [take_foldl hy]; exact ho
    | bk S => exact False.elim ho
    | ret c S => exact False.elim ho
  · rw [List.take_length] at hP ⊢
    exact hd hP
theorem runE_cons {step : σ → τ → Except ρ σ} {x : τ} {xs : List τ} {s : σ} : runE step (x :: xs) s = (match step s x with | .error r => Except.error r | .ok s' => runE step xs s') := rfl
theorem runE_append {step : σ → τ → Except ρ σ} : ∀ {xs ys : List τ} {s : σ}, runE step (xs ++ ys) s = (match runE step xs s with | .error r => .error r | .ok s' => runE step ys s')
  | [], _, _ => rfl
  | x :: xs, ys, s => by
    rw [List.cons_append, runE_cons, runE_cons]
    cases step s x with
    | error r => rfl
    | ok s' => exact runE_append
theorem runE_split {step : σ → τ → Except ρ σ} {i : Nat} {y : τ} {s0 s : σ} (h : ys[i]? = some y) (hs : runE step (ys.take i) s0 = .ok s) : runE step (ys.take (i + 1)) s0 = step s y := by
  rw [take_snoc h, runE_append, hs]
  show runE step [y] s = step s y
  unfold runE
  cases step s y <;> rfl
theorem runE_err {step : σ → τ → Except ρ σ} {i : Nat} {y : τ} {s0 s : σ} {r : ρ} (h : ys[i]? = some y) (hs : runE step (ys.take i) s0 = .ok s) (hr : step s y = .error r) : runE step ys s0 = .error r := by
  have e : ys = ys.take (i + 1) ++ ys.drop (i + 1) := (List.take_append_drop _ _).symm
  rw [e, runE_append, runE_split h hs, hr]
/-- a loop that may return -/
theorem ex_forE (stF : σ → Nz.S) (step : σ → τ → Except ρ σ) (s0 : σ) (Q : Nat → σ → Prop) (R : ρ → Ce → Nz.S → Prop) (hsrc : Src X B tg e S (ys.map enc) S1) (h0 : Le S1 (stF s0)) (q0 : Q 0 s0)
    (hs : ∀ i y s, ys[i]? = some y → runE step (ys.take i) s0 = .ok s → Q i s → ∃ S2, Eg X B tg (.fr (enc y)) (stF s) S2 ∧ Exs X B body S2 (loopE stF (step s y) (Q (i + 1)) R))
    (hr : ∀ r c S', runE step ys s0 = .error r → R r c S' → K (.ret c S')) (hd : ∀ s, runE step ys s0 = .ok s → Q ys.length s → K (.nx (stF s)))
    (hp : PassesOwn (model X.prog X.w) X.A X.env X.xe) (hc : X.calm = true) (hf : ∀ x, foldedSetIterable e X.env x = pure x := by intro _; rfl) : Ex X B (.For tg e body [] pos) S K := by
  let sI : Nat → σ := fun i => match runE step (ys.take i) s0 with | .ok s => s | .error _ => s0
  refine ex_forT hp hc (fun i => stF (sI i)) (fun i => runE step (ys.take i) s0 = .ok (sI i) ∧ Q i (sI i)) hsrc h0 ⟨rfl, q0⟩ (fun i y hy hP => ?_) (fun hP => ?_) hf
  · obtain ⟨S2, h1, h2⟩ := hs i y _ hy hP.1 hP.2
    refine ⟨S2, h1, h2.mono fun o ho => ?_⟩
    have nx : ∀ s', step (sI i) y = .ok s' → sI (i + 1) = s' ∧ runE step (ys.take (i + 1)) s0 = .ok s' := fun s' e => by
      have := runE_split hy hP.1
      rw [e] at this
      refine ⟨?_, this⟩
      show (match runE step (ys.take (i + 1)) s0 with | .ok s => s | .error _ => s0) = s'
      rw [this]
    cases o with
    | nx S =>
      obtain ⟨s', e, l, q⟩ := ho
      obtain ⟨e1, e2⟩ := nx s' e
      show Le S (stF (sI (i + 1))) ∧ runE step (ys.take (i + 1)) s0 = .ok (sI (i + 1)) ∧ Q (i + 1) (sI (i + 1))
      rw [e1]; exact ⟨l, e2, q⟩
    | ct S =>
      obtain ⟨s', e, l, q⟩ := ho
      obtain ⟨e1, e2⟩ := nx s' e
      show Le S (stF (sI (i + 1))) ∧ runE step (ys.take (i + 1)) s0 = .ok (sI (i + 1)) ∧ Q (i + 1) (sI (i + 1))
      rw [e1]; exact ⟨l, e2, q⟩
    | bk S => exact False.elim ho
    | ret c S =>
      obtain ⟨r, e, l⟩ := ho
      exact hr r c S (runE_err hy hP.1 e) l
  · obtain ⟨h1, h2⟩ := hP
    rw [List.take_length] at h1
    exact hd _ h1 h2
end
end Nz
namespace Nz
open PySem PySem.Spec PyProof.Rows L2
section
variable {X : Cx} {B : Bd} {S S1 : Nz.S} {es : List Expr} {pos : Pos} {τ : Type} {enc : τ → D}
theorem ev_lstF (xs : List τ) {ds : List D} (h : Ea X B es S (ds.map Ce.fr) S1) (hd : ds = xs.map enc) (hz : xs.length ≤ sizeLine) : Ev X B (.List es pos) S (.fr (eL enc xs)) S1 := by
  subst hd
  exact ev_lst h (by rw [List.length_map]; exact hz)
end
end Nz
namespace Nz
open PySem PySem.Spec PyProof.Rows L2
mutual
def toP : D → PyData
  | .non => .none
  | .bl b => .bool b
  | .int i => .int i
  | .str s => .str s
  | .tup xs => .tuple (toPs xs)
  | .lst xs => .list (toPs xs)
  | .obj _ _ => .none
  | .dK _ => .none
  | .dT _ => .none
def toPs : List D → List PyData
  | [] => []
  | x :: xs => toP x :: toPs xs
end
mutual
def dataOk : D → Bool
  | .obj _ _ => false
  | .dK _ => false
  | .dT _ => false
  | .tup xs => datasOk xs
  | .lst xs => datasOk xs
  | _ => true
def datasOk : List D → Bool
  | [] => true
  | x :: xs => dataOk x && datasOk xs
end
mutual
theorem plain_toP : ∀ d : D, (toP d).plain = true
  | .non => rfl
  | .bl b => rfl
  | .int i => rfl
  | .str s => rfl
  | .tup xs => by simp only [toP, PyData.plain]; exact plain_toPs xs
  | .lst xs => by simp only [toP, PyData.plain]; exact plain_toPs xs
  | .obj _ _ => rfl
  | .dK _ => rfl
  | .dT _ => rfl
theorem plain_toPs : ∀ ds : List D, PyData.plainAll (toPs ds) = true
  | [] => rfl
  | x :: xs => by simp only [toPs, PyData.plainAll, plain_toP x, plain_toPs xs, Bool.and_self]
end
section
variable {K : Frag} {mg : Mg} {F H : Hp}
mutual
theorem dp_of (s : Same F H) : ∀ (d : D) (v : V), Rep K mg F d v → dataOk d = true → Dp K H v (toP d)
  | .non, _, r, h => by cases r; exact .non
  | .bl b, _, r, h => by cases r; exact .bl b
  | .int i, _, r, h => by cases r; exact .int i
  | .str z, _, r, h => by cases r; exact .str z
  | .tup xs, _, r, h => by
    cases r with
    | tup h1 h2 => exact .tup (s.seqT h1) (dps_of s xs _ h2 (by simpa [dataOk] using h))
  | .lst xs, _, r, h => by
    cases r with
    | lst h1 h2 => exact .lst (s.seq h1) (dps_of s xs _ h2 (by simpa [dataOk] using h))
  | .obj _ _, _, r, h => by simp [dataOk] at h
  | .dK _, _, r, h => by simp [dataOk] at h
  | .dT _, _, r, h => by simp [dataOk] at h
theorem dps_of (s : Same F H) : ∀ (ds : List D) (vs : List V), Reps K mg F ds vs → datasOk ds = true → DpAll K H vs (toPs ds)
  | [], _, r, h => by cases r; exact .nil
  | x :: xs, _, r, h => by
    cases r with
    | cons h1 h2 =>
      simp only [datasOk, Bool.and_eq_true] at h
      exact .cons (dp_of s x _ h1 h.1) (dps_of s xs _ h2 h.2)
end
end
/-- an encoding that == reads as = -/
structure EqEnc {τ : Type} [DecidableEq τ] (n : Nat) (e : τ → D) : Prop where
  ok : ∀ x, dataOk (e x) = true
  eqv : ∀ x y, PyData.eqv (toP (e x)) (toP (e y)) = decide (x = y)
  dep : ∀ x, (toP (e x)).depth ≤ n
theorem ee_int : EqEnc 0 D.int := ⟨fun _ => rfl, fun x y => by simp only [toP, PyData.eqv]; rw [Bool.eq_iff_iff]; simp, fun _ => Nat.zero_le _⟩
theorem ee_bool : EqEnc 0 D.bl := ⟨fun _ => rfl, fun x y => by simp only [toP, PyData.eqv]; rw [Bool.eq_iff_iff]; simp, fun _ => Nat.zero_le _⟩
section
variable {τ μ ν κ ι : Type} [DecidableEq τ] [DecidableEq μ] [DecidableEq ν] [DecidableEq κ] [DecidableEq ι] {a b c d f n : Nat} {e : τ → D} {e2 : μ → D} {e3 : ν → D} {e4 : κ → D} {e5 : ι → D}
theorem ees_ok (h : EqEnc n e) : ∀ xs : List τ, datasOk (xs.map e) = true
  | [] => rfl
  | x :: xs => by simp only [List.map_cons, datasOk, h.ok, ees_ok h xs, Bool.and_self]
theorem ees_eqv (h : EqEnc n e) : ∀ xs ys : List τ, PyData.eqvAll (toPs (xs.map e)) (toPs (ys.map e)) = decide (xs = ys)
  | [], [] => by simp [toPs, PyData.eqvAll]
  | [], _ :: _ => by simp [toPs, PyData.eqvAll]
  | _ :: _, [] => by simp [toPs, PyData.eqvAll]
  | x :: xs, y :: ys => by
    simp only [List.map_cons, toPs, PyData.eqvAll, h.eqv, ees_eqv h xs ys]
    rw [Bool.eq_iff_iff]; simp
theorem ees_dep (h : EqEnc n e) : ∀ xs : List τ, PyData.depthAll (toPs (xs.map e)) ≤ n
  | [] => by simp [toPs, PyData.depthAll]
  | x :: xs => by
    simp only [List.map_cons, toPs, PyData.depthAll]
    have h1 := h.dep x
    have h2 := ees_dep h xs
    omega
theorem ee_L (h : EqEnc n e) : EqEnc (n + 1) (eL e) := ⟨fun xs => by simp only [dataOk]; exact ees_ok h xs, fun xs ys => by simp only [toP, PyData.eqv]; exact ees_eqv h xs ys, fun xs => by simp only [toP, PyData.depth]; have := ees_dep h xs; omega⟩
variable {X : Cx}
theorem o_eqD (hu : X.A.units + 64 < cLine) (h : EqEnc n e) {x y : τ} (hn : n ≤ 60 := by decide) : Op2 X (compareOp .Eq) (e x) (e y) (.bl (decide (x = y))) :=
  fun B F α H σ S Q v1 v2 R r1 r2 k pins s u1 u2 I q1 q2 => by
    obtain ⟨as, ra⟩ := Dp.reads I _ _ _ (dp_of R.sub _ _ r1 (h.ok x)) q1
    obtain ⟨bs, rb⟩ := Dp.reads I _ _ _ (dp_of R.sub _ _ r2 (h.ok y)) q2
    refine PySem.SeqAt.eq_plain ra rb (plain_toP _) (plain_toP _) ?_ ?_
    · have := h.dep x; have := Nat.min_le_left (toP (e x)).depth (toP (e y)).depth; omega
    · rw [h.eqv]; exact ⟨.bl _, H, I, rfl, k F α _ H R Stp.refl (.bl _)⟩
theorem o_neD (hu : X.A.units + 64 < cLine) (h : EqEnc n e) {x y : τ} (hn : n ≤ 60 := by decide) : Op2 X (compareOp .NotEq) (e x) (e y) (.bl (!decide (x = y))) :=
  fun B F α H σ S Q v1 v2 R r1 r2 k pins s u1 u2 I q1 q2 => by
    obtain ⟨as, ra⟩ := Dp.reads I _ _ _ (dp_of R.sub _ _ r1 (h.ok x)) q1
    obtain ⟨bs, rb⟩ := Dp.reads I _ _ _ (dp_of R.sub _ _ r2 (h.ok y)) q2
    refine PySem.SeqAt.ne_plain ra rb (plain_toP _) (plain_toP _) ?_ ?_
    · have := h.dep x; have := Nat.min_le_left (toP (e x)).depth (toP (e y)).depth; omega
    · rw [h.eqv]; exact ⟨.bl _, H, I, rfl, k F α _ H R Stp.refl (.bl _)⟩
theorem toPs_any (h : EqEnc n e) (x : τ) : ∀ ys : List τ, ((toPs (ys.map e)).any fun y => PyData.eqv y (toP (e x))) = decide (x ∈ ys)
  | [] => by simp [toPs]
  | y :: ys => by
    rw [List.map_cons]
    show (PyData.eqv (toP (e y)) (toP (e x)) || (toPs (ys.map e)).any fun y => PyData.eqv y (toP (e x))) = _
    rw [h.eqv, toPs_any h x ys, Bool.eq_iff_iff, Bool.or_eq_true, decide_eq_true_iff, decide_eq_true_iff, decide_eq_true_iff, List.mem_cons]
    exact or_congr eq_comm Iff.rfl
theorem o_inL (hu : X.A.units + 64 < cLine) (h : EqEnc n e) {x : τ} {ys : List τ} (hn : n ≤ 60 := by decide) : Op2 X (compareOp .In) (e x) (eL e ys) (.bl (decide (x ∈ ys))) :=
  fun B F α H σ S Q v1 v2 R r1 r2 k pins s u1 u2 I q1 q2 => by
    obtain ⟨as, ra⟩ := Dp.reads I _ _ _ (dp_of R.sub _ _ r1 (h.ok x)) q1
    obtain ⟨bs, rb⟩ := Dp.reads I _ _ _ (dp_of R.sub _ _ r2 ((ee_L h).ok ys)) q2
    refine PySem.SeqAt.in_list_data (xs := toPs (ys.map e)) rb ra (plain_toPs _) (plain_toP _) ?_ ?_
    · have := h.dep x; have := Nat.min_le_right (PyData.depthAll (toPs (ys.map e))) (toP (e x)).depth; omega
    · rw [toPs_any h]; exact ⟨.bl _, H, I, rfl, k F α _ H R Stp.refl (.bl _)⟩
end
def iterW {σ : Type} (c : σ → Bool) (f : σ → σ) : Nat → σ → σ
  | 0, s => s
  | n + 1, s => if c s = true then iterW c f n (f s) else s
theorem iterW_stop {σ : Type} {c : σ → Bool} {f : σ → σ} {s : σ} (h : c s = false) : ∀ n, iterW c f n s = s
  | 0 => rfl
  | n + 1 => by unfold iterW; rw [h, if_neg Bool.false_ne_true]
section
variable {X : Cx} {B : Bd} {S : Nz.S} {e : Expr} {pos : Pos} {K : Out → Prop} {body : List Stmt} {σ : Type}
theorem ex_whileF (stF : σ → Nz.S) (c : σ → Bool) (f : σ → σ) (s0 : σ) (n : Nat) (Q : σ → Prop) (μ : σ → Nat) (h0 : Le S (stF s0)) (q0 : Q s0) (hn : μ s0 ≤ n) (hm : ∀ s, Q s → c s = true → Q (f s) ∧ μ (f s) < μ s)
    (ht : ∀ s, Q s → Et X B e (stF s) (c s) (stF s)) (hs : ∀ s, Q s → c s = true → Exs X B body (stF s) (loopF (stF (f s)) True))
    (hd : Q (iterW c f n s0) → c (iterW c f n s0) = false → K (.nx (stF (iterW c f n s0)))) (hp : PassesOwn (model X.prog X.w) X.A X.env X.xe) : Ex X B (.While e body [] pos) S K :=
  fun F α H τ D R o => wS.of (ps_while hp pt_w pss_w) (by
    refine ⟨fun m σ' H' => ∃ s k F' α', m = μ s ∧ Q s ∧ μ s ≤ k ∧ iterW c f k s = iterW c f n s0 ∧ RelX X B F' α' H' σ' (stF s) ∧ Same F F', ⟨μ s0, s0, n, F, α, rfl, q0, hn, rfl, R.le h0, Same.refl _⟩, ?_⟩
    rintro m σ' H' ⟨s, k, F', α', rfl, q, hk, he, R', sm⟩
    refine ht s q F' α' H' σ' _ R' fun F1 α1 H1 R1 st1 => ?_
    have sall : Same F F1 := sm.trans st1.fro
    cases hc : c s with
    | true =>
      obtain ⟨q', l⟩ := hm s q hc
      rw [if_pos rfl]
      refine ⟨fun σ2 H2 => ∃ F2 α2, RelX X B F2 α2 H2 σ2 (stF (f s)) ∧ Same F F2, fun σ2 H2 ⟨F2, α2, R2, s2⟩ => ⟨μ (f s), l, f s, k - 1, F2, α2, rfl, q', by omega, ?_, R2, s2⟩, hs s q hc F1 α1 H1 σ' _ R1 ?_⟩
      · rw [← he]
        obtain ⟨k', rfl⟩ : ∃ k', k = k' + 1 := ⟨k - 1, by omega⟩
        show iterW c f k' (f s) = if c s = true then iterW c f k' (f s) else s
        rw [if_pos hc]
      · exact ⟨fun S4 F4 α4 H4 σ4 k4 R4 s4 => ⟨F4, α4, R4.le k4.1, sall.trans s4⟩, fun S4 F4 α4 H4 σ4 k4 R4 s4 => k4.elim, fun S4 F4 α4 H4 σ4 k4 R4 s4 => ⟨F4, α4, R4.le k4.1, sall.trans s4⟩, fun c S4 F4 α4 H4 σ4 v k4 R4 s4 r4 => k4.elim⟩
    | false =>
      rw [if_neg Bool.false_ne_true]
      rw [iterW_stop hc] at he
      exact o.nx _ F1 α1 H1 σ' (by rw [he]; exact hd (by rw [← he]; exact q) (by rw [← he]; exact hc)) R1 sall)
end
end Nz
namespace Nz
open PySem PySem.Spec PyProof.Rows L2
/-- the law's promise in the layer's own words -/
def spTrue (K : Frag) : Sp := fun vs H Q _ => ∃ (a : Addr) (ns : List Int), vs = [.ref a] ∧ SqL K H a (ns.map V.int) ∧ ns.length ≤ 63 ∧ ∀ H', Q (.bl true) H'
theorem spTrue_of {K : Frag} {mg : Mg} {mir : List Int → Bool} (hm : ∀ ns : List Int, ns.length ≤ 63 → mir ns = true) {vs : List V} {H : Hp} {Q : VK} {E : XK} (h : spTrue K vs H Q E) :
    SpOf K mg (fun cs L Kc => ∃ script : List Int, cs = [.fr (eL D.int script)] ∧ L = [] ∧ script.length ≤ 63 ∧ ∀ L', Kc (.fr (D.bl (mir script))) L') vs H Q E := by
  obtain ⟨a, ns, rfl, hs, hl, q⟩ := h
  refine ⟨H, fun _ => 0, [], [.fr (eL D.int ns)], fun _ => False, ⟨Same.refl _, Same.refl _, fun b o e => .inl e, fun b o e _ => e, List.nodup_nil, fun n m h => absurd h (by simp [names]), fun n o h => absurd h (by simp), .so (Rep.lst hs Reps.ints) .nil, fun n a h hn => absurd hn (by simp [names])⟩, ns, rfl, rfl, hl, fun L' F' α' v H' ρ' σ' R' r' => ?_⟩
  rw [hm ns hl] at r'
  cases (show Rep K mg F' (.bl true) v from r')
  exact q H'
end Nz
namespace Nz
open PySem PySem.Spec PyProof.Rows L2
def minL : List Int → Int
  | [] => 0
  | x :: xs => xs.foldl (fun a b => if b < a then b else a) x
def maxL : List Int → Int
  | [] => 0
  | x :: xs => xs.foldl (fun a b => if b > a then b else a) x
theorem foldmin : ∀ (xs : List Int) (a : Int), (xs.foldl (fun a b => if b < a then b else a) a = a ∨ xs.foldl (fun a b => if b < a then b else a) a ∈ xs) ∧ xs.foldl (fun a b => if b < a then b else a) a ≤ a ∧ ∀ y ∈ xs, xs.foldl (fun a b => if b < a then b else a) a ≤ y
  | [], a => ⟨.inl rfl, Int.le_refl _, fun y h => absurd h (by simp)⟩
  | x :: xs, a => by
    rw [List.foldl_cons]
    have ih := foldmin xs (if x < a then x else a)
    refine ⟨?_, ?_, fun y hy => ?_⟩
    · rcases ih.1 with h | h
      · rw [h]; split
        · exact .inr List.mem_cons_self
        · exact .inl rfl
      · exact .inr (List.mem_cons_of_mem _ h)
    · have := ih.2.1; split at this <;> omega
    · rcases List.mem_cons.mp hy with rfl | hy
      · have := ih.2.1; split at this <;> omega
      · exact ih.2.2 y hy
theorem foldmax : ∀ (xs : List Int) (a : Int), (xs.foldl (fun a b => if b > a then b else a) a = a ∨ xs.foldl (fun a b => if b > a then b else a) a ∈ xs) ∧ a ≤ xs.foldl (fun a b => if b > a then b else a) a ∧ ∀ y ∈ xs, y ≤ xs.foldl (fun a b => if b > a then b else a) a
  | [], a => ⟨.inl rfl, Int.le_refl _, fun y h => absurd h (by simp)⟩
  | x :: xs, a => by
    rw [List.foldl_cons]
    have ih := foldmax xs (if x > a then x else a)
    refine ⟨?_, ?_, fun y hy => ?_⟩
    · rcases ih.1 with h | h
      · rw [h]; split
        · exact .inr List.mem_cons_self
        · exact .inl rfl
      · exact .inr (List.mem_cons_of_mem _ h)
    · have := ih.2.1; split at this <;> omega
    · rcases List.mem_cons.mp hy with rfl | hy
      · have := ih.2.1; split at this <;> omega
      · exact ih.2.2 y hy
theorem minL_mem {ns : List Int} (h : ns ≠ []) : minL ns ∈ ns := by
  cases ns with
  | nil => exact absurd rfl h
  | cons x xs =>
    rcases (foldmin xs x).1 with e | e
    · show xs.foldl _ x ∈ _; rw [e]; exact List.mem_cons_self
    · exact List.mem_cons_of_mem _ e
theorem maxL_mem {ns : List Int} (h : ns ≠ []) : maxL ns ∈ ns := by
  cases ns with
  | nil => exact absurd rfl h
  | cons x xs =>
    rcases (foldmax xs x).1 with e | e
    · show xs.foldl _ x ∈ _; rw [e]; exact List.mem_cons_self
    · exact List.mem_cons_of_mem _ e
section
variable {X : Cx} {B : Bd} {S S1 S2 S3 : Nz.S} {tg a b c e : Expr} {es : List Expr} {pos p q p2 : Pos} {d : D} {ds : List D} {x : Str} {id : String} {τ : Type} {enc : τ → D}
/-- a module's name for a built-in function -/
theorem ev_callG (hc : Cb X (.builtin id) ds d) (ha : Ea X B (e :: es) S (ds.map Ce.fr) S1) (hg : Gl X x) (hm : X.mg x = some (.builtin id)) (h1 : Sub S.L S1.L := by exact Sub.refl) (hdb : (x == ("__debug__" : Str)) = false := by decide)
    (he : starEach (e :: es) X.env = (false, eval e X.env) :: starEach es X.env := by rfl) (hpl : (backTo pos (starEach es X.env)).any (·.1) = false := by rfl) : Ev X B (.Call (.Name x p) (e :: es) [] pos) S (.fr d) S1 :=
  fun F α H σ Q R k pins s I => wpAny_Call_Name_kw (ld_glob I hg hm (PyProof.Rows.callWith_builtin1 (thn (ha F α H σ (fun vs H1 => ∃ F1 α1, RelX X B F1 α1 H1 σ S1 ∧ Stp F α S.L F1 α1 ∧ Reps X.K X.mg F1 ds vs) R
    (fun F1 α1 vs H1 R1 st1 r1 => ⟨F1, α1, R1, st1, r1.fr⟩) pos pins s I) fun us s1 ⟨vs, H1, I1, rv, F1, α1, R1, st1, r1⟩ =>
      hc B F1 α1 H1 σ S1 Q vs R1 r1 (fun F' α' v H' R' st' r' => k F' α' v H' R' (st1.trans st' h1) r') pins s1 us I1 rv) he hpl) hdb)
theorem mulW_of {i j : Int} (h : -(2 ^ 900) < i ∧ i < 2 ^ 900 ∧ -(2 ^ 900) < j ∧ j < 2 ^ 900) : CMulW i j :=
  wide_mul (a := 900) (b := 900) (by omega) (by omega) (by decide) (by decide) (by decide)
theorem divW_of {i j : Int} (h : 0 < j ∧ j < 2 ^ 900) : CDivW i j := wide_div (b := 900) h.1 (by omega) (by decide) (by decide)
end
end Nz
namespace Nz
open PySem PySem.Spec PyProof.Rows L2
section
variable {K : Frag} {mg : Mg} {B : Bd} {F F' : Hp} {α : Nat → Addr} {H H' : Hp} {σ : L2.St} {S : Nz.S} {L : List (Nat × LO)} {Q : VK} {E : XK}
theorem CRelF.fr : ∀ {fs : List (Str × D)} {vs : List (Str × V)}, CRelF K mg F α L (fs.map fun p => (p.1, Ce.fr p.2)) vs → RepF K mg F fs vs
  | [], _, .nil => .nil
  | _ :: _, _, .cons h r => .cons h (CRelF.fr r)
end
section
variable {X : Cx} {B : Bd} {S S1 S2 : Nz.S} {a e o : Expr} {es : List Expr} {pos apos p q : Pos} {d d1 : D} {ds : List D} {c f m x : Str} {fs : List (Str × D)} {C g pr : Addr} {fd : FuncData} {ps : List Str} {k : Nat} {sp : SpN}
/-- the fields behind self.f = .. -/
def putC (f : Str) (c : Ce) : List (Str × Ce) → List (Str × Ce)
  | [] => [(f, c)]
  | (g, x) :: r => if g = f then (g, c) :: r else (g, x) :: putC f c r
theorem CRelF.put {K : Frag} {mg : Mg} {F : Hp} {α : Nat → Addr} {L : List (Nat × LO)} {f : Str} {c : Ce} {v : V} (h : CRel K mg F α L c v) : ∀ {fs : List (Str × Ce)} {vs : List (Str × V)}, CRelF K mg F α L fs vs → CRelF K mg F α L (putC f c fs) (putF f v vs)
  | [], _, .nil => .cons h .nil
  | (g, _) :: _, _, .cons r rs => by
    unfold putC putF
    by_cases q : g = f
    · rw [if_pos q, if_pos q]; exact .cons h rs
    · rw [if_neg q, if_neg q]; exact .cons r (rs.put h)
theorem CRelF.len {K : Frag} {mg : Mg} {F : Hp} {α : Nat → Addr} {L : List (Nat × LO)} : ∀ {fs : List (Str × Ce)} {vs : List (Str × V)}, CRelF K mg F α L fs vs → fs.length = vs.length
  | [], _, .nil => rfl
  | _ :: _, _, .cons r rs => congrArg (· + 1) rs.len
end
end Nz
namespace Nz
open PySem PySem.Spec PyProof.Rows L2
open AutoSeq1 (wpAny_loadPart')
open Sem (wp)
end Nz
namespace Nz
open PySem PySem.Spec PyProof.Rows L2
end Nz
namespace Nz
open PySem PySem.Spec PyProof.Rows L2
end Nz
namespace Nz
open PySem PySem.Spec PyProof.Rows L2
def wK (X : Cx) (kws : List Keyword) (σ : L2.St) (H : Hp) (Q : List V → Hp → Prop) : Prop :=
  ∀ pos pins s, Inv X pins σ H s → wpAny (model X.prog X.w) X.A (evalAll ((backToKw pos (keywordEach kws X.env)).map (·.2))) (AP X pins σ Q) X.xe s
theorem wK.of {X : Cx} {kws : List Keyword} {t : TA} (h : PK X kws t) {σ : L2.St} {H : Hp} {Q : List V → Hp → Prop} (q : t σ H Q) : wK X kws σ H Q := fun pos pins s I => h.run pos pins s σ H Q I q
end Nz
namespace Nz
open PySem PySem.Spec PyProof.Rows L2
end Nz
namespace Nz
open PySem PySem.Spec PyProof.Rows L2
end Nz
namespace Nz
open PySem PySem.Spec PyProof.Rows L2
section
variable {X : Cx} {B : Bd} {S S1 : Nz.S} {a : Expr} {τ : Type} {enc : τ → D}
/-- zip of two lists -/
theorem src_zip {μ : Type} {encB : μ → D} {xs : List τ} {ys : List μ} {e e2 : Expr} {elts : List Expr} {kk : Nat} {tpos pos p : Pos} (h : Ea X B [e, e2] S [.fr (eL enc xs), .fr (eL encB ys)] S1) (hg : Gl X "zip") (hm : X.mg "zip" = none)
    (hs : starEach [e, e2] X.env = (false, eval e X.env) :: starEach [e2] X.env := by rfl) (hpl : (backTo pos (starEach [e2] X.env)).any (·.1) = false := by rfl) :
    Src X B (.Tuple elts kk tpos) (.Call (.Name "zip" p) [e, e2] [] pos) S ((xs.zip ys).map (eT2 enc encB)) S1 :=
  fun F α H σ R RR k => wI.of (pi_zip hg hm pa_w hs hpl) (h F α H σ _ RR fun F1 α1 v1 H1 R1 st1 r1 => by
    have r := CRels.fr (ds := [eL enc xs, eL encB ys]) r1
    cases r with
    | cons q rr =>
      cases rr with
      | cons q2 rr2 =>
        cases rr2
        cases q with
        | lst h1 h2 =>
          rename_i a vs
          cases q2 with
          | lst g1 g2 =>
            rename_i b us
            have hlen : ((xs.zip ys).map (eT2 enc encB)).length = min vs.length us.length := by
              rw [List.length_map, List.length_zip, ← h2.length, ← g2.length, List.length_map, List.length_map]
            refine ⟨a, b, vs, us, rfl, R1.sub.seq h1, R1.sub.seq g1, k F1 α1 H1 _ R1 st1 ⟨fun B F' α H σ S i d R' hs hi => ?_, fun B F' α H σ S i R' hs hi => ⟨vs, us, R'.sub.seq (hs.seq h1), R'.sub.seq (hs.seq g1), by rw [hlen] at hi; omega⟩⟩⟩
            rw [List.getElem?_map] at hi
            cases hz : (xs.zip ys)[i]? with
            | none => rw [hz] at hi; cases hi
            | some pr =>
              rw [hz] at hi
              have hd : d = eT2 enc encB pr := (Option.some.inj hi).symm
              obtain ⟨z1, z2⟩ := List.getElem?_zip_eq_some.mp hz
              obtain ⟨v, hv, rv⟩ := h2.get (show (xs.map enc)[i]? = some (enc pr.1) by rw [List.getElem?_map, z1]; rfl)
              obtain ⟨u, hu, ru⟩ := g2.get (show (ys.map encB)[i]? = some (encB pr.2) by rw [List.getElem?_map, z2]; rfl)
              refine ⟨⟨vs, us, v, u, R'.sub.seq (hs.seq h1), R'.sub.seq (hs.seq g1), hv, hu⟩, fun x H' y => ?_⟩
              obtain ⟨T, x1, y1, rfl, hT, rfl, y2, y3⟩ := y
              have e1 := y2 vs (R'.sub.seq (hs.seq h1))
              have e2 := y3 us (R'.sub.seq (hs.seq g1))
              rw [hv] at e1; rw [hu] at e2; cases e1; cases e2
              subst hd
              exact ⟨upd F' T (.tup [v, u]), R'.allocF hT, same_upd (R'.fresh hT), .tup (SqT.of upd_same) (.cons ((rv.mono hs).mono (same_upd (R'.fresh hT))) (.cons ((ru.mono hs).mono (same_upd (R'.fresh hT))) .nil))⟩)
end
end Nz
namespace Nz
theorem some_of {τ : Type} {y : Option τ} (h : ¬ (y.isNone = true)) : y.isSome = true := by
  cases y with
  | none => exact absurd rfl h
  | some z => rfl
theorem some_of2 {τ : Type} {y : Option τ} (h : ¬ ¬ ¬ (y.isNone = true)) : y.isSome = true := some_of fun z => h fun w => w z
end Nz
namespace Nz
theorem slc_len {τ : Type} {xs : List τ} {a b : Option Int} : (slcD xs a b).length ≤ xs.length := by
  unfold slcD
  rw [List.length_take, List.length_drop]; omega
end Nz
namespace Nz
open PySem PySem.Spec PyProof.Rows L2
end Nz
namespace Nz
open PySem PySem.Spec PyProof.Rows L2
section
variable {K : Frag} {mg : Mg} {B : Bd} {F : Hp} {α : Nat → Addr} {H : Hp} {σ : L2.St} {S : Nz.S}
theorem Rel.adopt (R : Rel K mg B F α H σ S) {p : Addr} {m : Nat} {xs : List D} {vs : List V} (hm : m ∉ names S.L) (h100 : 100 ≤ m) (f0 : F p = none) (f1 : B.H0 p = none ∨ B.fp p) (e : H p = some (.lst vs)) (r : Reps K mg F xs vs) (ne : ∀ k, k ∈ names S.L → α k ≠ p) :
    Rel K mg B F (setα α m p) H σ ⟨S.ρ, S.L ++ [(m, .fl xs)]⟩ := by
  have st : Stp F α S.L F (setα α m p) := stp_setα hm
  have hsub : ∀ k, k ∈ names S.L → k ∈ names (S.L ++ [(m, LO.fl xs)]) := fun k hk => by rw [names_append]; exact List.mem_append_left _ hk
  have hself : setα α m p m = p := by unfold setα; rw [if_pos rfl]
  refine ⟨R.sub, R.bF, R.nF, R.frame, ?_, ?_, ?_, R.slots.step st hsub, fun k a e' hk => ?_⟩
  · rw [names_append]
    exact List.nodup_append.mpr ⟨R.nd, by simp, fun a ha b hb => by
      have : b = m := by simpa using hb
      subst this
      exact fun q => hm (q ▸ ha)⟩
  · intro a b ha hb e'
    rw [names_append] at ha hb
    rcases List.mem_append.mp ha with ha' | ha' <;> rcases List.mem_append.mp hb with hb' | hb'
    · rw [st.nm a ha', st.nm b hb'] at e'; exact R.inj a b ha' hb' e'
    · have h2 : b = m := by simpa using hb'
      rw [h2, hself, st.nm a ha'] at e'
      exact absurd e' (ne a ha')
    · have h2 : a = m := by simpa using ha'
      rw [h2, hself, st.nm b hb'] at e'
      exact absurd e'.symm (ne b hb')
    · have h1 : a = m := by simpa using ha'
      have h2 : b = m := by simpa using hb'
      rw [h1, h2]
  · intro k o' hk
    rcases List.mem_append.mp hk with hk | hk
    · obtain ⟨h1, h2, h3⟩ := R.live k o' hk
      have e' : setα α m p k = α k := st.nm k (mem_names hk)
      rw [e']
      exact ⟨h1, h2, h3.step st hsub (fun _ _ z => z) fun b w' z => .inl z⟩
    · have e' : (k, o') = (m, LO.fl xs) := by simpa using hk
      cases e'
      rw [hself]
      exact ⟨f0, f1, vs, e, r⟩
  · have hk : k ∈ names (S.L ++ [(m, LO.fl xs)]) := hk
    rw [names_append] at hk
    rcases List.mem_append.mp hk with hk | hk
    · rw [st.nm k hk]; exact R.fix k a e' hk
    · have : k = m := by simpa using hk
      rw [this, B.hpa m h100] at e'; cases e'
end
section
variable {X : Cx} {B : Bd} {S S1 S2 : Nz.S} {a b e o : Expr} {es : List Expr} {pos apos p q : Pos} {d d1 : D} {ds xs : List D} {x : Str} {fd : FuncData} {ps : List Str} {k : Nat} {sp : SpN} {f : Addr}
/-- f(e, ..) that hands back a new list that lives -/
theorem ev_callNew (m : Nat) (F : FnOk X.prog X.w X.K X.mg X.base CX0 k f fd ps (SpOf X.K X.mg sp)) (hr : Room k X.A) (hm : X.mg x = some (.ref f)) (hk : PySem.W.keepIn X.K (.ref f) = true) (hb : Binds X.K fd ps [])
    (ha : Ea X B (e :: es) S (ds.map Ce.fr) S1) (hn : m ∉ names S1.L) (h100 : 100 ≤ m) (hs : ∀ Kc : Ce → List (Nat × LO) → Prop, (∀ n L', getL n L' = some (.fl xs) → Kc (.ad n) L') → sp (ds.map Ce.fr) [] Kc) (hg : Gl X x) (h1 : Sub S.L S1.L := by exact Sub.refl) (hdb : (x == ("__debug__" : Str)) = false := by decide)
    (he : starEach (e :: es) X.env = (false, eval e X.env) :: starEach es X.env := by rfl) (hpl : (backTo pos (starEach es X.env)).any (·.1) = false := by rfl) : Ev X B (.Call (.Name x p) (e :: es) [] pos) S (.ad m) ⟨S1.ρ, S1.L ++ [(m, .fl xs)]⟩ :=
  fun F0 α H σ Q R k => wE.of (pe_call F hr hg hm hk hb .nil pass0 pa_w hdb he hpl) (ha F0 α H σ _ R fun F1 α1 vs H1 R1 st1 r1 => by
    rw [List.append_nil]
    refine ⟨F1, α1, [], _, fun _ => False, R1.call0 (CRels.fr r1), hs _ fun n L' h0 F' α' v H' ρ' σ' R' r' => ?_⟩
    obtain ⟨hnm, rfl⟩ := r'
    obtain ⟨g0, g1, us, hu, ru⟩ := R'.live n _ (getL_mem h0)
    have g1 : H1 (α' n) = none := g1.elim id fun z => z.elim
    have Rb := R1.back0 R'
    have ne : ∀ k, k ∈ names S1.L → α1 k ≠ α' n := fun k hk q => by
      obtain ⟨⟨k', o'⟩, h1, h2⟩ := List.mem_map.mp hk
      cases h2
      obtain ⟨w', hw⟩ := (R1.live _ _ h1).2.2.is
      rw [q, g1] at hw; cases hw
    have hB : B.H0 (α' n) = none ∨ B.fp (α' n) := by
      by_cases z : B.fp (α' n)
      · exact .inr z
      · refine .inl ?_
        cases q : B.H0 (α' n) with
        | none => rfl
        | some w' => rw [R1.frame _ w' q z] at g1; cases g1
    have Ra := Rb.adopt (m := m) hn h100 g0 hB hu ru ne
    have self : setα α1 m (α' n) m = α' n := by unfold setα; rw [if_pos rfl]
    refine k F' (setα α1 m (α' n)) _ H' Ra ((st1.trans ⟨R'.bF, fun _ _ => rfl⟩ h1).trans (stp_setα hn) h1) ⟨?_, by rw [self]⟩
    rw [names_append]; exact List.mem_append_right _ (List.mem_singleton.mpr rfl))
/-- list(e) that lives -/
theorem ev_listN (m : Nat) {ca : Ce} (hl : AsL S1.L ca xs) (ha : Ev X B e S ca S1) (hn : m ∉ names S1.L) (h100 : 100 ≤ m) (hg : Gl X "list") (hm : X.mg "list" = none) (hv : bootBuiltins "list" = some (.type "list") := by decide +kernel) (h1 : Sub S.L S1.L := by exact Sub.refl)
    (hs : starEach [e] X.env = (false, eval e X.env) :: starEach [] X.env := by rfl) (hpl : (backTo pos (starEach [] X.env)).any (·.1) = false := by rfl) : Ev X B (.Call (.Name "list" p) [e] [] pos) S (.ad m) ⟨S1.ρ, S1.L ++ [(m, .fl xs)]⟩ :=
  fun F α H σ Q R k => wE.of (pe_callTy call_list_of hg hm hv (pa_cons pe_w pa_nil hs) (by decide) (by decide) hs hpl) (ha F α H σ _ R fun F1 α1 v1 H1 R1 st1 r1 => by
    obtain ⟨a, vs, rfl, hq, rs⟩ := R1.asL hl r1
    refine ⟨a, vs, rfl, .inl hq, fun p hp => ?_⟩
    refine k F1 (setα α1 m p) _ _ (R1.allocL hp hn h100 ⟨vs, upd_same, rs⟩) (st1.trans (stp_setα hn) h1) ⟨?_, ?_⟩
    · rw [names_append]; exact List.mem_append_right _ (List.mem_singleton.mpr rfl)
    · show V.ref p = V.ref (if m = m then p else α1 m)
      rw [if_pos rfl])
/-- [e, ..] * n -/
theorem Reps.rep {K : Frag} {mg : Mg} {F : Hp} {ds : List D} {vs : List V} (h : Reps K mg F ds vs) : ∀ n : Nat, Reps K mg F (List.replicate n ds).flatten (List.replicate n vs).flatten
  | 0 => .nil
  | n + 1 => by
    rw [List.replicate_succ, List.flatten_cons, List.replicate_succ, List.flatten_cons]
    exact h.append (Reps.rep h n)
end
section
variable {X : Cx} {B : Bd} {S S1 : Nz.S} {elt tg iter : Expr} {ifs : List Expr} {scope : Scope} {own : List (Str × Nat)} {pos : Pos}
theorem lc_readingL {τ : Type} (nD : Nat) {ys : List τ} {enc : τ → D} (f : τ → D) (p : τ → Bool) (Sx : Nat → τ → List D → Nz.S)
    (hsrc : Src X B tg iter S (ys.map enc) S1) (hn : nD ∉ names S1.L) (h100 : 100 ≤ nD) (hz : ys.length ≤ sizeLine) (hL : ∀ i y acc, (Sx i y acc).L = S1.L ++ [(nD, .fl acc)])
    (hg : ∀ i y acc, ys[i]? = some y → ∀ s H0 C cl fp, EgC (Blk X scope s H0 C cl fp) B tg (.fr (enc y)) ⟨wipeC S1.ρ (own.map (·.2)), S1.L ++ [(nD, .fl acc)]⟩ (Sx i y acc) (own.map (·.2)))
    (ht : ∀ i y acc, ys[i]? = some y → ∀ s H0 C cl fp, Ets (Blk X scope s H0 C cl fp) B ifs (Sx i y acc) (p y))
    (he : ∀ i y acc, ys[i]? = some y → p y = true → ∀ s H0 C cl fp, Ev (Blk X scope s H0 C cl fp) B elt (Sx i y acc) (.fr (f y)) (Sx i y acc))
    (F : Hp) (α : Nat → Addr) (H : Hp) (σ : L2.St) (Q : VK) (R : RelX X B F α H σ S) (hS : Sub S.L S1.L)
    (k : ∀ F' α' H', RelX X B F' α' H' σ ⟨S1.ρ, S1.L ++ [(nD, .fl ((ys.filter p).map f))]⟩ → Stp F α S.L F' α' → Q (.ref (α' nD)) H') :
    tLc (wI X tg iter) (fun v σ H Q => ∀ s H0 C cl fp, wG (Blk X scope s H0 C cl fp) tg v σ H Q) (fun σ H Q => ∀ s H0 C cl fp, wTs (Blk X scope s H0 C cl fp) ifs σ H Q) (fun σ H Q => ∀ s H0 C cl fp, wE (Blk X scope s H0 C cl fp) elt σ H Q) (own.map (·.2)) σ H Q := by
  refine hsrc F α H σ _ R fun F1 α1 H1 J R1 st1 j => ?_
  intro D hD
  have Rn := R1.allocL (n := nD) (u := .fl []) (o := .lst []) hD hn h100 ⟨[], upd_same, .nil⟩
  have stn : Stp F1 α1 S1.L F1 (setα α1 nD D) := stp_setα hn
  have eD : setα α1 nD D nD = D := by unfold setα; rw [if_pos rfl]
  -- the state at turn i
  let W : Nat → Hp → Prop := fun i H => ∃ F' α', RelX X B F' α' H (L2.wipe σ (own.map (·.2))) ⟨wipeC S1.ρ (own.map (·.2)), S1.L ++ [(nD, .fl (((ys.take i).filter p).map f))]⟩ ∧ Stp F1 (setα α1 nD D) (S1.L ++ [(nD, .fl [])]) F' α'
  have w0 : W 0 (upd H1 D (.lst [])) := ⟨F1, setα α1 nD D, ⟨Rn.sub, Rn.bF, Rn.nF, Rn.frame, Rn.nd, Rn.inj, Rn.live, Rn.slots.wipe _, Rn.fix⟩, Stp.refl⟩
  refine ⟨fun i m H => m = ys.length - i ∧ i ≤ ys.length ∧ W i H, ⟨ys.length, by simp, Nat.zero_le _, w0⟩, ?_⟩
  rintro i m H' ⟨rfl, hi, F', α', R', st'⟩
  have sm : Same F1 F' := st'.fro
  have nmD : α' nD = D := by rw [st'.nm nD (by rw [names_append]; exact List.mem_append_right _ (List.mem_singleton.mpr rfl)), eD]
  by_cases hlt : i < ys.length
  · obtain ⟨y, hy⟩ : ∃ y, ys[i]? = some y := ⟨ys[i], by simp [hlt]⟩
    obtain ⟨g, yl⟩ := j.go B F' α' H' _ _ i (enc y) R' sm (by rw [List.getElem?_map, hy]; rfl)
    have tk : (ys.take (i + 1)) = ys.take i ++ [y] := by rw [List.take_succ, hy]; rfl
    refine .inr ⟨g, W (i + 1), fun H2 w2 => ⟨ys.length - (i + 1), by omega, rfl, hlt, w2⟩, fun x H2 yy => ?_⟩
    obtain ⟨F2, R2, s2, r2⟩ := yl x H2 yy
    intro sA HA CA clA fpA
    refine hg i y (((ys.take i).filter p).map f) hy sA HA CA clA fpA F2 α' H2 _ x _ R2 r2 fun σ3 F3 H3 R3 s3 w3 => ⟨w3.trans wipe_idem, ?_⟩
    intro sB HB CB clB fpB
    refine ht i y (((ys.take i).filter p).map f) hy sB HB CB clB fpB F3 α' H3 σ3 _ R3 fun F4 α4 H4 R4 st4 => ?_
    have hLL := hL i y (((ys.take i).filter p).map f)
    have full : ∀ {F5 : Hp} {α5 : Nat → Addr} {acc : List Nz.D}, Same F' F5 → (∀ n, n ∈ names (S1.L ++ [(nD, LO.fl (((ys.take i).filter p).map f))]) → α5 n = α' n) → Stp F1 (setα α1 nD D) (S1.L ++ [(nD, .fl [])]) F5 α5 := fun {F5 α5 acc} h1 h2 =>
      ⟨sm.trans h1, fun n hn' => by
        rw [h2 n (by rw [names_append] at hn' ⊢; exact hn'), st'.nm n hn']⟩
    have back : ∀ {F5 : Hp} {α5 : Nat → Addr} {H5 : Hp} {acc : List Nz.D}, RelX X B F5 α5 H5 σ3 ⟨(Sx i y (((ys.take i).filter p).map f)).ρ, S1.L ++ [(nD, .fl acc)]⟩ → SlR X.K X.mg F5 α5 (S1.L ++ [(nD, .fl acc)]) (wipeC S1.ρ (own.map (·.2))) (L2.wipe σ (own.map (·.2))) →
        RelX X B F5 α5 H5 (L2.wipe σ (own.map (·.2))) ⟨wipeC S1.ρ (own.map (·.2)), S1.L ++ [(nD, .fl acc)]⟩ := fun {F5 α5 H5 acc} Rr sl => ⟨Rr.sub, Rr.bF, Rr.nF, Rr.frame, Rr.nd, Rr.inj, Rr.live, sl, Rr.fix⟩
    have sl0 : SlR X.K X.mg F' α' (S1.L ++ [(nD, .fl (((ys.take i).filter p).map f))]) (wipeC S1.ρ (own.map (·.2))) (L2.wipe σ (own.map (·.2))) := R'.slots
    have st4' : Stp F' α' (S1.L ++ [(nD, .fl (((ys.take i).filter p).map f))]) F4 α4 := ⟨s2.trans (s3.trans st4.fro), fun n hn' => st4.nm n (by rw [hLL]; exact hn')⟩
    cases hp : p y with
    | false =>
      rw [if_neg Bool.false_ne_true]
      have e2 : ((ys.take (i + 1)).filter p).map f = ((ys.take i).filter p).map f := by rw [tk, List.filter_append]; simp [hp]
      refine ⟨F4, α4, ?_, full (acc := []) st4'.fro st4'.nm⟩
      rw [e2]
      have R4' : RelX X B F4 α4 H4 σ3 ⟨(Sx i y (((ys.take i).filter p).map f)).ρ, S1.L ++ [(nD, .fl (((ys.take i).filter p).map f))]⟩ := by rw [← hLL]; exact R4
      exact back R4' (sl0.step st4' fun _ z => z)
    | true =>
      rw [if_pos rfl]
      intro sC HC CC clC fpC
      refine he i y (((ys.take i).filter p).map f) hy hp sC HC CC clC fpC F4 α4 H4 σ3 _ R4 fun F5 α5 v5 H5 R5 st5 r5 => ?_
      have st5' : Stp F' α' (S1.L ++ [(nD, .fl (((ys.take i).filter p).map f))]) F5 α5 := st4'.trans ⟨st5.fro, fun n hn' => st5.nm n (by rw [hLL]; exact hn')⟩ fun _ z => z
      have R5' : RelX X B F5 α5 H5 σ3 ⟨(Sx i y (((ys.take i).filter p).map f)).ρ, S1.L ++ [(nD, .fl (((ys.take i).filter p).map f))]⟩ := by rw [← hLL]; exact R5
      obtain ⟨q0, q1, vs5, e5, rs5⟩ := R5'.live nD _ (List.mem_append_right _ (List.mem_singleton.mpr rfl))
      have nm5 : α5 nD = D := by rw [st5'.nm nD (by rw [names_append]; exact List.mem_append_right _ (List.mem_singleton.mpr rfl)), nmD]
      have gl := getL_app (o := .fl (((ys.take i).filter p).map f)) hn
      have sl : ∀ (acc : List Nz.D), setL nD (.fl acc) (S1.L ++ [(nD, LO.fl (((ys.take i).filter p).map f))]) = S1.L ++ [(nD, .fl acc)] := fun acc => setL_app hn
      rw [nm5] at e5
      have e2 : ((ys.take (i + 1)).filter p).map f = ((ys.take i).filter p).map f ++ [f y] := by rw [tk, List.filter_append, List.map_append]; simp [hp]
      have lenv : vs5.length < sizeLine := by
        rw [← rs5.length, List.length_map]
        have := List.length_filter_le p (ys.take i)
        rw [List.length_take] at this
        omega
      refine ⟨vs5, e5, lenv, F5, α5, ?_, full (acc := []) st5'.fro st5'.nm⟩
      have Rp := R5'.put (n := nD) (u := .fl (((ys.take i).filter p).map f ++ [f y])) (o' := .lst (vs5 ++ [v5])) (getL_mem gl) ⟨vs5 ++ [v5], upd_same, rs5.append (.cons r5 .nil)⟩
      rw [nm5] at Rp
      rw [e2]
      have Rp' : RelX X B F5 α5 (upd H5 D (.lst (vs5 ++ [v5]))) σ3 ⟨(Sx i y (((ys.take i).filter p).map f)).ρ, S1.L ++ [(nD, .fl (((ys.take i).filter p).map f ++ [f y]))]⟩ := by rw [← sl]; exact Rp
      refine back Rp' (sl0.step (L' := S1.L ++ [(nD, .fl (((ys.take i).filter p).map f ++ [f y]))]) st5' fun n hn' => by rw [names_append] at hn' ⊢; exact hn')
  · have e1 : i = ys.length := by omega
    subst e1
    refine .inl ⟨j.stop B F' α' H' _ _ _ R' sm (by rw [List.length_map]; exact Nat.le_refl _), ?_⟩
    rw [List.take_length] at R'
    have stA : Stp F1 α1 S1.L F' α' := stn.trans ⟨st'.fro, fun n hn' => st'.nm n (Sub.app n hn')⟩ fun _ z => z
    have R6 : RelX X B F' α' H' σ ⟨S1.ρ, S1.L ++ [(nD, .fl ((ys.filter p).map f))]⟩ := ⟨R'.sub, R'.bF, R'.nF, R'.frame, R'.nd, R'.inj, R'.live, R1.slots.step (L' := S1.L ++ [(nD, .fl ((ys.filter p).map f))]) stA fun n hn' => Sub.app n hn', R'.fix⟩
    have := k F' α' H' R6 (st1.trans stA hS)
    rw [nmD] at this
    exact this
section
variable {τ : Type} {ys : List τ} {enc : τ → D}
theorem ev_lcL (nD : Nat) (ys : List τ) (enc : τ → D) (f : τ → D) (p : τ → Bool) (Sx : Nat → τ → List D → Nz.S) (hc : X.calm = true) (hN : X.N.Nodup) (ok : BlkOk X.N X.env.scope scope own)
    (hsrc : Src X B tg iter S (ys.map enc) S1) (hn : nD ∉ names S1.L) (h100 : 100 ≤ nD) (hz : ys.length ≤ sizeLine) (hL : ∀ i y acc, (Sx i y acc).L = S1.L ++ [(nD, .fl acc)])
    (hg : ∀ i y acc, ys[i]? = some y → ∀ s H0 C cl fp, EgC (Blk X scope s H0 C cl fp) B tg (.fr (enc y)) ⟨wipeC S1.ρ (own.map (·.2)), S1.L ++ [(nD, .fl acc)]⟩ (Sx i y acc) (own.map (·.2)))
    (ht : ∀ i y acc, ys[i]? = some y → ∀ s H0 C cl fp, Ets (Blk X scope s H0 C cl fp) B ifs (Sx i y acc) (p y))
    (he : ∀ i y acc, ys[i]? = some y → p y = true → ∀ s H0 C cl fp, Ev (Blk X scope s H0 C cl fp) B elt (Sx i y acc) (.fr (f y)) (Sx i y acc)) (hS : Sub S.L S1.L := by exact Sub.refl) (hs : ∀ x, foldedSetIterable iter X.env x = pure x := by intro _; rfl) :
    Ev X B (.ListComp elt [⟨tg, iter, ifs, 0⟩] scope pos) S (.ad nD) ⟨S1.ρ, S1.L ++ [(nD, .fl ((ys.filter p).map f))]⟩ :=
  fun F α H σ Q R k => wE.of (pe_lc hc hN pi_w ok (fun s H0 C cl fp => ⟨fun pins s1 σ1 H1 v u Q1 I r h => h s H0 C cl fp pins s1 u I r⟩) (fun s H0 C cl fp => ⟨fun pins s1 σ1 H1 Q1 I h => h s H0 C cl fp pins s1 I⟩) (fun s H0 C cl fp => ⟨fun pins s1 σ1 H1 Q1 I h => h s H0 C cl fp pins s1 I⟩) hs)
    (lc_readingL nD f p Sx hsrc hn h100 hz hL hg ht he F α H σ Q R hS fun F' α' H' R' st => k F' α' _ H' R' st ⟨by rw [names_append]; exact List.mem_append_right _ (List.mem_singleton.mpr rfl), rfl⟩)
end
end
end Nz
namespace Nz
open PySem PySem.Spec PyProof.Rows L2
section
variable {X : Cx} {B : Bd} {S S1 S2 : Nz.S} {a b e o tg : Expr} {es : List Expr} {pos apos p q : Pos} {d1 : D} {c2 : Ce} {τ : Type} {enc : τ → D} {n : Nat}
theorem asL_dp [DecidableEq τ] {F H : Hp} {α : Nat → Addr} {σ : L2.St} (R : RelX X B F α H σ S) {c : Ce} {ys : List τ} {y : V} (h : EqEnc n enc) (hl : AsL S.L c (ys.map enc)) (r : CR X F α S.L c y) : Dp X.K H y (.list (toPs (ys.map enc))) := by
  obtain ⟨l, us, rfl, hq, rs⟩ := R.asL hl r
  exact .lst hq (dps_of R.sub _ _ rs (ees_ok h ys))
end
section
variable {X : Cx} {B : Bd} {S S1 : Nz.S} {elt tg iter a : Expr} {scope : Scope} {own : List (Str × Nat)} {pos : Pos} {K : Out → Prop} {τ μ : Type} {ys : List τ} {enc : τ → D} {enc2 : μ → D}
theorem ev_lcML (nD : Nat) (g : τ → μ) (Sx : Nat → τ → List D → Nz.S) (hc : X.calm = true) (hN : X.N.Nodup) (ok : BlkOk X.N X.env.scope scope own)
    (hsrc : Src X B tg iter S (ys.map enc) S1) (hn : nD ∉ names S1.L) (h100 : 100 ≤ nD) (hz : ys.length ≤ sizeLine)
    (hg : ∀ i y acc, ys[i]? = some y → ∀ s H0 C cl fp, EgC (Blk X scope s H0 C cl fp) B tg (.fr (enc y)) ⟨wipeC S1.ρ (own.map (·.2)), S1.L ++ [(nD, .fl acc)]⟩ (Sx i y acc) (own.map (·.2)))
    (he : ∀ i y acc, ys[i]? = some y → ∀ s H0 C cl fp, Ev (Blk X scope s H0 C cl fp) B elt (Sx i y acc) (.fr (enc2 (g y))) (Sx i y acc)) (hL : ∀ i y acc, (Sx i y acc).L = S1.L ++ [(nD, .fl acc)] := by exact fun _ _ _ => rfl) (hS : Sub S.L S1.L := by exact Sub.refl) (hs : ∀ x, foldedSetIterable iter X.env x = pure x := by intro _; rfl) :
    Ev X B (.ListComp elt [⟨tg, iter, [], 0⟩] scope pos) S (.ad nD) ⟨S1.ρ, S1.L ++ [(nD, .fl ((ys.map g).map enc2))]⟩ := by
  have := ev_lcL (pos := pos) nD ys enc (fun y => enc2 (g y)) (fun _ => true) Sx hc hN ok hsrc hn h100 hz hL hg (fun _ _ _ _ _ _ _ _ _ => ets_nil) (fun i y acc h1 _ => he i y acc h1) hS hs
  rwa [lm_map] at this
end
end Nz
namespace Nz
open PySem PySem.Spec PyProof.Rows L2
/-- what is lent: lists and dicts -/
def isLD : HO → Bool
  | .lst _ => true
  | .dK _ => true
  | .dT _ => true
  | _ => false
/-- a live object as data, where it holds frozen data alone -/
def frzO : LO → Option D
  | .fl xs => some (.lst xs)
  | .dT kvs => some (.dT kvs)
  | .dK kvs => some (.dK kvs)
  | _ => none
def boOf (L : List (Nat × LO)) : List Ce → Option (List D)
  | [] => some []
  | .fr d :: cs => (boOf L cs).map (d :: ·)
  | .ad n :: cs => match (getL n L).bind frzO with
    | some d => (boOf L cs).map (d :: ·)
    | none => none
  | .xv _ :: _ => none
section
variable {K : Frag} {mg : Mg} {B : Bd} {F F' : Hp} {α α' : Nat → Addr} {H H' : Hp} {σ σ' : L2.St} {S S' : Nz.S}
theorem CRelK.fr {κ : Type} {K : Frag} {mg : Mg} {F : Hp} {α : Nat → Addr} {L : List (Nat × LO)} : ∀ {ds : List (κ × D)} {vs : List (κ × V)}, CRelK K mg F α L (ds.map fun p => (p.1, Ce.fr p.2)) vs → ds.map Prod.fst = vs.map Prod.fst ∧ Reps K mg F (ds.map Prod.snd) (vs.map Prod.snd)
  | [], _, .nil => ⟨rfl, .nil⟩
  | (k, d) :: ds, _, .cons h r => by
    obtain ⟨a, b⟩ := CRelK.fr (ds := ds) r
    exact ⟨by rw [List.map_cons, List.map_cons, a], .cons h b⟩
theorem Paired.reps {κ : Type} {K : Frag} {mg : Mg} {F : Hp} : ∀ {ds : List (κ × D)} {vs : List (κ × V)}, Paired (fun (p : κ × D) (q : κ × V) => p.1 = q.1 ∧ Rep K mg F p.2 q.2) ds vs → ds.map Prod.fst = vs.map Prod.fst ∧ Reps K mg F (ds.map Prod.snd) (vs.map Prod.snd)
  | _, _, .nil => ⟨rfl, .nil⟩
  | _, _, .cons h r => by
    obtain ⟨a, b⟩ := Paired.reps r
    exact ⟨by rw [List.map_cons, List.map_cons, a, h.1], .cons h.2 b⟩
/-- a live object that is data is so in any frozen heap that has it -/
theorem LAt.asD {a : Addr} {o : LO} {d : D} {L : List (Nat × LO)} (h : LAt K mg B F α L H a o) (hd : frzO o = some d) : ∃ ho, H a = some ho ∧ isLD ho = true ∧ ∀ G, Same F G → G a = some ho → Rep K mg G d (.ref a) := by
  cases o with
  | fl xs => cases hd; obtain ⟨vs, e, r⟩ := h; exact ⟨_, e, rfl, fun G s g => .lst (SqL.of g) (r.mono s)⟩
  | cl xs => cases hd
  | ins _ _ => cases hd
  | dT kvs =>
    cases hd
    obtain ⟨vs, e, r⟩ := h
    obtain ⟨r1, r2⟩ := Paired.reps r
    exact ⟨_, e, rfl, fun G s g => .dT g r1 (r2.mono s)⟩
  | dK kvs =>
    cases hd
    obtain ⟨vs, e, r⟩ := h
    obtain ⟨r1, r2⟩ := Paired.reps r
    exact ⟨_, e, rfl, fun G s g => .dK g r1 (r2.mono s)⟩
  | dC _ => cases hd
  | tab _ _ => cases hd
  | px φ => cases hd
end
end Nz
namespace Nz
theorem rng_lt {n i y : Nat} (h : (List.range n)[i]? = some y) : y < n := List.mem_range.mp (List.mem_of_getElem? h)
end Nz
namespace Nz
open PySem PySem.Spec PyProof.Rows L2
end Nz
namespace Nz
theorem small_log {i : Int} (h : -1000000 ≤ i ∧ i ≤ 1000000) : i.natAbs.log2 < 1920 := by
  by_cases h0 : i.natAbs = 0
  · rw [h0]; decide
  · have h1 : i.natAbs < 2 ^ 20 := by
      have : (2 : Nat) ^ 20 = 1048576 := by decide
      omega
    have := (Nat.log2_lt h0).mpr h1
    omega
end Nz
namespace Nz
theorem some_of3 {τ : Type} {y : Option τ} {b : Bool} (h : ¬ ¬ ((y.isSome && b) = true)) : y.isSome = true := by
  have := Classical.not_not.mp h
  rw [Bool.and_eq_true] at this
  exact this.1
theorem some_of4 {τ : Type} {y : Option τ} {b : Bool} {q : Prop} (h : ¬ ((¬ ((y.isSome && b) = true)) ∨ q)) : y.isSome = true := some_of3 fun z => h (.inl z)
theorem some_of5 {τ : Type} {y : Option τ} {b : Bool} {q : Prop} (h : ((y.isSome && b) = true)) : y.isSome = true := some_of3 fun z => z h
end Nz
namespace Nz
/-- from the test of a while -/
theorem some_ofW {τ : Type} {y : Option τ} (h : (!y.isNone) = true) : y.isSome = true := by
  cases y with
  | none => exact absurd h (by simp)
  | some z => rfl
end Nz
namespace Nz
open PySem PySem.Spec PyProof.Rows L2
end Nz
namespace Nz
open PySem PySem.Spec PyProof.Rows L2
end Nz
namespace Nz
open PySem PySem.Spec PyProof.Rows L2
section
variable {X : Cx} {B : Bd} {S S1 S2 S3 : Nz.S} {a e : Expr} {es : List Expr} {kws : List Keyword} {pos p kpos : Pos} {x : Str} {d : D} {ds es' dd : List D} {dv : List V} {mv : List Value} {c nm : Str} {fs : List (Str × D)} {C g f : Addr} {fd : FuncData} {ps ks : List Str} {k n : Nat} {sp : SpN}
theorem c_intB {b : Bool} : Cb X (.type "int") [.bl b] (.int (if b = true then 1 else 0)) := .of call_int1 fun B F α H σ S Q xs R rx k => by
  cases rx with | cons r rr => cases rr; cases r; exact .inr ⟨b, rfl, k F α _ H R Stp.refl (.int _)⟩
/-- math.lcm -/
theorem cr_lcm : CallR X (.builtin "math.lcm") (fun vs H Q => ∃ a b : Int, vs = [.int a, .int b] ∧ a.natAbs < 2 ^ 64 ∧ b.natAbs < 2 ^ 64 ∧ Q (.int ((a.natAbs.lcm b.natAbs : Nat) : Int)) H) := by
  intro pins s σ H vs us Q I r h
  obtain ⟨i, j, rfl, h1, h2, q⟩ := h
  obtain ⟨t, u, rfl⟩ := Vals.int2 r
  exact PySem.W.mc_lcm h1 h2 fun _ => ⟨.int _, H, I.tok _, ⟨_, rfl⟩, q⟩
theorem c_lcm {i j : Int} (h1 : i.natAbs < 2 ^ 64) (h2 : j.natAbs < 2 ^ 64) : Cb X (.builtin "math.lcm") [.int i, .int j] (.int ((i.natAbs.lcm j.natAbs : Nat) : Int)) := .of cr_lcm fun B F α H σ S Q xs R rx k => by
  cases rx with | cons r rr => cases rr with | cons r2 rr => cases rr; cases r; cases r2; exact ⟨i, j, rfl, h1, h2, k F α _ H R Stp.refl (.int _)⟩
end
end Nz
namespace Nz
open PySem PySem.Spec PyProof.Rows L2
/-- an encoding of data whose order is lt -/
structure OrdEnc {τ : Type} [DecidableEq τ] (n : Nat) (e : τ → D) (lt : τ → τ → Bool) : Prop extends EqEnc n e where
  alike : ∀ x y, PySem.W.alike (toP (e x)) (toP (e y)) = true
  some : ∀ x, toP (e x) ≠ .none
  lt : ∀ x y, PySem.W.dataLt (toP (e x)) (toP (e y)) = lt x y
def ltI (x y : Int) : Bool := decide (x < y)
def ltList {τ : Type} [DecidableEq τ] (lt : τ → τ → Bool) : List τ → List τ → Bool
  | [], [] => false
  | [], _ :: _ => true
  | _ :: _, [] => false
  | x :: xs, y :: ys => if x = y then ltList lt xs ys else lt x y
theorem oe_int : OrdEnc 0 D.int ltI := { toEqEnc := ee_int, alike := fun x y => (by simp only [toP, PySem.W.alike]), some := fun x q => (by simp only [toP] at q; cases q), lt := fun x y => PySem.W.dataLt_int x y }
section
variable {τ μ ν κ ι : Type} [DecidableEq τ] [DecidableEq μ] [DecidableEq ν] [DecidableEq κ] [DecidableEq ι] {n m k l i : Nat} {e : τ → D} {f : μ → D} {g : ν → D} {h : κ → D} {j : ι → D} {lt : τ → τ → Bool} {lf : μ → μ → Bool} {lg : ν → ν → Bool} {lh : κ → κ → Bool} {lj : ι → ι → Bool}
theorem oes_alike (o : OrdEnc n e lt) : ∀ xs ys : List τ, PySem.W.alikeAll (toPs (xs.map e)) (toPs (ys.map e)) = true
  | [], _ => by simp only [List.map_nil, toPs]; rw [PySem.W.alikeAll]
  | _ :: _, [] => by simp only [List.map_nil, List.map_cons, toPs]; rw [PySem.W.alikeAll]
  | x :: xs, y :: ys => by
    simp only [List.map_cons, toPs]
    rw [PySem.W.alikeAll, o.alike x y, oes_alike o xs ys]; rfl
/-- the first difference, or what follows -/
theorem lex_step (o : OrdEnc n e lt) (x y : τ) (xs ys : List PyData) : PyProof.Rows.lexLt PyProof.Rows.itemOrd (PySem.W.keyToksAll (toP (e x) :: xs)) (PySem.W.keyToksAll (toP (e y) :: ys)) = if x = y then PyProof.Rows.lexLt PyProof.Rows.itemOrd (PySem.W.keyToksAll xs) (PySem.W.keyToksAll ys) else lt x y := by
  by_cases q : x = y
  · rw [if_pos q, PySem.W.dataLt_all_yes (o.alike x y) (by rw [o.eqv, decide_eq_true_eq]; exact q)]
  · rw [if_neg q, PySem.W.dataLt_all_no (o.alike x y) (by rw [o.eqv, decide_eq_false_iff_not]; exact q), o.lt]
theorem oes_lex (o : OrdEnc n e lt) : ∀ xs ys : List τ, PyProof.Rows.lexLt PyProof.Rows.itemOrd (PySem.W.keyToksAll (toPs (xs.map e))) (PySem.W.keyToksAll (toPs (ys.map e))) = ltList lt xs ys
  | [], [] => PyProof.Rows.lex_irrefl _
  | [], y :: ys => by
    simp only [List.map_nil, List.map_cons, toPs]
    rw [PySem.W.toks_all_cons]
    simp only [PySem.W.keyToksAll]
    rw [PyProof.Rows.lex_diff (O := PyProof.Rows.itemOrd) (by simp)]
    rfl
  | x :: xs, [] => by
    simp only [List.map_nil, List.map_cons, toPs]
    rw [PySem.W.toks_all_cons]
    simp only [PySem.W.keyToksAll]
    rw [PyProof.Rows.lex_diff (O := PyProof.Rows.itemOrd) (by simp)]
    rfl
  | x :: xs, y :: ys => by
    simp only [List.map_cons, toPs]
    rw [lex_step o, oes_lex o xs ys]; rfl
theorem oe_L (o : OrdEnc n e lt) : OrdEnc (n + 1) (eL e) (ltList lt) := { toEqEnc := ee_L o.toEqEnc, alike := fun x y => (by simp only [toP, PySem.W.alike]; exact oes_alike o x y), some := fun x q => (by simp only [toP] at q; cases q), lt := fun x y => (by simp only [toP]; rw [PySem.W.dataLt_list]; exact oes_lex o x y) }
end
section
variable {τ : Type} [DecidableEq τ] {n : Nat} {e : τ → D} {lt : τ → τ → Bool} {X : Cx}
theorem o_ltD (hu : X.A.units + 64 < cLine) (o : OrdEnc n e lt) {x y : τ} (hn : n ≤ 60 := by decide) : Op2 X (compareOp .Lt) (e x) (e y) (.bl (lt x y)) :=
  fun B F α H σ S Q v1 v2 R r1 r2 k pins s u1 u2 I q1 q2 => by
    obtain ⟨as, ra⟩ := Dp.reads I _ _ _ (dp_of R.sub _ _ r1 (o.ok x)) q1
    obtain ⟨bs, rb⟩ := Dp.reads I _ _ _ (dp_of R.sub _ _ r2 (o.ok y)) q2
    refine PySem.W.lt_data ra rb (o.alike x y) (o.some x) ?_ ?_
    · have := o.dep x; have := Nat.min_le_left (toP (e x)).depth (toP (e y)).depth; omega
    · rw [o.lt]; exact ⟨.bl _, H, I, rfl, k F α _ H R Stp.refl (.bl _)⟩
theorem reps_each {K : Frag} {mg : Mg} {F : Hp} {X : Cx} {pins : List (Addr × Obj)} {σ : L2.St} {H : Hp} {s : Shared} (I : Inv X pins σ H s) (sub : Same F H) (ok : ∀ x, dataOk (e x) = true) : ∀ {xs : List τ} {vs : List V} {us : List Value}, Reps X.K X.mg F (xs.map e) vs → Vals vs us →
    PySem.W.EachIs (fun (u : Value) (x : τ) => ∃ v, RelV v u ∧ Rep X.K X.mg F (e x) v) us xs ∧ PySem.W.EachIs (fun (u : Value) (x : τ) => ∃ as, Reads s.heap u (toP (e x)) as) us xs
  | [], _, _, .nil, .nil => ⟨.nil, .nil⟩
  | x :: xs, _, _, .cons r rs, .cons q qs => by
    obtain ⟨h1, h2⟩ := reps_each (K := K) (mg := mg) I sub ok rs qs
    exact ⟨.cons ⟨_, q, r⟩ h1, .cons (Dp.reads I _ _ _ (dp_of sub _ _ r (ok x)) q) h2⟩
end
end Nz
namespace Nz
open PySem PySem.Spec PyProof.Rows L2
section
variable {K : Frag} {mg : Mg} {B : Bd} {F F' : Hp} {α : Nat → Addr} {H : Hp} {σ : L2.St} {S : Nz.S}
/-- the ground is moved up -/
def Bd.at (B : Bd) (F : Hp) : Bd := { B with F0 := F }
end
/-- // by any number but 0 -/
def CDivZ (_ j : Int) : Prop := j ≠ 0 ∧ j.natAbs.log2 < 9000
theorem fdivW_of {i j : Int} (h : j ≠ 0) (h2 : -(2 ^ 900) < j ∧ j < 2 ^ 900) : CDivZ i j := ⟨h, Nat.lt_of_lt_of_le (PySem.Flt.log2_lt_of (k := 900) (by decide) (by omega)) (by decide)⟩
end Nz
namespace PySem
open PySem.AutoSeq1
end PySem
namespace L2
open PySem PySem.Spec PyProof.Rows
variable {X : Cx}
theorem Room.units66 {k : Nat} {A : Around} (r : Room k A) : A.units + 66 < cLine := by have := r.un; omega
end L2
namespace Nz
open PySem PySem.Spec PyProof.Rows L2
end Nz
namespace Nz
open PySem PySem.Spec PyProof.Rows L2
end Nz
namespace Nz
open PySem PySem.Spec PyProof.Rows L2
end Nz
namespace Nz
open PySem PySem.Spec PyProof.Rows L2 NdefX
def okD (d : D) : Prop := (∃ i : Int, d = .int i ∧ i.natAbs.log2 < 1920) ∨ ∃ s : Str, d = .str s ∧ s.length ≤ 20000
theorem okD_int {i : Int} (h : -(2 ^ 900) < i ∧ i < 2 ^ 900) : okD (.int i) := .inl ⟨i, rfl, Nat.lt_of_lt_of_le (PySem.Flt.log2_lt_of (k := 900) (by decide) (by omega)) (by decide)⟩
theorem okD_str {s : Str} (h : s.length ≤ 20000) : okD (.str s) := .inr ⟨s, rfl, h⟩
/-- what the ground knows of the error -/
def ExD (K : Frag) (mg : Mg) (F : Hp) (fs : List (Str × D)) (d : Option Addr) : Prop := (fs = [] ∧ d = none) ∨ (fs ≠ [] ∧ ∃ dx vs, d = some dx ∧ F dx = some (.xd vs) ∧ RepF K mg F fs vs)
theorem ExD.mono {K : Frag} {mg : Mg} {F F' : Hp} {fs : List (Str × D)} {d : Option Addr} (h : ExD K mg F fs d) (s : Same F F') : ExD K mg F' fs d := by
  rcases h with h | ⟨h, dx, vs, h1, h2, h3⟩
  · exact .inl h
  · exact .inr ⟨h, dx, vs, h1, s _ _ h2, h3.mono s⟩
end Nz
namespace Nz
open PySem PySem.Spec PyProof.Rows L2
end Nz
namespace Nz
open PySem PySem.Spec PyProof.Rows L2
end Nz
namespace Nz
open PySem PySem.Spec PyProof.Rows L2
end Nz
namespace Nz
open PySem PySem.Spec PyProof.Rows L2
end Nz
namespace Nz
open PySem PySem.Spec PyProof.Rows L2
end Nz
namespace Nz
open PySem PySem.Spec PyProof.Rows L2
end Nz
namespace Nz
open PySem PySem.Spec PyProof.Rows L2
open AutoSeq1 (wpAny_loadPart')
open Sem (wp)
end Nz
namespace Nz
open PySem PySem.Spec PyProof.Rows L2
def IsG (t : Bool) (h : Heap) (a : Addr) (items : Array Value) : Prop := match t with | true => h.IsTuple a items | false => h.IsList a items
def ItG (t : Bool) (h : Heap) (it a : Addr) (i : Nat) : Prop := match t with | true => h.IsTupleIter it a i | false => h.IsListIter it a i
theorem ItG.at {t : Bool} {h h' : Heap} {it a : Addr} {i : Nat} (x : ItG t h it a i) (k : ∀ o, h.get? it = some o → h'.get? it = some o) : ItG t h' it a i := by
  cases t
  · exact Heap.IsListIter.at x k
  · exact Heap.IsTupleIter.at x k
theorem ItG.is {t : Bool} {h : Heap} {it a : Addr} {i : Nat} (x : ItG t h it a i) : ∃ o, h.get? it = some o ∧ ∀ v, o.data ≠ .cell v := by
  cases t
  · obtain ⟨o, e, _, d⟩ := x; exact ⟨o, e, fun v q => by rw [d] at q; cases q⟩
  · obtain ⟨o, e, _, d⟩ := x; exact ⟨o, e, fun v q => by rw [d] at q; cases q⟩
theorem IsG.at {t : Bool} {h h' : Heap} {a : Addr} {xs : Array Value} (x : IsG t h a xs) (k : ∀ o, h.get? a = some o → h'.get? a = some o) : IsG t h' a xs := by
  cases t
  · exact Heap.IsList.at x k
  · exact Heap.IsTuple.at x k
theorem IsG.lt {t : Bool} {h : Heap} {a : Addr} {xs : Array Value} (x : IsG t h a xs) : a < h.objs.size := by
  cases t
  · obtain ⟨o, e, _⟩ := x; exact Heap.lt_size e
  · obtain ⟨o, e, _⟩ := x; exact Heap.lt_size e
end Nz
namespace Nz
open PySem PySem.Spec PyProof.Rows L2
theorem Reps.repl {K : Frag} {mg : Mg} {F : Hp} {ds : List D} {vs : List V} (r : Reps K mg F ds vs) : ∀ k : Nat, Reps K mg F (List.replicate k ds).flatten (List.replicate k vs).flatten
  | 0 => .nil
  | k + 1 => by rw [List.replicate_succ, List.replicate_succ, List.flatten_cons, List.flatten_cons]; exact r.append (Reps.repl r k)
end Nz
namespace PySem
open AutoSeq1
theorem nz_rmul (a : Int) (t : Tok) (l : Addr) (items : Array Value) (n : Nat) (sl : Array (Option Value)) :
    Meets (Builtin.«int.__rmul__» ⟨[.int a t, .ref l], []⟩) (fun _ R s => s.heap.get? l = some { cls := .type "list", dict := none, data := .seq items n, slots := sl } ∧ R (.ok (.ret Value.notImplemented)) s) :=
  .of_wp fun prog w A R s h => by obtain ⟨hp, g, d, tk, os⟩ := s; obtain ⟨hl, h⟩ := h; wp_walk using wpAny_loadPart' hl; exact ⟨_, rfl, h⟩
theorem nz_lmul (l : Addr) (items : Array Value) (n : Nat) (sl : Array (Option Value)) (x : Int) (u : Tok) (hc0 : ¬(!Builtin.List.listFitsIndex x) = true) (hc1 : ¬items.size * x.toNat > (2 ^ 63 - 1) / 8) (hc2 : ¬Builtin.List.listTooLong (items.size * x.toNat) = true) :
    Meets (Builtin.«list.__mul__» ⟨[.ref l, .int x u], []⟩) (fun _ R s => s.heap.get? l = some { cls := .type "list", dict := none, data := .seq items n, slots := sl } ∧ R (.ok (.ret (Value.ref s.heap.objs.size))) { s with heap := s.heap.push { cls := Value.type "list", data := Data.seq (List.foldl (fun x1 x2 => x1 ++ x2) #[] (List.replicate (if items.isEmpty = true then 0 else x.toNat) items)) }, toks := s.toks }) :=
  .of_wp fun prog w A R s h => by
    obtain ⟨hp, g, d, tk, os⟩ := s; obtain ⟨hl, h⟩ := h
    have hsz := AutoListH.joined_fits hc2
    wp_walk using wpAny_loadPart' hl; refine wpAny_ite_false (decide_eq_false (Nat.not_lt.mpr hsz)) ?_; wp_walk using wpAny_loadPart' hl; exact ⟨_, rfl, h⟩
end PySem
namespace Nz
open PySem PySem.Spec PyProof.Rows L2
section
variable {X : Cx} {B : Bd} {S : Nz.S} {τ : Type} {enc : τ → D}
/-- xs * k, a new frozen list -/
theorem o_repL {xs : List τ} {k : Int} (h1 : -(2 ^ 63) ≤ k) (h2 : k < 2 ^ 63) (hz : xs.length * k.toNat ≤ sizeLine) : Op2 X (binaryOp .Mult) (eL enc xs) (.int k) (eL enc (List.replicate k.toNat xs).flatten) :=
  fun B F α H σ S Q x y R rx ry kk pins s v u I rv ru => by
    cases ry
    obtain ⟨l, vs, rfl, hq, rs⟩ := R.asL (c := .fr (.lst (xs.map enc))) rfl rx
    cases rv
    obtain ⟨t, rfl⟩ := ru
    obtain ⟨its, r, ⟨⟨cl, od, dt, sl⟩, n, e, c1, o1, t1⟩, z1⟩ := I.list hq
    simp only at c1 o1 t1
    subst c1 o1 t1
    have hl := r.length
    have hl2 := rs.length
    rw [List.length_map] at hl2
    have hlen : its.toArray.size * k.toNat ≤ sizeLine := by rw [List.size_toArray, ← hl, ← hl2]; exact hz
    have hcap : ¬ its.toArray.size * k.toNat > (2 ^ 63 - 1) / 8 := by
      have : (sizeLine : Nat) ≤ (2 ^ 63 - 1) / 8 := by decide
      omega
    have hfit : ¬ (!Builtin.List.listFitsIndex k) = true := by
      rw [fitsIndex_both h1 h2]
      exact Bool.false_ne_true
    have hlong : ¬ Builtin.List.listTooLong (its.toArray.size * k.toNat) = true := by
      rw [notLongL hlen]
      exact Bool.false_ne_true
    have hnew : List.foldl (fun x1 x2 => x1 ++ x2) #[] (List.replicate (if its.toArray.isEmpty = true then 0 else k.toNat) its.toArray) = (List.replicate k.toNat its).flatten.toArray := by
      have f0 : ∀ m : Nat, List.foldl (fun x1 x2 => x1 ++ x2) #[] (List.replicate m its.toArray) = (List.replicate m its).flatten.toArray := fun m => by
        have := foldl_rep its m []
        rw [List.nil_append] at this
        exact this
      rw [f0]
      cases its with
      | nil => simp
      | cons a r' => rw [if_neg (by simp)]
    refine wpAny_binaryOp_repeat_ref (T := "list") (U := "int") (by decide) ⟨_, e, rfl⟩ (fun s' => typeIs_int s' k t) noFill_list_mul PySem.F.fills_int_mul PySem.F.slot_int_rmul repeat_list PySem.F.slot_int_index.lookup
      (call_meets PySem.F.slot_int_rmul (typeIs_int s k t) PySem.F.entry_int_rmul (PySem.F.args_int_rmul_2 _ _) (nz_rmul k t l its.toArray n sl)
        ⟨e, rfl, ⟨_, e, rfl⟩, call_meets PySem.F.slot_list_mul ⟨_, e, rfl⟩ PySem.F.entry_list_mul (PySem.F.args_list_mul_2 _ _) (nz_lmul l its.toArray n sl k t hfit hcap hlong) ⟨e, ?_⟩⟩)
    rw [hnew]
    have hf := R.fresh I.fresh
    refine ⟨.ref _, _, I.lnew (t' := s.toks) (r.rep k.toNat) (by rw [PyProof.Rows.lm_len_rep_flat, Nat.mul_comm, ← hl2]; exact hz), rfl, kk _ α _ _ (R.allocF I.fresh) (stp_allocF hf) (.lst (SqL.of upd_same) ?_)⟩
    refine Reps.mono (same_upd hf) ?_
    have : (List.replicate k.toNat xs).flatten.map enc = (List.replicate k.toNat (xs.map enc)).flatten := by rw [List.map_flatten, List.map_replicate]
    rw [this]
    exact Reps.repl rs k.toNat
end
end Nz
namespace Nz
open PySem PySem.Spec PyProof.Rows L2
end Nz
namespace Nz
open PySem PySem.Spec PyProof.Rows L2
end Nz
namespace L2
open PySem PySem.Spec PyProof.Rows
end L2
namespace Nz
open PySem PySem.Spec PyProof.Rows L2
end Nz
namespace Nz
open PySem PySem.Spec PyProof.Rows L2 SkE TL
abbrev eD : D → D := fun d => d
end Nz
namespace L2
open PySem PySem.Spec PyProof.Rows
end L2
namespace Nz
open PySem PySem.Spec PyProof.Rows L2 SkE TL
end Nz
namespace Nz
open PySem PySem.Spec PyProof.Rows L2
end Nz
namespace Nz
open PySem PySem.Spec PyProof.Rows L2 SkE TL
section
variable {X : Cx} {B : Bd} {S S1 S2 : Nz.S} {a b o e : Expr} {apos pos p : Pos} {z : Str} {τ : Type} {enc : τ → D}
theorem ev_tupU {ds : List D} {es : List Expr} {k1} (xs : List τ) (h : Ea X B es S (ds.map Ce.fr) S1) (hd : ds = xs.map enc) (hz : ds.length ≤ sizeLine) : Ev X B (.Tuple es k1 pos) S (.fr (eU enc xs)) S1 := by
  subst hd
  exact ev_tup h hz
/-- xs + ys, a new list that lives -/
theorem ev_catN (m : Nat) {xs ys : List τ} {ca cb : Ce} (ha : Ev X B a S ca S1) (hb : Ev X B b S1 cb S2) (hA : AsL S2.L ca (xs.map enc)) (hB : AsL S2.L cb (ys.map enc)) (hz : xs.length + ys.length ≤ sizeLine) (hn : m ∉ names S2.L) (h100 : 100 ≤ m)
    (h1 : Sub S.L S1.L := by exact Sub.refl) (h2 : Sub S1.L S2.L := by exact Sub.refl) : Ev X B (.BinOp a .Add b pos) S (.ad m) ⟨S2.ρ, S2.L ++ [(m, .fl ((xs ++ ys).map enc))]⟩ :=
  fun F α H σ Q R k pins s I => by
    refine wpAny_BinOp (thn (ha F α H σ _ R (fun F1 α1 v1 H1 R1 st1 r1 => hb F1 α1 H1 σ (fun v2 H2 => ∃ F2 α2, RelX X B F2 α2 H2 σ S2 ∧ Stp F α S.L F2 α2 ∧ CR X F2 α2 S2.L ca v1 ∧ CR X F2 α2 S2.L cb v2) R1 fun F2 α2 v2 H2 R2 st2 r2 =>
      ⟨F2, α2, R2, st1.trans st2 h1, CRel.step st2 h2 r1, r2⟩) pins s I) fun v s1 ⟨x, H1, I1, rv, q1⟩ => thn (q1 pins s1 I1) fun u s2 ⟨y, H2, I2, ru, F2, α2, R2, st, r1, r2⟩ => ?_)
    obtain ⟨l1, vs, rfl, hq, rs⟩ := R2.asL hA r1
    obtain ⟨l2, us, rfl, hq2, rs2⟩ := R2.asL hB r2
    cases rv
    cases ru
    obtain ⟨its, r, ⟨⟨cl, od, dt, sl⟩, n, e1, c1, o1, t1⟩, z1⟩ := I2.list hq
    obtain ⟨its2, r2, ⟨⟨cl2, od2, dt2, sl2⟩, n2, e2, c2, o2, t2⟩, z2⟩ := I2.list hq2
    simp only at c1 o1 t1 c2 o2 t2
    subst c1 o1 t1 c2 o2 t2
    have hlen := r.length
    have hlen2 := r2.length
    have g1 := rs.length
    have g2 := rs2.length
    rw [List.length_map] at g1 g2
    have ee : its.toArray ++ its2.toArray = (its ++ its2).toArray := by simp
    refine concat_meets ⟨_, e1, rfl⟩ ⟨_, e2, rfl⟩ noFill_list_add seq_list_add PySem.F.slot_list_add PySem.F.entry_list_add (PySem.F.args_list_add_2 _ _) (list_addW l1 l2 its.toArray its2.toArray n n2 none none sl sl2 (by simp only [List.size_toArray]; omega)) ⟨e1, e2, ?_⟩
    rw [ee]
    have rr : Reps X.K X.mg F2 ((xs ++ ys).map enc) (vs ++ us) := by rw [List.map_append]; exact rs.append rs2
    refine ⟨.ref _, _, I2.lnew (t' := s2.toks) (r.append r2) (by rw [List.length_append]; omega), rfl, k F2 (setα α2 m _) _ _ (R2.allocL I2.fresh hn h100 ⟨_, upd_same, rr⟩) (st.trans (stp_setα hn) fun n h => h2 n (h1 n h)) ⟨?_, ?_⟩⟩
    · rw [names_append]; exact List.mem_append_right _ (List.mem_singleton.mpr rfl)
    · show V.ref _ = V.ref (if m = m then _ else α2 m)
      rw [if_pos rfl]
end
end Nz
namespace Nz
open PySem PySem.Spec PyProof.Rows L2 SkE TL
end Nz
namespace Nz
open PySem PySem.Spec PyProof.Rows L2
section
variable {τ : Type}
def inL (e : τ → D) : Nat → List (List τ) → List (Nat × LO)
  | _, [] => []
  | b, x :: r => (b, .fl (x.map e)) :: inL e (b + 1) r
def ceL : Nat → Nat → List Ce
  | _, 0 => []
  | b, k + 1 => .ad b :: ceL (b + 1) k
def nest (n b : Nat) (e : τ → D) (xss : List (List τ)) : List (Nat × LO) := (n, .cl (ceL b xss.length)) :: inL e b xss
theorem mem_inL {e : τ → D} : ∀ {xss : List (List τ)} {b k : Nat} {o : LO}, (k, o) ∈ inL e b xss ↔ ∃ i x, xss[i]? = some x ∧ k = b + i ∧ o = .fl (x.map e)
  | [], b, k, o => by simp [inL]
  | x :: r, b, k, o => by
    unfold inL
    rw [List.mem_cons, mem_inL]
    constructor
    · rintro (h | ⟨i, y, h1, h2, h3⟩)
      · cases h; exact ⟨0, x, rfl, rfl, rfl⟩
      · exact ⟨i + 1, y, h1, by omega, h3⟩
    · rintro ⟨i, y, h1, h2, h3⟩
      cases i with
      | zero =>
        have : x = y := by simpa using h1
        subst this
        left; rw [h2, h3]; rfl
      | succ i => exact .inr ⟨i, y, by simpa using h1, by omega, h3⟩
theorem names_inL {e : τ → D} {xss : List (List τ)} {b k : Nat} : k ∈ names (inL e b xss) ↔ b ≤ k ∧ k < b + xss.length := by
  constructor
  · intro h
    obtain ⟨⟨k', o⟩, h1, h2⟩ := List.mem_map.mp h
    cases h2
    obtain ⟨i, x, h3, h4, _⟩ := mem_inL.mp h1
    have := (List.getElem?_eq_some_iff.mp h3).1
    show b ≤ k' ∧ k' < b + xss.length
    omega
  · rintro ⟨h1, h2⟩
    have hi : k - b < xss.length := by omega
    exact List.mem_map.mpr ⟨(k, .fl (xss[k - b].map e)), mem_inL.mpr ⟨k - b, _, List.getElem?_eq_getElem hi, by omega, rfl⟩, rfl⟩
theorem names_app (L M : List (Nat × LO)) : names (L ++ M) = names L ++ names M := by simp [names]
end
section
variable {K : Frag} {mg : Mg} {B : Bd} {F F' : Hp} {α α' : Nat → Addr} {H H' : Hp} {σ : L2.St} {S : Nz.S} {L L' P : List (Nat × LO)} {ρ : List (Option Ce)} {τ : Type} {e : τ → D} {xss yss : List (List τ)} {n b m k : Nat}
theorem crels_ceL : ∀ {k b : Nat} {vs : List V}, CRels K mg F α L (ceL b k) vs → vs.length = k ∧ ∀ i, i < k → vs[i]? = some (.ref (α (b + i))) ∧ b + i ∈ names L
  | 0, b, vs, h => by cases h; exact ⟨rfl, fun i hi => by omega⟩
  | k + 1, b, vs, h => by
    cases h with
    | cons h r =>
      obtain ⟨h1, h2⟩ := crels_ceL r
      refine ⟨by rw [List.length_cons, h1], fun i hi => ?_⟩
      cases i with
      | zero => exact ⟨by rw [h.2]; rfl, h.1⟩
      | succ i =>
        have := h2 i (by omega)
        rw [show b + (i + 1) = b + 1 + i by omega]
        exact ⟨by simpa using this.1, this.2⟩
theorem crels_ceL_of : ∀ {k b : Nat}, (∀ i, i < k → b + i ∈ names L) → CRels K mg F α L (ceL b k) ((List.range k).map fun i => .ref (α (b + i)))
  | 0, b, h => .nil
  | k + 1, b, h => by
    rw [List.range_succ_eq_map, List.map_cons, List.map_map]
    refine .cons ⟨h 0 (by omega), rfl⟩ ?_
    have : CRels K mg F α L (ceL (b + 1) k) ((List.range k).map fun i => .ref (α (b + 1 + i))) := crels_ceL_of (fun i hi => by rw [show b + 1 + i = b + (i + 1) by omega]; exact h (i + 1) (by omega))
    have e : (List.range k).map ((fun i => V.ref (α (b + i))) ∘ Nat.succ) = (List.range k).map fun i => V.ref (α (b + 1 + i)) := List.map_congr_left fun i _ => by
      show V.ref (α (b + (i + 1))) = _
      rw [show b + (i + 1) = b + 1 + i by omega]
    rw [e]; exact this
/-- the order of what lives is of no account -/
theorem Rel.permL (R : Rel K mg B F α H σ ⟨ρ, L⟩) (hnd : (names L').Nodup) (h : ∀ p, p ∈ L' ↔ p ∈ L) : Rel K mg B F α H σ ⟨ρ, L'⟩ := by
  have hn : ∀ k, k ∈ names L' ↔ k ∈ names L := fun k => by
    constructor
    · intro q; obtain ⟨p, h1, h2⟩ := List.mem_map.mp q; exact List.mem_map.mpr ⟨p, (h p).mp h1, h2⟩
    · intro q; obtain ⟨p, h1, h2⟩ := List.mem_map.mp q; exact List.mem_map.mpr ⟨p, (h p).mpr h1, h2⟩
  have st : Stp F α L F α := Stp.refl
  exact ⟨R.sub, R.bF, R.nF, R.frame, hnd, fun a b ha hb => R.inj a b ((hn a).mp ha) ((hn b).mp hb), fun n o hm => by
    obtain ⟨h1, h2, h3⟩ := R.live n o ((h _).mp hm)
    exact ⟨h1, h2, h3.step st (fun k q => (hn k).mpr q) (fun _ _ z => z) fun b u z => .inl z⟩, R.slots.step st fun k q => (hn k).mpr q, fun n a q hm => R.fix n a q ((hn n).mp hm)⟩
theorem Rel.perm (R : Rel K mg B F α H σ ⟨ρ, L⟩) (h : L.Perm L') : Rel K mg B F α H σ ⟨ρ, L'⟩ :=
  R.permL ((h.map _).nodup_iff.mp R.nd) fun p => h.mem_iff.symm
end
end Nz
namespace Nz
open PySem PySem.Spec PyProof.Rows L2
section
variable {τ : Type} {e : τ → D}
theorem getL_appR {P Q : List (Nat × LO)} {k : Nat} (h : k ∉ names P) : getL k (P ++ Q) = getL k Q := by
  induction P with
  | nil => rfl
  | cons p r ih =>
    obtain ⟨m, o⟩ := p
    show (if k = m then some o else getL k (r ++ Q)) = _
    rw [if_neg (fun z => h (by rw [z]; exact List.mem_cons_self)), ih fun z => h (List.mem_cons_of_mem _ z)]
theorem getL_inL : ∀ {xss : List (List τ)} {b i : Nat} {x : List τ}, xss[i]? = some x → getL (b + i) (inL e b xss) = some (.fl (x.map e))
  | y :: r, b, 0, x, h => by
    have : y = x := by simpa using h
    subst this
    show (if b + 0 = b then _ else getL (b + 0) (inL e (b + 1) r)) = _
    rw [if_pos (Nat.add_zero b)]
  | y :: r, b, i + 1, x, h => by
    show (if b + (i + 1) = b then _ else getL (b + (i + 1)) (inL e (b + 1) r)) = _
    rw [if_neg (by omega), show b + (i + 1) = b + 1 + i by omega]
    exact getL_inL (by simpa using h)
theorem getL_nest {P : List (Nat × LO)} {n b i : Nat} {xss : List (List τ)} {x : List τ} (hP : b + i ∉ names P) (hn : n < b) (h : xss[i]? = some x) : getL (b + i) (P ++ nest n b e xss) = some (.fl (x.map e)) := by
  rw [getL_appR hP]
  show (if b + i = n then _ else getL (b + i) (inL e b xss)) = _
  rw [if_neg (by omega)]
  exact getL_inL h
theorem boOf_ce {L : List (Nat × LO)} : ∀ {xss : List (List τ)} {b : Nat}, (∀ i x, xss[i]? = some x → getL (b + i) L = some (.fl (x.map e))) → boOf L (ceL b xss.length) = some (xss.map (eL e))
  | [], _, _ => rfl
  | x :: r, b, h => by
    have h0 := h 0 x rfl
    rw [Nat.add_zero] at h0
    have ih := boOf_ce (L := L) (xss := r) (b := b + 1) fun i y hy => by
      rw [show b + 1 + i = b + (i + 1) by omega]
      exact h (i + 1) y (by simpa using hy)
    show (match (getL b L).bind frzO with | some d => (boOf L (ceL (b + 1) r.length)).map (d :: ·) | none => none) = _
    rw [h0, ih]; rfl
/-- all numbers are less than b -/
def belowB (b : Nat) (L : List (Nat × LO)) : Bool := L.all fun p => decide (p.1 < b)
theorem belowB_ok {b : Nat} {L : List (Nat × LO)} (h : belowB b L = true) {k : Nat} (hk : k ∈ names L) : k < b := by
  obtain ⟨p, h1, rfl⟩ := List.mem_map.mp hk
  have := List.all_eq_true.mp h p h1
  exact of_decide_eq_true this
end
section
def isLs : LO → Bool
  | .fl _ => true
  | .cl _ => true
  | .dT _ => true
  | .dK _ => true
  | .dC _ => true
  | _ => false
theorem frzO_ls {o : LO} {d : D} (h : frzO o = some d) : isLs o = true := by
  cases o with
  | fl _ => rfl
  | cl _ => rfl
  | ins _ _ => cases h
  | dT _ => rfl
  | dK _ => rfl
  | dC _ => rfl
  | tab _ _ => cases h
  | px φ => cases h
def lentN (α : Nat → Addr) (L : List (Nat × LO)) (b : Addr) : Prop := ∃ n o, (n, o) ∈ L ∧ isLs o = true ∧ b = α n
open Classical in
noncomputable def lendN (F H : Hp) (α : Nat → Addr) (L : List (Nat × LO)) : Hp := fun b => if lentN α L b then H b else F b
variable {K : Frag} {mg : Mg} {B : Bd} {F F' : Hp} {α α' : Nat → Addr} {H H' : Hp} {σ σ' : L2.St} {S S' : Nz.S}
theorem Rel.lentN_none (R : Rel K mg B F α H σ S) {b : Addr} (h : lentN α S.L b) : F b = none := by
  obtain ⟨n, xs, h1, _, rfl⟩ := h
  exact (R.live n _ h1).1
theorem Rel.lendN_same (R : Rel K mg B F α H σ S) : Same F (lendN F H α S.L) := fun b o e => by
  unfold lendN
  by_cases h : lentN α S.L b
  · rw [R.lentN_none h] at e; cases e
  · rw [if_neg h]; exact e
theorem Rel.lendN_sub (R : Rel K mg B F α H σ S) : Same (lendN F H α S.L) H := fun b o e => by
  unfold lendN at e
  by_cases h : lentN α S.L b
  · rw [if_pos h] at e; exact e
  · rw [if_neg h] at e; exact R.sub b o e
theorem Rel.lendN_reps (R : Rel K mg B F α H σ S) : ∀ {cs : List Ce} {ds : List D} {vs : List V}, boOf S.L cs = some ds → CRels K mg F α S.L cs vs → Reps K mg (lendN F H α S.L) ds vs
  | [], ds, _, h, .nil => by cases h; exact .nil
  | .fr d :: cs, ds, _, h, .cons r rs => by
    unfold boOf at h
    cases q : boOf S.L cs with
    | none => rw [q] at h; cases h
    | some ds' =>
      rw [q] at h; cases h
      exact .cons (Rep.mono R.lendN_same (show Rep K mg F d _ from r)) (R.lendN_reps q rs)
  | .ad n :: cs, ds, _, h, .cons r rs => by
    unfold boOf at h
    split at h
    · rename_i d hx
      cases q : boOf S.L cs with
      | none => rw [q] at h; cases h
      | some ds' =>
        rw [q] at h; cases h
        obtain ⟨hn, rfl⟩ := r
        obtain ⟨o, ho, hd⟩ := Option.bind_eq_some_iff.mp hx
        obtain ⟨u, e1, _, e3⟩ := LAt.asD (R.live n _ (getL_mem ho)).2.2 hd
        refine .cons (e3 _ R.lendN_same ?_) (R.lendN_reps q rs)
        unfold lendN
        rw [if_pos ⟨n, o, getL_mem ho, frzO_ls hd, rfl⟩]; exact e1
    · cases h
  | .xv _ :: cs, ds, _, h, .cons r rs => by simp [boOf] at h
/-- a slot, and what is seen of it while all is lent -/
inductive LeC (L : List (Nat × LO)) : Option Ce → Option Ce → Prop
  | no {c : Option Ce} : LeC L c none
  | fr {d : D} : LeC L (some (.fr d)) (some (.fr d))
  | fl {n : Nat} {xs : List D} : getL n L = some (.fl xs) → LeC L (some (.ad n)) (some (.fr (.lst xs)))
  | cl {n : Nat} {cs : List Ce} {ds : List D} : getL n L = some (.cl cs) → boOf L cs = some ds → LeC L (some (.ad n)) (some (.fr (.lst ds)))
  | dc {n : Nat} {o : LO} {d : D} : getL n L = some o → frzO o = some d → LeC L (some (.ad n)) (some (.fr d))
inductive LeCs (L : List (Nat × LO)) : List (Option Ce) → List (Option Ce) → Prop
  | nil : LeCs L [] []
  | cons {c c' : Option Ce} {r r' : List (Option Ce)} : LeC L c c' → LeCs L r r' → LeCs L (c :: r) (c' :: r')
theorem Rel.lendN_slots (R : Rel K mg B F α H σ S) {L' : List (Nat × LO)} {α' : Nat → Addr} : ∀ {cs cs' : List (Option Ce)} {vs : L2.St}, LeCs S.L cs cs' → SlR K mg F α S.L cs vs → SlR K mg (lendN F H α S.L) α' L' cs' vs
  | _, _, _, .nil, .nil => .nil
  | _, _, _, .cons .no q, .no r => .no (R.lendN_slots q r)
  | _, _, _, .cons .no q, .so _ r => .no (R.lendN_slots q r)
  | _, _, _, .cons .fr q, .so h r => .so (Rep.mono R.lendN_same h) (R.lendN_slots q r)
  | _, _, _, .cons (.fl hx) q, .so h r => by
    obtain ⟨hn, rfl⟩ := h
    obtain ⟨f0, f1, us, e1, rs1⟩ := R.live _ _ (getL_mem hx)
    refine .so (.lst (SqL.of ?_) (rs1.mono R.lendN_same)) (R.lendN_slots q r)
    unfold lendN
    rw [if_pos ⟨_, _, getL_mem hx, rfl, rfl⟩]; exact e1
  | _, _, _, .cons (.cl hx hb) q, .so h r => by
    obtain ⟨hn, rfl⟩ := h
    obtain ⟨f0, f1, us, e1, rs1⟩ := R.live _ _ (getL_mem hx)
    refine .so (.lst (SqL.of ?_) (R.lendN_reps hb rs1)) (R.lendN_slots q r)
    unfold lendN
    rw [if_pos ⟨_, _, getL_mem hx, rfl, rfl⟩]; exact e1
  | _, _, _, .cons (.dc hx hb) q, .so h r => by
    obtain ⟨hn, rfl⟩ := h
    obtain ⟨u, e1, _, e3⟩ := LAt.asD (R.live _ _ (getL_mem hx)).2.2 hb
    refine .so (e3 _ R.lendN_same ?_) (R.lendN_slots q r)
    unfold lendN
    rw [if_pos ⟨_, _, getL_mem hx, frzO_ls hb, rfl⟩]; exact e1
end
section
variable {K : Frag} {mg : Mg} {B : Bd} {F : Hp} {α : Nat → Addr} {H : Hp} {σ : L2.St} {S : Nz.S} {ρ : List (Option Ce)} {τ : Type} {e : τ → D}
theorem Rel.adoptO (R : Rel K mg B F α H σ S) {p : Addr} {m : Nat} {u : LO} (hm : m ∉ names S.L) (h100 : 100 ≤ m) (f0 : F p = none) (f1 : B.H0 p = none ∨ B.fp p) (lat : LAt K mg B F (setα α m p) (S.L ++ [(m, u)]) H p u) (ne : ∀ k, k ∈ names S.L → α k ≠ p) :
    Rel K mg B F (setα α m p) H σ ⟨S.ρ, S.L ++ [(m, u)]⟩ := by
  have st : Stp F α S.L F (setα α m p) := stp_setα hm
  have hsub : ∀ k, k ∈ names S.L → k ∈ names (S.L ++ [(m, u)]) := fun k hk => by rw [names_append]; exact List.mem_append_left _ hk
  have hself : setα α m p m = p := by unfold setα; rw [if_pos rfl]
  refine ⟨R.sub, R.bF, R.nF, R.frame, ?_, ?_, ?_, R.slots.step st hsub, fun k a e' hk => ?_⟩
  · rw [names_append]
    exact List.nodup_append.mpr ⟨R.nd, by simp, fun a ha b hb => by
      have : b = m := by simpa using hb
      subst this
      exact fun q => hm (q ▸ ha)⟩
  · intro a b ha hb e'
    rw [names_append] at ha hb
    rcases List.mem_append.mp ha with ha' | ha' <;> rcases List.mem_append.mp hb with hb' | hb'
    · rw [st.nm a ha', st.nm b hb'] at e'; exact R.inj a b ha' hb' e'
    · have h2 : b = m := by simpa using hb'
      rw [h2, hself, st.nm a ha'] at e'
      exact absurd e' (ne a ha')
    · have h2 : a = m := by simpa using ha'
      rw [h2, hself, st.nm b hb'] at e'
      exact absurd e'.symm (ne b hb')
    · have h1 : a = m := by simpa using ha'
      have h2 : b = m := by simpa using hb'
      rw [h1, h2]
  · intro k o' hk
    rcases List.mem_append.mp hk with hk | hk
    · obtain ⟨h1, h2, h3⟩ := R.live k o' hk
      have e' : setα α m p k = α k := st.nm k (mem_names hk)
      rw [e']
      exact ⟨h1, h2, h3.step st hsub (fun _ _ z => z) fun b w' z => .inl z⟩
    · have e' : (k, o') = (m, u) := by simpa using hk
      cases e'
      rw [hself]
      exact ⟨f0, f1, lat⟩
  · have hk : k ∈ names (S.L ++ [(m, u)]) := hk
    rw [names_append] at hk
    rcases List.mem_append.mp hk with hk | hk
    · rw [st.nm k hk]; exact R.fix k a e' hk
    · have : k = m := by simpa using hk
      rw [this, B.hpa m h100] at e'; cases e'
theorem Rel.adoptIn {α' : Nat → Addr} : ∀ {xss : List (List τ)} {b b' : Nat} {α : Nat → Addr} {L : List (Nat × LO)}, Rel K mg B F α H σ ⟨ρ, L⟩ → 100 ≤ b → (∀ i, i < xss.length → b + i ∉ names L) →
    (∀ i x, xss[i]? = some x → F (α' (b' + i)) = none ∧ (B.H0 (α' (b' + i)) = none ∨ B.fp (α' (b' + i))) ∧ ∃ vs, H (α' (b' + i)) = some (.lst vs) ∧ Reps K mg F (x.map e) vs) →
    (∀ i j, i < xss.length → j < xss.length → α' (b' + i) = α' (b' + j) → i = j) → (∀ k, k ∈ names L → ∀ i, i < xss.length → α k ≠ α' (b' + i)) →
    ∃ α2, Rel K mg B F α2 H σ ⟨ρ, L ++ inL e b xss⟩ ∧ (∀ k, k ∈ names L → α2 k = α k) ∧ ∀ i, i < xss.length → α2 (b + i) = α' (b' + i)
  | [], b, b', α, L, R, _, _, _, _, _ => ⟨α, by rw [show L ++ inL e b [] = L from List.append_nil _]; exact R, fun _ _ => rfl, fun i hi => absurd hi (by simp)⟩
  | x :: r, b, b', α, L, R, h100, hb, hl, hd, hne => by
    obtain ⟨g0, g1, vs, e1, rs⟩ := hl 0 x rfl
    have hb0 : b ∉ names L := hb 0 (by simp)
    have R1 := R.adoptO (m := b) (u := .fl (x.map e)) hb0 h100 g0 g1 ⟨vs, e1, rs⟩ (fun k hk => hne k hk 0 (by simp))
    have self : setα α b (α' (b' + 0)) b = α' (b' + 0) := by unfold setα; rw [if_pos rfl]
    have old : ∀ k, k ∈ names L → setα α b (α' (b' + 0)) k = α k := (stp_setα (F := F) hb0).nm
    have sh : ∀ i, b' + 1 + i = b' + (i + 1) := fun i => by omega
    obtain ⟨α2, R2, k2, n2⟩ := Rel.adoptIn (xss := r) (b := b + 1) (b' := b' + 1) (α' := α') R1 (by omega)
      (fun i hi => by
        show b + 1 + i ∉ names (L ++ [(b, LO.fl (x.map e))])
        rw [names_append, List.mem_append, show b + 1 + i = b + (i + 1) by omega]
        rintro (q | q)
        · exact hb (i + 1) (by simpa using hi) q
        · have : b + (i + 1) = b := by simpa using q
          omega)
      (fun i y hy => by rw [sh]; exact hl (i + 1) y (by simpa using hy))
      (fun i j hi hj q => by
        rw [sh, sh] at q
        have := hd (i + 1) (j + 1) (by simpa using hi) (by simpa using hj) q
        omega)
      (fun k hk i hi => by
        have hk : k ∈ names (L ++ [(b, LO.fl (x.map e))]) := hk
        rw [names_append] at hk
        rcases List.mem_append.mp hk with hk | hk
        · rw [old k hk, sh]; exact hne k hk (i + 1) (by simpa using hi)
        · have : k = b := by simpa using hk
          subst this
          rw [self, sh]
          intro q
          have := hd 0 (i + 1) (by simp) (by simpa using hi) q
          omega)
    refine ⟨α2, ?_, fun k hk => ?_, fun i hi => ?_⟩
    · have : L ++ [(b, LO.fl (x.map e))] ++ inL e (b + 1) r = L ++ inL e b (x :: r) := by rw [List.append_assoc]; rfl
      rw [← this]; exact R2
    · rw [k2 k (by show k ∈ names (L ++ [(b, LO.fl (x.map e))]); rw [names_append]; exact List.mem_append_left _ hk), old k hk]
    · cases i with
      | zero => rw [Nat.add_zero, k2 b (by show b ∈ names (L ++ [(b, LO.fl (x.map e))]); rw [names_append]; exact List.mem_append_right _ (by simp)), self]
      | succ i => rw [show b + (i + 1) = b + 1 + i by omega, n2 i (by simpa using hi), sh]
end
end Nz
namespace Nz
open PySem PySem.Spec PyProof.Rows L2
section
variable {X : Cx} {B : Bd} {S S1 S2 : Nz.S} {K : Out → Prop} {sts : List Stmt} {L L' P : List (Nat × LO)} {ρ : List (Option Ce)} {τ : Type} {enc : τ → D} {xss : List (List τ)} {x : List τ} {n b m : Nat}
theorem exs_perm (hp : L.Perm L') (h : Exs X B sts ⟨ρ, L'⟩ K) : Exs X B sts ⟨ρ, L⟩ K := fun F α H σ D R o => h F α H σ D (R.perm hp) o
variable {a e o i : Expr} {es : List Expr} {pos apos p q : Pos} {d : D} {ds : List D} {y : Str} {fd : FuncData} {ps : List Str} {k : Nat} {sp : SpN} {f : Addr} {c : Ce} {cs cs0 : List Ce}
end
end Nz
namespace Nz
open PySem PySem.Spec PyProof.Rows L2
section
variable {τ : Type} {e : τ → D} {P : List (Nat × LO)} {xss : List (List τ)} {n b : Nat}
theorem boOf_nest (hP : belowB b P = true) (hn : n < b) : boOf (P ++ nest n b e xss) (ceL b xss.length) = some (xss.map (eL e)) :=
  boOf_ce fun i x h => getL_nest (fun z => by have := belowB_ok hP z; omega) hn h
end
end Nz
namespace Nz
open PySem PySem.Spec PyProof.Rows L2
def xvC (n : Nat) (a : Addr) : Option Ce → Option Ce
  | some (.ad k) => if k = n then some (.xv (.ref a)) else none
  | some (.fr d) => some (.fr d)
  | _ => none
def okC (n : Nat) : List (Option Ce) → Bool
  | [] => true
  | some (.ad k) :: r => (k == n) && okC n r
  | some (.xv _) :: _ => false
  | _ :: r => okC n r
/-- how the body ends -/
def nestK (ρ : List (Option Ce)) (n : Nat) (a : Addr) (ds : List D) (q : Prop) (K : Out → Prop) : Out → Prop
  | .nx S => Le S ⟨ρ.map (xvC n a), [(99, .fl ds)]⟩ ∧ q
  | .ct S => Le S ⟨ρ.map (xvC n a), [(99, .fl ds)]⟩ ∧ q
  | .bk _ => False
  | .ret c _ => ∃ d, c = .fr d ∧ ∀ S, K (.ret (.fr d) S)
section
variable {K : Frag} {mg : Mg} {F : Hp} {α α' : Nat → Addr} {L L' : List (Nat × LO)} {n : Nat} {a : Addr}
theorem slr_in (ha : a = α n) : ∀ {ρ : List (Option Ce)} {σ : L2.St}, SlR K mg F α L ρ σ → SlR K mg F α' L' (ρ.map (xvC n a)) σ
  | _, _, .nil => .nil
  | _, _, .no r => .no (slr_in ha r)
  | _, _, .so (c := c) (v := v) h r => by
    cases c with
    | fr d => exact .so (c := .fr d) h (slr_in ha r)
    | xv u => exact .no (slr_in ha r)
    | ad k =>
      obtain ⟨h1, h2⟩ := h
      show SlR K mg F α' L' ((if k = n then some (Ce.xv (.ref a)) else none) :: _) _
      by_cases q : k = n
      · rw [if_pos q]; exact .so (c := .xv (.ref a)) (by show _ = _; rw [h2, q, ha]) (slr_in ha r)
      · rw [if_neg q]; exact .no (slr_in ha r)
theorem slr_out (ha : α' n = a) (hn : n ∈ names L') : ∀ {ρ : List (Option Ce)} {σ : L2.St}, okC n ρ = true → SlR K mg F α L (ρ.map (xvC n a)) σ → SlR K mg F α' L' ρ σ
  | [], _, _, .nil => .nil
  | none :: r, _, h, .no q => .no (slr_out ha hn h q)
  | some (.fr d) :: r, _, h, .so q p => .so (c := .fr d) q (slr_out ha hn h p)
  | some (.xv u) :: r, _, h, _ => by cases h
  | some (.ad k) :: r, σ, h, q0 => by
    have h : ((k == n) && okC n r) = true := h
    rw [Bool.and_eq_true] at h
    have hk : k = n := by simpa using h.1
    have q1 : SlR K mg F α L ((if k = n then some (Ce.xv (.ref a)) else none) :: r.map (xvC n a)) σ := q0
    rw [if_pos hk] at q1
    cases q1 with
    | so q2 p => exact .so (c := .ad k) ⟨by rw [hk]; exact hn, by rw [hk, ha]; exact q2⟩ (slr_out ha hn h.2 p)
theorem slr_none : ∀ {ρ : List (Option Ce)} {σ : L2.St}, SlR K mg F α L ρ σ → SlR K mg F α' L' (List.replicate ρ.length none) σ
  | _, _, .nil => .nil
  | _, _, .no r => .no (slr_none r)
  | _, _, .so _ r => .no (slr_none r)
theorem slr_xv (m : Nat) : ∀ {ρ : List (Option Ce)} {σ : L2.St}, SlR K mg F α L (ρ.map (xvC n a)) σ → SlR K mg F α' L' (ρ.map (xvC n a)) σ
  | [], _, .nil => .nil
  | none :: r, _, .no q => .no (slr_xv m q)
  | some (.fr d) :: r, _, .so q p => .so (c := .fr d) q (slr_xv m p)
  | some (.xv u) :: r, _, .no q => .no (slr_xv m q)
  | some (.ad k) :: r, σ, q0 => by
    have q1 : SlR K mg F α L ((if k = n then some (Ce.xv (.ref a)) else none) :: r.map (xvC n a)) σ := q0
    show SlR K mg F α' L' ((if k = n then some (Ce.xv (.ref a)) else none) :: r.map (xvC n a)) σ
    by_cases z : k = n
    · rw [if_pos z] at q1 ⊢
      cases q1 with
      | so q2 p => exact .so (c := .xv (.ref a)) q2 (slr_xv m p)
    · rw [if_neg z] at q1 ⊢
      cases q1 with
      | no p => exact .no (slr_xv m p)
end
section
variable {X : Cx} {B : Bd} {ρ : List (Option Ce)} {τ : Type} {enc : τ → D} {xss : List (List τ)} {n b : Nat} {tg e : Expr} {body : List Stmt} {pos : Pos} {K : Out → Prop}
theorem ex_forNest (g : List τ → List τ) (Q : Nat → Prop) (q0 : Q 0) (hp : PassesOwn (model X.prog X.w) X.A X.env X.xe) (hc : X.calm = true) (he : Ev X B e ⟨ρ, [] ++ nest n b enc xss⟩ (.ad n) ⟨ρ, [] ++ nest n b enc xss⟩) (hnb : n < b) (h100 : 100 ≤ n) (hρ : okC n ρ = true)
    (hs : ∀ (B' : Bd) (a : Addr) (i : Nat) (x : List τ), xss[i]? = some x → Q i → ∃ S2, Eg X B' tg (.ad 99) ⟨ρ.map (xvC n a), [(99, .fl (x.map enc))]⟩ S2 ∧ Exs X B' body S2 (nestK ρ n a ((g x).map enc) (Q (i + 1)) K))
    (hd : Q xss.length → K (.nx ⟨ρ, [] ++ nest n b enc (xss.map g)⟩)) (hf : ∀ x, foldedSetIterable e X.env x = pure x := by intro _; rfl) : Ex X B (.For tg e body [] pos) ⟨ρ, [] ++ nest n b enc xss⟩ K :=
  fun F α H σ D R o => wS.of (ps_for hp hc (pi_list pe_w) pg_w pss_w hf) (he F α H σ _ R fun F1 α1 v1 H1 R1 st1 r1 => by
    obtain ⟨hnm, rfl⟩ := r1
    have hmO : (n, LO.cl (ceL b xss.length)) ∈ [] ++ nest n b enc xss := List.mem_cons_self
    have hmI : ∀ i x, xss[i]? = some x → (b + i, LO.fl (x.map enc)) ∈ [] ++ nest n b enc xss := fun i x h => List.mem_cons_of_mem _ (mem_inL.mpr ⟨i, x, h, rfl, rfl⟩)
    have hI : ∀ i, i < xss.length → ∃ x, xss[i]? = some x := fun i hi => ⟨_, List.getElem?_eq_getElem hi⟩
    obtain ⟨f0, f1, vs, e1, rs⟩ := R1.live n _ hmO
    obtain ⟨hvl, hvg⟩ := crels_ceL rs
    have hB : ∀ i, i < xss.length → B.H0 (α1 (b + i)) = none ∨ B.fp (α1 (b + i)) := fun i hi => by
      obtain ⟨x, hx⟩ := hI i hi; exact (R1.live _ _ (hmI i x hx)).2.1
    have hinj : ∀ i j, i < xss.length → j < xss.length → α1 (b + i) = α1 (b + j) → i = j := fun i j hi hj q => by
      obtain ⟨x, hx⟩ := hI i hi
      obtain ⟨z, hz⟩ := hI j hj
      have := R1.inj _ _ (mem_names (hmI i x hx)) (mem_names (hmI j z hz)) q
      omega
    have hne : ∀ i, i < xss.length → α1 (b + i) ≠ α1 n := fun i hi q => by
      obtain ⟨x, hx⟩ := hI i hi
      have := R1.inj _ _ (mem_names (hmI i x hx)) (mem_names hmO) q
      omega
    have o1 := o.mono st1.fro
    -- what holds before the i-th turn
    let Inn : Nat → Hp → Hp → Prop := fun i F' H' => Q i ∧ F' (α1 n) = none ∧ H' (α1 n) = some (.lst vs) ∧ ∀ k x, xss[k]? = some x → F' (α1 (b + k)) = none ∧ ∃ ws, H' (α1 (b + k)) = some (.lst ws) ∧ Reps X.K X.mg F' ((if k < i then g x else x).map enc) ws
    refine ⟨α1 n, rfl, ⟨vs, SqL.of e1⟩, fun i m σ' H' => m = xss.length - i ∧ i ≤ xss.length ∧ ∃ F' α', RelX X B F' α' H' σ' ⟨ρ.map (xvC n (α1 n)), []⟩ ∧ Same F1 F' ∧ Inn i F' H', ⟨xss.length, by simp, Nat.zero_le _, F1, α1, ?_, Same.refl _, q0, f0, e1, fun k x hk => ?_⟩, ?_⟩
    · exact ⟨R1.sub, R1.bF, R1.nF, R1.frame, List.nodup_nil, fun n m h => absurd h (by simp [names]), fun n o h => absurd h (by simp), slr_in rfl R1.slots, fun n a h hn => absurd hn (by simp [names])⟩
    · obtain ⟨g0, _, ws, hw, rw'⟩ := R1.live _ _ (hmI k x hk)
      rw [if_neg (Nat.not_lt_zero k)]
      exact ⟨g0, ws, hw, rw'⟩
    rintro i m σ' H' ⟨rfl, hi, F', α', R', sm, iQ, iO, iH, iI⟩
    -- behind a turn: what was entered with B' is there with B, too
    have back : ∀ {ai : Addr} {α0 : Nat → Addr} {F4 α4 H4 σ4 S4} {ρ4 : List (Option Ce)}, (B.H0 ai = none ∨ B.fp ai) → Rel X.K X.mg (bdOf F' H' (fun c => c = ai) α0 []) F4 α4 H4 σ4 S4 → SlR X.K X.mg F4 α4 [] ρ4 σ4 → RelX X B F4 α4 H4 σ4 ⟨ρ4, []⟩ := fun {ai α0 F4 α4 H4 σ4 S4 ρ4} hb R4 q =>
      ⟨R4.sub, R'.bF.trans R4.bF, fun c o e => by
        rcases R4.nF c o e with z | z | z
        · exact R'.nF c o z
        · by_cases w : B.fp c
          · exact .inr (.inr w)
          · refine .inr (.inl ?_)
            have z : H' c = none := z
            cases q : B.H0 c with
            | none => rfl
            | some u => rw [R'.frame c u q w] at z; cases z
        · have z : c = ai := z
          rw [z]; exact .inr hb, fun c o e nf => R4.frame c o (R'.frame c o e nf) fun z => by
        have z : c = ai := z
        rw [z] at e nf
        rcases hb with w | w
        · rw [w] at e; cases e
        · exact nf w, List.nodup_nil, fun n m h => absurd h (by simp [names]), fun n o h => absurd h (by simp), q, fun n a h hn => absurd hn (by simp [names])⟩
    by_cases hlt : i < xss.length
    · obtain ⟨xi, hxi⟩ := hI i hlt
      obtain ⟨g0, ws, hw, rw'⟩ := iI i xi hxi
      rw [if_neg (Nat.lt_irrefl i)] at rw'
      refine .inr ⟨⟨vs, _, SqL.of iH, (hvg i hlt).1⟩, fun σ2 H2 => ∃ F2 α2, RelX X B F2 α2 H2 σ2 ⟨ρ.map (xvC n (α1 n)), []⟩ ∧ Same F1 F2 ∧ Inn (i + 1) F2 H2, fun σ2 H2 ⟨F2, α2, z⟩ => ⟨xss.length - (i + 1), by omega, rfl, hlt, F2, α2, z⟩, fun x H2 y => ?_⟩
      obtain ⟨rfl, y⟩ := y
      have hx := y vs (SqL.of iH)
      rw [(hvg i hlt).1] at hx
      have hx := (Option.some.inj hx).symm
      have self : setα α' 99 (α1 (b + i)) 99 = α1 (b + i) := by unfold setα; rw [if_pos rfl]
      have RB : Rel X.K X.mg (bdOf F' H2 (fun c => c = α1 (b + i)) (setα α' 99 (α1 (b + i))) []) F' (setα α' 99 (α1 (b + i))) H2 σ' ⟨ρ.map (xvC n (α1 n)), [(99, .fl (xi.map enc))]⟩ := by
        refine ⟨R'.sub, Same.refl _, fun c o e => .inl e, fun c o e _ => e, by simp [names], fun p q hp hq _ => ?_, fun k o hk => ?_, slr_xv 0 R'.slots, fun k a h hk => ?_⟩
        · have h1 : p = 99 := by simpa [names] using hp
          have h2 : q = 99 := by simpa [names] using hq
          rw [h1, h2]
        · have e' : (k, o) = (99, LO.fl (xi.map enc)) := by simpa using hk
          cases e'
          rw [self]
          exact ⟨g0, .inr rfl, ws, hw, rw'⟩
        · have h1 : k = 99 := by simpa [names] using hk
          subst h1
          exact Option.some.inj h
      obtain ⟨S2, hg, hb⟩ := hs (bdOf F' H2 (fun c => c = α1 (b + i)) (setα α' 99 (α1 (b + i))) []) (α1 n) i xi hxi iQ
      refine hg F' (setα α' 99 (α1 (b + i))) H2 σ' x _ RB ⟨by simp [names], by rw [self]; exact hx⟩ fun σ3 F3 H3 R3 s3 => hb F3 _ H3 σ3 _ R3 ?_
      have key : ∀ S' F4 α4 H4 σ4, Le S' ⟨ρ.map (xvC n (α1 n)), [(99, .fl ((g xi).map enc))]⟩ → Q (i + 1) → Rel X.K X.mg (bdOf F' H2 (fun c => c = α1 (b + i)) (setα α' 99 (α1 (b + i))) []) F4 α4 H4 σ4 S' → ∃ F2 α2, RelX X B F2 α2 H4 σ4 ⟨ρ.map (xvC n (α1 n)), []⟩ ∧ Same F1 F2 ∧ Inn (i + 1) F2 H4 := fun S' F4 α4 H4 σ4 hle hq R4 => by
        have R4 := R4.le hle
        have h99 : α4 99 = α1 (b + i) := R4.fix 99 _ (show some (setα α' 99 (α1 (b + i)) 99) = _ by rw [self]) (by simp [names])
        have hF : Same F' F4 := R4.bF
        have nF : ∀ c w, H2 c = some w → c ≠ α1 (b + i) → F' c = none → F4 c = none := fun c w h1 h2 h3 => by
          cases q : F4 c with
          | none => rfl
          | some u =>
            rcases R4.nF c u q with z | z | z
            · have z : F' c = some u := z
              rw [h3] at z; cases z
            · have z : H2 c = none := z
              rw [h1] at z; cases z
            · exact absurd z h2
        refine ⟨F4, α4, back (hB i hlt) R4 (slr_xv 0 R4.slots), sm.trans hF, hq, nF _ _ iH (fun z => hne i hlt z.symm) iO, R4.frame _ _ iH (fun z => hne i hlt (show α1 n = _ from z).symm), fun k x hk => ?_⟩
        by_cases q : k = i
        · subst q
          have : x = xi := by rw [hxi] at hk; exact (Option.some.inj hk).symm
          subst this
          obtain ⟨z0, _, us, z1, z2⟩ := R4.live 99 _ List.mem_cons_self
          rw [h99] at z0 z1
          rw [if_pos (Nat.lt_succ_self k)]
          exact ⟨z0, us, z1, z2⟩
        · obtain ⟨z0, us, z1, z2⟩ := iI k x hk
          have hkl : k < xss.length := (List.getElem?_eq_some_iff.mp hk).1
          have hni : α1 (b + k) ≠ α1 (b + i) := fun z => q (hinj k i hkl hlt z)
          refine ⟨nF _ _ z1 hni z0, us, R4.frame _ _ z1 hni, ?_⟩
          have e2 : (if k < i + 1 then g x else x) = (if k < i then g x else x) := by
            by_cases w : k < i
            · rw [if_pos w, if_pos (by omega)]
            · rw [if_neg w, if_neg (by omega)]
          rw [e2]; exact z2.mono hF
      refine ⟨fun S' F4 α4 H4 σ4 k4 R4 s4 => key S' F4 α4 H4 σ4 k4.1 k4.2 R4, fun S' F4 α4 H4 σ4 k4 R4 s4 => k4.elim, fun S' F4 α4 H4 σ4 k4 R4 s4 => key S' F4 α4 H4 σ4 k4.1 k4.2 R4, fun c S' F4 α4 H4 σ4 v k4 R4 s4 r4 => ?_⟩
      obtain ⟨d, rfl, hk⟩ := k4
      have hF : Same F' F4 := R4.bF
      exact o1.ret (.fr d) ⟨List.replicate S'.ρ.length none, []⟩ F4 α4 H4 σ4 v (hk _) (back (hB i hlt) R4 (slr_none R4.slots)) (sm.trans hF) r4
    · have hie : i = xss.length := by omega
      subst hie
      refine .inl ⟨⟨vs, SqL.of iH, by omega⟩, ?_⟩
      have hIn : ∀ k y, (xss.map g)[k]? = some y → F' (α1 (b + k)) = none ∧ (B.H0 (α1 (b + k)) = none ∨ B.fp (α1 (b + k))) ∧ ∃ ws, H' (α1 (b + k)) = some (.lst ws) ∧ Reps X.K X.mg F' (y.map enc) ws := fun k y hy => by
        rw [List.getElem?_map] at hy
        cases q : xss[k]? with
        | none => rw [q] at hy; cases hy
        | some x =>
          rw [q] at hy
          have hy : g x = y := Option.some.inj hy
          have hkl : k < xss.length := (List.getElem?_eq_some_iff.mp q).1
          obtain ⟨z0, us, z1, z2⟩ := iI k x q
          rw [if_pos hkl, hy] at z2
          exact ⟨z0, hB k hkl, us, z1, z2⟩
      have hml : (xss.map g).length = xss.length := List.length_map _
      obtain ⟨α2, R2, k2, n2⟩ := R'.adoptIn (e := enc) (xss := xss.map g) (b := b) (b' := b) (α' := α1) (L := []) (by omega) (fun i hi z => absurd z (by simp [names])) hIn
        (fun i j hi hj q => hinj i j (by omega) (by omega) q) (fun k hk => absurd hk (by simp [names]))
      have hnI : n ∉ names (([] : List (Nat × LO)) ++ inL enc b (xss.map g)) := fun z => by
        rw [List.nil_append] at z
        have := names_inL.mp z; omega
      have R3 := R2.adoptO (m := n) (u := .cl (ceL b (xss.map g).length)) (p := α1 n) hnI h100 iO (by have := (R1.live n _ hmO).2.1; exact this) ⟨vs, iH, by
        have hcc := crels_ceL_of (K := X.K) (mg := X.mg) (F := F') (α := setα α2 n (α1 n)) (L := [] ++ inL enc b (xss.map g) ++ [(n, .cl (ceL b (xss.map g).length))]) (k := (xss.map g).length) (b := b) fun i hi => by
          rw [names_app, List.nil_append]
          exact List.mem_append_left _ (names_inL.mpr (by omega))
        have eus : vs = (List.range (xss.map g).length).map fun i => V.ref (setα α2 n (α1 n) (b + i)) := by
          apply List.ext_getElem?
          intro i
          by_cases hi : i < xss.length
          · rw [(hvg i hi).1, List.getElem?_map, List.getElem?_range (by omega)]
            show _ = some (V.ref (if b + i = n then α1 n else α2 (b + i)))
            rw [if_neg (by omega), n2 i (by omega)]
          · rw [List.getElem?_eq_none (by omega), List.getElem?_eq_none (by simp; omega)]
        rw [eus]; exact hcc⟩ (fun k hk q => by
          rw [List.nil_append] at hk
          obtain ⟨z1, z2⟩ := names_inL.mp hk
          have e1 := n2 (k - b) (by omega)
          rw [show b + (k - b) = k by omega, q] at e1
          exact hne (k - b) (by omega) (by rw [show b + (k - b) = k by omega]; exact e1.symm))
      have R4 := R3.perm (L' := [] ++ nest n b enc (xss.map g)) (by
        rw [List.append_assoc]
        exact List.Perm.append_left _ (List.perm_append_singleton (n, LO.cl (ceL b (xss.map g).length)) (inL enc b (xss.map g))))
      have self : setα α2 n (α1 n) n = α1 n := by unfold setα; rw [if_pos rfl]
      exact o1.nx ⟨ρ, [] ++ nest n b enc (xss.map g)⟩ F' _ H' σ' (hd iQ) ⟨R4.sub, R4.bF, R4.nF, R4.frame, R4.nd, R4.inj, R4.live, slr_out self List.mem_cons_self hρ R4.slots, R4.fix⟩ sm)
end
end Nz
namespace Nz
open PySem PySem.Spec PyProof.Rows L2
end Nz
namespace Nz
open PySem PySem.Spec PyProof.Rows L2
section
variable {K : Frag} {mg : Mg} {B : Bd} {F : Hp} {α : Nat → Addr} {H : Hp} {σ : L2.St} {S : Nz.S} {ρ' : List (Option Ce)}
/-- all that lives is frozen -/
theorem Rel.freezeAll (R : Rel K mg B F α H σ S) (h : LeCs S.L S.ρ ρ') : Rel K mg B (lendN F H α S.L) α H σ ⟨ρ', []⟩ :=
  ⟨R.lendN_sub, R.bF.trans R.lendN_same, fun b o e => by
    unfold lendN at e
    by_cases z : lentN α S.L b
    · obtain ⟨n, u, h1, _, rfl⟩ := z
      exact .inr (R.live n u h1).2.1
    · rw [if_neg z] at e; exact R.nF b o e, R.frame, List.nodup_nil, fun n m h => absurd h (by simp [names]), fun n o h => absurd h (by simp), R.lendN_slots h R.slots, fun n a h hn => absurd hn (by simp [names])⟩
end
section
variable {X : Cx} {B : Bd} {S S1 : Nz.S} {K : Out → Prop} {sts : List Stmt} {ρ ρ' : List (Option Ce)} {τ : Type} {enc : τ → D} {xss : List (List τ)} {n b : Nat} {e o i a : Expr} {p p2 pos : Pos} {d : D} {P : List (Nat × LO)}
theorem exs_freezeAll (hf : LeCs S.L S.ρ ρ') (h : Exs X B sts ⟨ρ', []⟩ K) : Exs X B sts S K := fun F α H σ D R oo => h _ α H σ D (R.freezeAll hf) (oo.mono R.lendN_same)
end
end Nz
namespace Nz
open PySem PySem.Spec PyProof.Rows L2
end Nz
namespace Nz
open PySem PySem.Spec PyProof.Rows L2
end Nz
namespace Nz
open PySem PySem.Spec PyProof.Rows L2
end Nz
namespace Nz
open PySem PySem.Spec PyProof.Rows L2
end Nz
namespace Nz
open PySem PySem.Spec PyProof.Rows L2
end Nz
namespace Nz
open PySem PySem.Spec PyProof.Rows L2
end Nz
namespace Nz
open PySem PySem.Spec PyProof.Rows L2
section
variable {τ : Type} [DecidableEq τ] [Inhabited τ] {n : Nat} {e : τ → D} {lt : τ → τ → Bool} {X : Cx}
theorem toPs_get (o : OrdEnc n e lt) : ∀ (xs : List τ) (i : Nat), i < xs.length → (toPs (xs.map e)).getD i .none = toP (e (xs.getD i default))
  | [], i, h => absurd h (by simp)
  | x :: xs, 0, _ => by simp only [List.map_cons, toPs]; rfl
  | x :: xs, i + 1, h => by
    simp only [List.map_cons, toPs]
    exact toPs_get o xs i (by simpa using h)
theorem toPs_alike (o : OrdEnc n e lt) (xs : List τ) : PySem.W.AlikeAll (toPs (xs.map e)) := by
  have hm : ∀ {xs : List τ} {d : PyData}, d ∈ toPs (xs.map e) → ∃ x, d = toP (e x) := by
    intro xs
    induction xs with
    | nil => intro d h; simp only [List.map_nil, toPs] at h; cases h
    | cons x xs ih =>
      intro d h
      simp only [List.map_cons, toPs] at h
      rcases List.mem_cons.mp h with q | q
      · exact ⟨x, q⟩
      · exact ih q
  constructor
  · intro x hx y hy
    obtain ⟨a, rfl⟩ := hm hx
    obtain ⟨b, rfl⟩ := hm hy
    exact o.alike a b
  · intro x hx
    obtain ⟨a, rfl⟩ := hm hx
    exact o.some a
theorem toP_inj (o : OrdEnc n e lt) {x y : τ} (h : toP (e x) = toP (e y)) : x = y := by
  have h1 := o.eqv x x
  have h2 := o.eqv x y
  rw [← h] at h2
  rw [h1] at h2
  simpa using h2
theorem each_readsAll {h : Heap} : ∀ {us : List Value} {xs : List τ}, PySem.W.EachIs (fun (u : Value) (x : τ) => ∃ as, Reads h u (toP (e x)) as) us xs → ∃ bs, ReadsAll h us (toPs (xs.map e)) bs
  | _, _, .nil => ⟨[], by simp only [List.map_nil, toPs]; exact .nil⟩
  | _, _, .cons ⟨as, r⟩ t => by
    obtain ⟨bs, rs⟩ := each_readsAll t
    exact ⟨as ++ bs, by simp only [List.map_cons, toPs]; exact .cons r rs⟩
end
end Nz
namespace Nz
open PySem PySem.Spec PyProof.Rows L2
/-- how a zip stands that gave out i pairs, all of them still held -/
def ZSt (z TI TO i1 i2 l1 l2 : Addr) (i : Nat) (h : Heap) : Prop :=
  IsPair h TI (.ref i1) (.ref i2) ∧ h.IsListIter i1 l1 i ∧ h.IsListIter i2 l2 i ∧ (∃ o, h.get? TO = some o) ∧
    ((IsZip h z TI TO .none ∧ ∃ x y, IsPair h TO x y) ∨ ∃ T f oT, IsZipHeld h z TI TO T f ∧ h.get? T = some oT ∧ T ∉ [z, TI, TO, i1, i2])
theorem ZSt.frame {z TI TO i1 i2 l1 l2 : Addr} {i : Nat} {h h' : Heap} {S : Addr} (st : ZSt z TI TO i1 i2 l1 l2 i h) (hS : S ∉ [z, TI, TO, i1, i2]) (hk : ∀ b o, b ≠ S → h.get? b = some o → h'.get? b = some o)
    (hS2 : ∀ o, h.get? S = some o → ∃ o', h'.get? S = some o') : ZSt z TI TO i1 i2 l1 l2 i h' := by
  obtain ⟨a1, a2, a3, ⟨oo, aO⟩, a4⟩ := st
  simp only [List.mem_cons, List.not_mem_nil, or_false, not_or] at hS
  obtain ⟨s1, s2, s3, s4, s5⟩ := hS
  refine ⟨hk _ _ (Ne.symm s2) a1, a2.at fun o e => hk _ o (Ne.symm s4) e, a3.at fun o e => hk _ o (Ne.symm s5) e, ⟨oo, hk _ _ (Ne.symm s3) aO⟩, ?_⟩
  rcases a4 with ⟨a, x, y, b⟩ | ⟨T, f, oT, a, b, c⟩
  · exact .inl ⟨hk _ _ (Ne.symm s1) a, x, y, hk _ _ (Ne.symm s3) b⟩
  · by_cases q : T = S
    · subst q
      obtain ⟨o', ho⟩ := hS2 _ b
      exact .inr ⟨T, f, o', hk _ _ (Ne.symm s1) a, ho, c⟩
    · exact .inr ⟨T, f, oT, hk _ _ (Ne.symm s1) a, hk _ _ q b, c⟩
section
variable {X : Cx} {B : Bd} {S S1 : Nz.S} {τ μ : Type} {enc : τ → D} {encB : μ → D}
/-- xs * k, a new list that lives -/
theorem ev_repN (m : Nat) {a b : Expr} {pos : Pos} {S2 : Nz.S} {xs : List τ} {k : Int} {ca : Ce} (ha : Ev X B a S ca S1) (hb : Ev X B b S1 (.fr (.int k)) S2) (hA : AsL S2.L ca (xs.map enc)) (h1 : -(2 ^ 63) ≤ k) (h2 : k < 2 ^ 63) (hz : xs.length * k.toNat ≤ sizeLine) (hn : m ∉ names S2.L) (h100 : 100 ≤ m)
    (g1 : Sub S.L S1.L := by exact Sub.refl) (g2 : Sub S1.L S2.L := by exact Sub.refl) : Ev X B (.BinOp a .Mult b pos) S (.ad m) ⟨S2.ρ, S2.L ++ [(m, .fl ((List.replicate k.toNat xs).flatten.map enc))]⟩ :=
  fun F α H σ Q R kk pins s I => by
    refine wpAny_BinOp (thn (ha F α H σ _ R (fun F1 α1 v1 H1 R1 st1 r1 => hb F1 α1 H1 σ (fun v2 H2 => ∃ F2 α2, RelX X B F2 α2 H2 σ S2 ∧ Stp F α S.L F2 α2 ∧ CR X F2 α2 S2.L ca v1 ∧ CR X F2 α2 S2.L (.fr (.int k)) v2) R1 fun F2 α2 v2 H2 R2 st2 r2 =>
      ⟨F2, α2, R2, st1.trans st2 g1, CRel.step st2 g2 r1, r2⟩) pins s I) fun v s1 ⟨x, H1, I1, rv, q1⟩ => thn (q1 pins s1 I1) fun u s2 ⟨y, H2, I2, ru, F2, α2, R2, st, r1, r2⟩ => ?_)
    cases r2
    obtain ⟨l, vs, rfl, hq, rs⟩ := R2.asL hA r1
    cases rv
    obtain ⟨t, rfl⟩ := ru
    obtain ⟨its, r, ⟨⟨cl, od, dt, sl⟩, n, e, c1, o1, t1⟩, z1⟩ := I2.list hq
    simp only at c1 o1 t1
    subst c1 o1 t1
    have hl := r.length
    have hl2 := rs.length
    rw [List.length_map] at hl2
    have hlen : its.toArray.size * k.toNat ≤ sizeLine := by rw [List.size_toArray, ← hl, ← hl2]; exact hz
    have hcap : ¬ its.toArray.size * k.toNat > (2 ^ 63 - 1) / 8 := by
      have : (sizeLine : Nat) ≤ (2 ^ 63 - 1) / 8 := by decide
      omega
    have hfit : ¬ (!Builtin.List.listFitsIndex k) = true := by
      rw [fitsIndex_both h1 h2]
      exact Bool.false_ne_true
    have hlong : ¬ Builtin.List.listTooLong (its.toArray.size * k.toNat) = true := by
      rw [notLongL hlen]
      exact Bool.false_ne_true
    have hnew : List.foldl (fun x1 x2 => x1 ++ x2) #[] (List.replicate (if its.toArray.isEmpty = true then 0 else k.toNat) its.toArray) = (List.replicate k.toNat its).flatten.toArray := by
      have f0 : ∀ m : Nat, List.foldl (fun x1 x2 => x1 ++ x2) #[] (List.replicate m its.toArray) = (List.replicate m its).flatten.toArray := fun m => by
        have := foldl_rep its m []
        rw [List.nil_append] at this
        exact this
      rw [f0]
      cases its with
      | nil => simp
      | cons a r' => rw [if_neg (by simp)]
    refine wpAny_binaryOp_repeat_ref (T := "list") (U := "int") (by decide) ⟨_, e, rfl⟩ (fun s' => typeIs_int s' k t) noFill_list_mul PySem.F.fills_int_mul PySem.F.slot_int_rmul repeat_list PySem.F.slot_int_index.lookup
      (call_meets PySem.F.slot_int_rmul (typeIs_int s2 k t) PySem.F.entry_int_rmul (PySem.F.args_int_rmul_2 _ _) (nz_rmul k t l its.toArray n sl)
        ⟨e, rfl, ⟨_, e, rfl⟩, call_meets PySem.F.slot_list_mul ⟨_, e, rfl⟩ PySem.F.entry_list_mul (PySem.F.args_list_mul_2 _ _) (nz_lmul l its.toArray n sl k t hfit hcap hlong) ⟨e, ?_⟩⟩)
    rw [hnew]
    have rr : Reps X.K X.mg F2 ((List.replicate k.toNat xs).flatten.map enc) (List.replicate k.toNat vs).flatten := by
      have : (List.replicate k.toNat xs).flatten.map enc = (List.replicate k.toNat (xs.map enc)).flatten := by rw [List.map_flatten, List.map_replicate]
      rw [this]
      exact Reps.repl rs k.toNat
    refine ⟨.ref _, _, I2.lnew (t' := s2.toks) (r.rep k.toNat) (by rw [PyProof.Rows.lm_len_rep_flat, Nat.mul_comm, ← hl2]; exact hz), rfl, kk F2 (setα α2 m _) _ _ (R2.allocL I2.fresh hn h100 ⟨_, upd_same, rr⟩) (st.trans (stp_setα hn) fun n h => g2 n (g1 n h)) ⟨?_, ?_⟩⟩
    · rw [names_append]; exact List.mem_append_right _ (List.mem_singleton.mpr rfl)
    · show V.ref _ = V.ref (if m = m then _ else α2 m)
      rw [if_pos rfl]
end
end Nz
namespace Nz
open PySem PySem.Spec PyProof.Rows L2
section
variable {κ τ : Type} [DecidableEq κ]
def dget (xs : List (κ × τ)) (k : κ) : Option τ := (xs.find? fun p => decide (p.1 = k)).map (·.2)
def dput (xs : List (κ × τ)) (k : κ) (v : τ) : List (κ × τ) := if (xs.any fun p => decide (p.1 = k)) = true then xs.map (fun p => if p.1 = k then (p.1, v) else p) else xs ++ [(k, v)]
theorem dget_cons (p : κ × τ) (xs : List (κ × τ)) (k : κ) : dget (p :: xs) k = if p.1 = k then some p.2 else dget xs k := by
  unfold dget
  rw [List.find?_cons]
  by_cases h : p.1 = k
  · rw [if_pos h, decide_eq_true h]; rfl
  · rw [if_neg h, decide_eq_false h]
theorem dany (xs : List (κ × τ)) (k : κ) : (xs.any fun p => decide (p.1 = k)) = (dget xs k).isSome := by
  induction xs with
  | nil => rfl
  | cons p xs ih =>
    rw [List.any_cons, dget_cons, ih]
    by_cases h : p.1 = k
    · rw [if_pos h, decide_eq_true h]; rfl
    · rw [if_neg h, decide_eq_false h]; rfl
end
section
variable {κ : Type} [DecidableEq κ] {K : Frag} {mg : Mg} {F F' : Hp}
abbrev PrR (κ : Type) (K : Frag) (mg : Mg) (F : Hp) (ds : List (κ × D)) (vs : List (κ × V)) : Prop := Paired (fun (p : κ × D) (q : κ × V) => p.1 = q.1 ∧ Rep K mg F p.2 q.2) ds vs
theorem PrR.of : ∀ {ds : List (κ × D)} {vs : List (κ × V)}, ds.map Prod.fst = vs.map Prod.fst → Reps K mg F (ds.map Prod.snd) (vs.map Prod.snd) → PrR κ K mg F ds vs
  | [], [], _, _ => .nil
  | [], _ :: _, h, _ => by cases h
  | _ :: _, [], h, _ => by cases h
  | p :: ds, q :: vs, h, r => by
    rw [List.map_cons, List.map_cons] at h
    cases r with
    | cons r1 r2 => exact .cons ⟨(List.cons.inj h).1, r1⟩ (PrR.of (List.cons.inj h).2 r2)
theorem PrR.mono (s : Same F F') {ds : List (κ × D)} {vs : List (κ × V)} (h : PrR κ K mg F ds vs) : PrR κ K mg F' ds vs := Paired.imp (fun _ _ z => ⟨z.1, z.2.mono s⟩) h
theorem PrR.get : ∀ {ds : List (κ × D)} {vs : List (κ × V)} {k : κ} {d : D}, PrR κ K mg F ds vs → dget ds k = some d → ∃ v, dget vs k = some v ∧ Rep K mg F d v
  | _, _, k, d, .nil, h => by cases h
  | p :: ds, q :: vs, k, d, .cons ⟨h1, h2⟩ r, h => by
    rw [dget_cons] at h ⊢
    rw [← h1]
    by_cases z : p.1 = k
    · rw [if_pos z] at h ⊢
      cases h
      exact ⟨_, rfl, h2⟩
    · rw [if_neg z] at h ⊢
      exact PrR.get r h
theorem PrR.getN : ∀ {ds : List (κ × D)} {vs : List (κ × V)} {k : κ}, PrR κ K mg F ds vs → dget ds k = none → dget vs k = none
  | _, _, k, .nil, h => rfl
  | p :: ds, q :: vs, k, .cons ⟨h1, h2⟩ r, h => by
    rw [dget_cons] at h ⊢
    rw [← h1]
    by_cases z : p.1 = k
    · rw [if_pos z] at h; cases h
    · rw [if_neg z] at h ⊢
      exact PrR.getN r h
theorem PrR.some {ds : List (κ × D)} {vs : List (κ × V)} {k : κ} (h : PrR κ K mg F ds vs) : (dget vs k).isSome = (dget ds k).isSome := by
  cases q : dget ds k with
  | none => rw [h.getN q]; rfl
  | some d => obtain ⟨v, e, _⟩ := h.get q; rw [e]; rfl
theorem PrR.length : ∀ {ds : List (κ × D)} {vs : List (κ × V)}, PrR κ K mg F ds vs → ds.length = vs.length
  | _, _, .nil => rfl
  | _, _, .cons _ r => congrArg (· + 1) (PrR.length r)
theorem PrR.app : ∀ {ds : List (κ × D)} {vs : List (κ × V)} {es : List (κ × D)} {us : List (κ × V)}, PrR κ K mg F ds vs → PrR κ K mg F es us → PrR κ K mg F (ds ++ es) (vs ++ us)
  | _, _, _, _, .nil, s => s
  | _, _, _, _, .cons h r, s => .cons h (PrR.app r s)
theorem PrR.upd {k : κ} {d : D} {v : V} (h0 : Rep K mg F d v) : ∀ {ds : List (κ × D)} {vs : List (κ × V)}, PrR κ K mg F ds vs → PrR κ K mg F (ds.map fun p => if p.1 = k then (p.1, d) else p) (vs.map fun p => if p.1 = k then (p.1, v) else p)
  | _, _, .nil => .nil
  | p :: ds, q :: vs, .cons ⟨h1, h2⟩ r => by
    refine .cons ?_ (PrR.upd h0 r)
    show (if p.1 = k then (p.1, d) else p).1 = (if q.1 = k then (q.1, v) else q).1 ∧ Rep K mg F (if p.1 = k then (p.1, d) else p).2 (if q.1 = k then (q.1, v) else q).2
    by_cases z : p.1 = k
    · have z2 : q.1 = k := h1 ▸ z
      rw [if_pos z, if_pos z2]; exact ⟨h1, h0⟩
    · have z2 : ¬ q.1 = k := h1 ▸ z
      rw [if_neg z, if_neg z2]; exact ⟨h1, h2⟩
theorem PrR.put {ds : List (κ × D)} {vs : List (κ × V)} {k : κ} {d : D} {v : V} (h : PrR κ K mg F ds vs) (h0 : Rep K mg F d v) : PrR κ K mg F (dput ds k d) (dput vs k v) := by
  unfold dput
  rw [dany, dany, h.some]
  split
  · exact PrR.upd h0 h
  · exact h.app (.cons ⟨rfl, h0⟩ .nil)
end
end Nz
namespace Nz
open PySem PySem.Spec PyProof.Rows L2
end Nz
namespace Nz
open PySem PySem.Spec PyProof.Rows L2 LamX NdefX
/-- the cells of the state s, which no frame of fs is, are as they were -/
def Kept (fs : List Addr) (s : Shared) (H : Hp) (s' : Shared) (H' : Hp) : Prop := ∀ c o v, s.heap.get? c = some o → o.data = .cell v → H c = none → c ∉ fs → s'.heap.get? c = some o ∧ H' c = none
theorem Kept.trans {fs : List Addr} {s s1 s2 : Shared} {H H1 H2 : Hp} (a : Kept fs s H s1 H1) (b : Kept fs s1 H1 s2 H2) : Kept fs s H s2 H2 := fun c o v ho hd hn hf =>
  let ⟨a1, a2⟩ := a c o v ho hd hn hf
  b c o v a1 hd a2 hf
theorem CellsAt.kept {cl : List (Str × Addr)} {fr : List Str} {ws : List (Option V)} {fs : List Addr} {s s' : Shared} {H H' : Hp} (C : CellsAt cl fr ws s.heap H) (k : Kept fs s H s' H') (nf : ∀ y c, cl.lookup y = some c → c ∉ fs) : CellsAt cl fr ws s'.heap H' := by
  have kp : ∀ y c, cl.lookup y = some c → ∀ v, s.heap.IsCell c v → s'.heap.IsCell c v := fun y c e v ⟨o, ho, hd⟩ => ⟨o, (k c o v ho hd (C.all y c e).1 (nf y c e)).1, hd⟩
  refine ⟨C.len, fun y c e => ?_, C.inj, fun i y e => ?_⟩
  · obtain ⟨n, v, o, ho, hd⟩ := C.all y c e
    exact ⟨(k c o v ho hd n (nf y c e)).2, v, o, (k c o v ho hd n (nf y c e)).1, hd⟩
  · obtain ⟨c, hc, hv⟩ := C.has i y e
    refine ⟨c, hc, fun v ev => ?_⟩
    obtain ⟨u, r, z⟩ := hv v ev
    exact ⟨u, r, kp y c hc _ z⟩
theorem rel_start {K : Frag} {mg : Mg} {F H : Hp} {fp : Addr → Prop} {α : Nat → Addr} {L : List (Nat × LO)} {vs : List V} {cs : List Ce} {N : List Str} (R : Rel K mg (bdOf F H fp α L) F α H (vs.map some) ⟨cs.map some, L⟩) : Rel K mg (bdOf F H fp α L) F α H (start N vs) ⟨startC N cs, L⟩ := by
  have e1 : cs.length = vs.length := by have := R.slots.length; simpa using this
  refine ⟨R.sub, R.bF, R.nF, R.frame, R.nd, R.inj, R.live, ?_, R.fix⟩
  show SlR _ _ _ _ _ (cs.map some ++ List.replicate (N.length - cs.length) none) (vs.map some ++ List.replicate (N.length - vs.length) none)
  rw [e1]
  exact R.slots.append (slr_rep _)
end Nz
namespace Nz
open PySem PySem.Spec PyProof.Rows L2 LamX NdefX
end Nz
namespace Nz
open PySem PySem.Spec PyProof.Rows L2 LamX NdefX
end Nz
namespace Nz
open PySem PySem.Spec PyProof.Rows L2 LamX NdefX
structure FunC (K : Frag) (x qual : Str) (st : Stmt) (f : Addr) (fd : FuncData) (c : Addr) : Prop where
  ex : ∃ (oc : Value) (od : Option Addr) (kV doc pm : Value) (an : Option Addr) (ct : Value) (osl : Array (Option Value)),
    fd = PySem.W.fnOf x qual (defArgs st) (defBody st) (defScope st) .none kV doc pm an (.ref c) ct ∧ K.lookup f = some ⟨oc, od, .func fd, osl⟩ ∧ PySem.W.codeIn K (.ref c) qual = true
section
variable {P : Program} {w : World} {K : Frag} {mg : Mg} {base : Heap} {x qual : Str} {st : Stmt} {f c : Addr} {fd : FuncData} {N ps : List Str} {k : Nat}
theorem FunC.okN {sp : SpN} (F : FunC K x qual st f fd c) (S : FnScope N ps (defScope st)) (len : ∀ cs L Kc, sp cs L Kc → cs.length = ps.length)
    (hbody : ∀ (A : Around) (outer : List Env) (s : Shared) (H : Hp) (E : XK) (B : Bd) (cs : List Ce) (L : List (Nat × LO)) (Kc : Ce → List (Nat × LO) → Prop), Room k (A.deeper (envOfC qual (defScope st) s.heap.objs.size f (.ref c))) → sp cs L Kc →
      Exs (cxOf CX0 P w K mg base N qual (defScope st) f (.ref c) A outer s H E).nox B (defBody st) ⟨startC N cs, L⟩ (retK Kc)) : FnOk P w K mg base CX0 (k + 1) f fd ps (SpOf K mg sp) := by
  obtain ⟨oc, od, kV, doc, pm, an, ct, osl, rfl, lk, hcd⟩ := F.ex
  refine fn_of lk hcd S (fun vs H Q E h => ?_) fun A outer s H vs Q E hr h => ?_
  · obtain ⟨F', α, L, cs, fp, R, h⟩ := h
    have e1 := R.slots.length
    have e2 := len _ _ _ h
    simp only [List.length_map] at e1
    omega
  · obtain ⟨F', α, L, cs, fp, R, h⟩ := h
    refine ⟨_, (pss_w (X := (cxOf CX0 P w K mg base N qual (defScope st) f (.ref c) A outer s H E).nox)).nox, hbody A outer s H E (bdOf F' H fp α L) cs L _ hr h F' α H _ _ (rel_start R) ?_⟩
    refine ⟨fun S' F1 α1 H1 σ1 k1 R1 s1 => k1 F1 α1 .non H1 S'.ρ σ1 R1 .non, fun S' F1 α1 H1 σ1 k1 R1 s1 => k1.elim, fun S' F1 α1 H1 σ1 k1 R1 s1 => k1.elim, fun c S' F1 α1 H1 σ1 v k1 R1 s1 r1 => k1 F1 α1 v H1 S'.ρ σ1 R1 r1⟩
end
end Nz
namespace Nz
open PySem PySem.Spec PyProof.Rows L2
end Nz
namespace Nz
open PySem PySem.Spec PyProof.Rows L2
def reC (f : Nat → Nat) : Ce → Ce
  | .ad k => .ad (f k)
  | .fr d => .fr d
  | .xv u => .xv u
def reO (f : Nat → Nat) : LO → LO
  | .fl ds => .fl ds
  | .cl cs => .cl (cs.map (reC f))
  | .ins c fs => .ins c (fs.map fun p => (p.1, reC f p.2))
  | .dT kvs => .dT kvs
  | .dK kvs => .dK kvs
  | .dC kvs => .dC (kvs.map fun p => (p.1, reC f p.2))
  | .tab p nm => .tab p nm
  | .px φ => .px φ
/-- what the cells name is in N -/
def adC (N : List Nat) : Ce → Prop
  | .ad k => k ∈ N
  | _ => True
def adO (N : List Nat) : LO → Prop
  | .cl cs => ∀ c ∈ cs, adC N c
  | .ins _ fs => ∀ p ∈ fs, adC N p.2
  | .dC kvs => ∀ p ∈ kvs, adC N p.2
  | _ => True
section
variable {K : Frag} {mg : Mg} {B B' : Bd} {F F' : Hp} {α α' : Nat → Addr} {H H' : Hp} {σ σ' : L2.St} {S S' : Nz.S} {L L' L0 L1 : List (Nat × LO)} {ρ ρ' : List (Option Ce)} {f : Nat → Nat} {a : Addr}
/-- cells of the caller as the callee's -/
theorem CRel.unre (hN : ∀ k, k ∈ names L0 → f k ∈ names L) : ∀ {c : Ce} {v : V}, adC (names L0) c → CRel K mg F α L (reC f c) v → CRel K mg F (fun k => α (f k)) L0 c v
  | .fr _, _, _, h => h
  | .xv _, _, _, h => h
  | .ad k, _, q, ⟨_, h2⟩ => ⟨q, h2⟩
theorem CRels.unre (hN : ∀ k, k ∈ names L0 → f k ∈ names L) : ∀ {cs : List Ce} {vs : List V}, (∀ c ∈ cs, adC (names L0) c) → CRels K mg F α L (cs.map (reC f)) vs → CRels K mg F (fun k => α (f k)) L0 cs vs
  | [], _, _, .nil => .nil
  | c :: cs, _, h, .cons r rs => .cons (CRel.unre hN (h c List.mem_cons_self) r) (CRels.unre hN (fun x hx => h x (List.mem_cons_of_mem _ hx)) rs)
theorem CRelF.unre (hN : ∀ k, k ∈ names L0 → f k ∈ names L) : ∀ {cs : List (Str × Ce)} {vs : List (Str × V)}, (∀ p ∈ cs, adC (names L0) p.2) → CRelF K mg F α L (cs.map fun p => (p.1, reC f p.2)) vs → CRelF K mg F (fun k => α (f k)) L0 cs vs
  | [], _, _, .nil => .nil
  | c :: cs, _, h, .cons r rs => .cons (CRel.unre hN (h c List.mem_cons_self) r) (CRelF.unre hN (fun x hx => h x (List.mem_cons_of_mem _ hx)) rs)
theorem CRelK.unre {κ : Type} (hN : ∀ k, k ∈ names L0 → f k ∈ names L) : ∀ {cs : List (κ × Ce)} {vs : List (κ × V)}, (∀ p ∈ cs, adC (names L0) p.2) → CRelK K mg F α L (cs.map fun p => (p.1, reC f p.2)) vs → CRelK K mg F (fun k => α (f k)) L0 cs vs
  | [], _, _, .nil => .nil
  | c :: cs, _, h, .cons r rs => .cons (CRel.unre hN (h c List.mem_cons_self) r) (CRelK.unre hN (fun x hx => h x (List.mem_cons_of_mem _ hx)) rs)
/-- cells of the callee as the caller's -/
theorem CRel.re {α2 : Nat → Addr} (hN : ∀ k, k ∈ names L1 → f k ∈ names L ∧ α2 (f k) = α k) : ∀ {c : Ce} {v : V}, CRel K mg F α L1 c v → CRel K mg F α2 L (reC f c) v
  | .fr _, _, h => h
  | .xv _, _, h => h
  | .ad k, _, ⟨h1, h2⟩ => ⟨(hN k h1).1, by rw [h2]; exact congrArg V.ref (hN k h1).2.symm⟩
theorem CRels.re {α2 : Nat → Addr} (hN : ∀ k, k ∈ names L1 → f k ∈ names L ∧ α2 (f k) = α k) : ∀ {cs : List Ce} {vs : List V}, CRels K mg F α L1 cs vs → CRels K mg F α2 L (cs.map (reC f)) vs
  | _, _, .nil => .nil
  | _, _, .cons r rs => .cons (r.re hN) (rs.re hN)
theorem CRelF.re {α2 : Nat → Addr} (hN : ∀ k, k ∈ names L1 → f k ∈ names L ∧ α2 (f k) = α k) : ∀ {cs : List (Str × Ce)} {vs : List (Str × V)}, CRelF K mg F α L1 cs vs → CRelF K mg F α2 L (cs.map fun p => (p.1, reC f p.2)) vs
  | _, _, .nil => .nil
  | _, _, .cons r rs => .cons (r.re hN) (rs.re hN)
theorem CRelK.re {κ : Type} {α2 : Nat → Addr} (hN : ∀ k, k ∈ names L1 → f k ∈ names L ∧ α2 (f k) = α k) : ∀ {cs : List (κ × Ce)} {vs : List (κ × V)}, CRelK K mg F α L1 cs vs → CRelK K mg F α2 L (cs.map fun p => (p.1, reC f p.2)) vs
  | _, _, .nil => .nil
  | _, _, .cons r rs => .cons (r.re hN) (rs.re hN)
/-- no live object is the mark of an owner -/
theorem LAt.nown {o : LO} (h : LAt K mg B F α L H a o) (y : Addr) : H a ≠ some (.own y) := fun e => LAt.notown h a y e rfl
/-- what a callee that is handed L0 may change -/
def fpG (H : Hp) (α : Nat → Addr) (f : Nat → Nat) (L0 : List (Nat × LO)) : Addr → Prop := fun c => ∃ k, k ∈ names L0 ∧ (c = α (f k) ∨ ∃ C vs, H (α (f k)) = some (.ins C c vs))
theorem Rel.callG (R : Rel K mg B F α H σ ⟨ρ, L⟩) {Lx : List (Nat × LO)} (h0 : ∀ k o, (k, o) ∈ L0 → (f k, reO f o) ∈ L ∧ adO (names L0) o) (nd : (names L0).Nodup) (hinj : ∀ j k, j ∈ names L0 → k ∈ names L0 → f j = f k → j = k)
    (hs : SlR K mg F (fun k => α (f k)) L0 ρ' σ') : Rel K mg (bdOf F H (fpG H α f L0) (fun k => α (f k)) Lx) F (fun k => α (f k)) H σ' ⟨ρ', L0⟩ := by
  have hN : ∀ k, k ∈ names L0 → f k ∈ names L := fun k hk => by
    obtain ⟨⟨k', o⟩, h1, h2⟩ := List.mem_map.mp hk
    cases h2
    exact mem_names (h0 _ _ h1).1
  refine ⟨R.sub, Same.refl _, fun b o e => .inl e, fun b o e _ => e, nd, fun j k hj hk e => hinj j k hj hk (R.inj _ _ (hN j hj) (hN k hk) e), fun k o hk => ?_, hs, fun n a h hn => ?_⟩
  · obtain ⟨h1, h2⟩ := h0 k o hk
    obtain ⟨g0, g1, g2⟩ := R.live _ _ h1
    refine ⟨g0, .inr ⟨k, mem_names hk, .inl rfl⟩, ?_⟩
    cases o with
    | fl ds => exact g2
    | cl cs => obtain ⟨vs, e1, r1⟩ := g2; exact ⟨vs, e1, r1.unre hN h2⟩
    | ins c fs => obtain ⟨C, dx, vs, m1, e1, e2, e3, e4, r1⟩ := g2; exact ⟨C, dx, vs, m1, e1, e2, e3, .inr ⟨k, mem_names hk, .inr ⟨C, vs, e1⟩⟩, r1.unre hN h2⟩
    | dT kvs => exact g2
    | dK kvs => exact g2
    | dC kvs => obtain ⟨vs, e1, r1⟩ := g2; exact ⟨vs, e1, r1.unre hN h2⟩
    | tab p nm => exact g2
    | px φ => exact g2
  · have h : (if n < 100 then some (α (f n)) else none) = some a := h
    split at h
    · exact Option.some.inj h
    · cases h
/-- behind the call: what was handed as it is now, what is new -/
theorem Rel.backG {f' : Nat → Nat} {Lc Lx : List (Nat × LO)} (R : Rel K mg B F α H σ ⟨ρ, L⟩) (h0 : ∀ k, k ∈ names L0 → f k ∈ names L) (R' : Rel K mg (bdOf F H (fpG H α f L0) (fun k => α (f k)) Lx) F' α' H' σ' ⟨ρ', L1⟩)
    (h100 : ∀ k, k ∈ names L0 → k < 100) (hk : ∀ k, k ∈ names L0 → k ∈ names L1) (hf : ∀ k, k ∈ names L0 → f' k = f k) (hn : ∀ k, k ∈ names L1 → k ∈ names L0 ∨ (f' k ∉ names L ∧ 100 ≤ f' k)) (hinj : ∀ j k, j ∈ names L1 → k ∈ names L1 → f' j = f' k → j = k)
    (nd : (names Lc).Nodup) (hL : ∀ m, m ∈ names L → m ∈ names Lc) (hL1 : ∀ k, k ∈ names L1 → f' k ∈ names Lc)
    (hc : ∀ m o, (m, o) ∈ Lc → ((m, o) ∈ L ∧ ∀ k, k ∈ names L0 → f k ≠ m) ∨ ∃ k o1, (k, o1) ∈ L1 ∧ m = f' k ∧ o = reO f' o1) :
    ∃ αc, Rel K mg B F' αc H' σ ⟨ρ, Lc⟩ ∧ (∀ m, m ∈ names L → αc m = α m) ∧ (∀ k, k ∈ names L1 → αc (f' k) = α' k) ∧ Same F F' := by
  have hF : Same F F' := R'.bF
  have own : ∀ m, m ∈ names L → ∀ y, H (α m) ≠ some (.own y) := fun m hm y => by
    obtain ⟨⟨m', o⟩, h1, h2⟩ := List.mem_map.mp hm
    cases h2
    exact LAt.nown (R.live _ _ h1).2.2 y
  have isS : ∀ m, m ∈ names L → ∃ u, H (α m) = some u := fun m hm => by
    obtain ⟨⟨m', o⟩, h1, h2⟩ := List.mem_map.mp hm
    cases h2
    exact (R.live _ _ h1).2.2.is
  have ob : ∀ m, m ∈ names L → ∃ o, (m, o) ∈ L ∧ F (α m) = none ∧ (B.H0 (α m) = none ∨ B.fp (α m)) ∧ LAt K mg B F α L H (α m) o := fun m hm => by
    obtain ⟨⟨m', o⟩, h1, h2⟩ := List.mem_map.mp hm
    cases h2
    obtain ⟨g0, g1, g2⟩ := R.live _ _ h1
    exact ⟨o, h1, g0, g1, g2⟩
  have insD : ∀ m, m ∈ names L → ∀ C c vs, H (α m) = some (.ins C c vs) → H c = some (.own (α m)) ∧ (B.H0 c = none ∨ B.fp c) := fun m hm C c vs e => by
    obtain ⟨o, h1, g0, g1, g2⟩ := ob m hm
    cases o with
    | fl ds => obtain ⟨vs, e1, r1⟩ := g2; rw [e] at e1; cases e1
    | cl cs => obtain ⟨vs, e1, r1⟩ := g2; rw [e] at e1; cases e1
    | ins c fs => obtain ⟨C', dx, vs', m1, e1, e2, e3, e4, r1⟩ := g2; rw [e] at e1; cases e1; exact ⟨e2, e4⟩
    | dT kvs => obtain ⟨vs, e1, r1⟩ := g2; rw [e] at e1; cases e1
    | dK kvs => obtain ⟨vs, e1, r1⟩ := g2; rw [e] at e1; cases e1
    | dC kvs => obtain ⟨vs, e1, r1⟩ := g2; rw [e] at e1; cases e1
    | tab p nm => obtain ⟨e0, vs, e1, r1⟩ := g2; rw [e] at e1; cases e1
    | px φ => obtain ⟨o, e1, r1, _⟩ := g2; rw [e] at e1; cases e1; cases r1
  have hfp : ∀ c, fpG H α f L0 c → B.H0 c = none ∨ B.fp c := fun c h => by
    obtain ⟨k, hk, z | ⟨C, vs, z⟩⟩ := h
    · rw [z]
      obtain ⟨o, h1, g0, g1, g2⟩ := ob _ (h0 k hk)
      exact g1
    · exact (insD _ (h0 k hk) C c vs z).2
  -- what was not handed lies outside
  have out : ∀ m, m ∈ names L → (∀ k, k ∈ names L0 → f k ≠ m) → ¬ fpG H α f L0 (α m) := fun m hm ne h => by
    obtain ⟨k, hk, z | ⟨C, vs, z⟩⟩ := h
    · exact ne k hk (R.inj _ _ (h0 k hk) hm z.symm)
    · exact own m hm _ (insD _ (h0 k hk) C _ vs z).1
  have fresh0 : ∀ c, H c = none → B.H0 c = none ∨ B.fp c := fun c h => by
    by_cases w : B.fp c
    · exact .inr w
    · refine .inl ?_
      cases q : B.H0 c with
      | none => rfl
      | some u => rw [R.frame c u q w] at h; cases h
  have new0 : ∀ c, (H c = none ∨ fpG H α f L0 c) → B.H0 c = none ∨ B.fp c := fun c h => h.elim (fresh0 c) (hfp c)
  have keep : ∀ b u, ¬ fpG H α f L0 b → H b = some u → H' b = some u := fun b u nf e => R'.frame b u e nf
  have nFn : ∀ m, m ∈ names L → (∀ k, k ∈ names L0 → f k ≠ m) → F' (α m) = none := fun m hm ne => by
    obtain ⟨o, h1, g0, g1, g2⟩ := ob m hm
    cases q : F' (α m) with
    | none => rfl
    | some u =>
      rcases R'.nF _ _ q with z | z | z
      · have z : F (α m) = some u := z
        rw [g0] at z; cases z
      · obtain ⟨u', hu⟩ := g2.is
        have z : H (α m) = none := z
        rw [hu] at z; cases z
      · exact absurd z (out m hm ne)
  have fix0 : ∀ k, k ∈ names L0 → α' k = α (f k) := fun k h => R'.fix k (α (f k)) (show (if k < 100 then some (α (f k)) else none) = _ by rw [if_pos (h100 k h)]) (hk k h)
  -- the new names
  let inv : Nat → Nat := fun m => if h : ∃ k, k ∈ names L1 ∧ f' k = m then Classical.choose h else 0
  have hinv : ∀ k, k ∈ names L1 → inv (f' k) = k := fun k h => by
    have hx : ∃ j, j ∈ names L1 ∧ f' j = f' k := ⟨k, h, rfl⟩
    show (if h : ∃ j, j ∈ names L1 ∧ f' j = f' k then Classical.choose h else 0) = k
    rw [dif_pos hx]
    have := Classical.choose_spec hx
    exact hinj _ _ this.1 h this.2
  have dec : ∀ m : Nat, m ∈ names L ∨ m ∉ names L := fun m => Classical.em _
  let αc : Nat → Addr := fun m => if m ∈ names L then α m else α' (inv m)
  have ac1 : ∀ m, m ∈ names L → αc m = α m := fun m h => if_pos h
  have ac2 : ∀ k, k ∈ names L1 → αc (f' k) = α' k := fun k h => by
    by_cases h2 : k ∈ names L0
    · rw [hf k h2, ac1 _ (h0 k h2), fix0 k h2]
    · have h3 := (hn k h).resolve_left h2
      show (if f' k ∈ names L then _ else _) = _
      rw [if_neg h3.1, hinv k h]
  -- a new thing lies where nothing of the caller's lives
  have newne : ∀ k, k ∈ names L1 → k ∉ names L0 → ∀ m, m ∈ names L → α' k ≠ α m := fun k h1 h2 m hm e => by
    obtain ⟨⟨k', o1⟩, q1, q2⟩ := List.mem_map.mp h1
    cases q2
    obtain ⟨g0, g1, g2⟩ := R'.live _ _ q1
    have g1 : H (α' k') = none ∨ fpG H α f L0 (α' k') := g1
    rw [e] at g1
    rcases g1 with z | z
    · obtain ⟨u, hu⟩ := isS m hm
      rw [hu] at z; cases z
    · by_cases w : ∀ k, k ∈ names L0 → f k ≠ m
      · exact out m hm w z
      · obtain ⟨j, hj, e2⟩ : ∃ j, j ∈ names L0 ∧ f j = m := Classical.byContradiction fun q => w fun j hj e2 => q ⟨j, hj, e2⟩
        have : α' k' = α' j := by rw [e, fix0 j hj, e2]
        have e3 := R'.inj _ _ h1 (hk j hj) this
        exact h2 (e3 ▸ hj)
  have st : Stp F α L F' αc := ⟨hF, ac1⟩
  have hre : ∀ k, k ∈ names L1 → f' k ∈ names Lc ∧ αc (f' k) = α' k := fun k h => ⟨hL1 k h, ac2 k h⟩
  have inLc : ∀ m, m ∈ names Lc → m ∈ names L ∨ ∃ k, k ∈ names L1 ∧ m = f' k := fun m hm => by
    obtain ⟨⟨m', o⟩, h1, h2⟩ := List.mem_map.mp hm
    cases h2
    rcases hc _ _ h1 with ⟨z, _⟩ | ⟨k, o1, z, e, _⟩
    · exact .inl (mem_names z)
    · exact .inr ⟨k, mem_names z, e⟩
  have inj1 : ∀ m, m ∈ names L → ∀ k, k ∈ names L1 → αc m = αc (f' k) → m = f' k := fun m hm k hk1 e => by
    rw [ac1 m hm, ac2 k hk1] at e
    by_cases h2 : k ∈ names L0
    · rw [fix0 k h2] at e
      rw [hf k h2]
      exact R.inj _ _ hm (h0 k h2) e
    · exact absurd e.symm (newne k hk1 h2 m hm)
  refine ⟨αc, ⟨R'.sub, R.bF.trans hF, fun b o e => ?_, fun b o e nf => keep b o (fun z => ?_) (R.frame b o e nf), nd, fun a b ha hb e => ?_, fun m o hm => ?_, R.slots.step st hL, fun n a e hm => ?_⟩, ac1, ac2, hF⟩
  · rcases R'.nF b o e with z | z | z
    · exact R.nF b o z
    · exact .inr (fresh0 b z)
    · exact .inr (hfp b z)
  · rcases hfp b z with w | w
    · rw [w] at e; cases e
    · exact nf w
  · rcases inLc a ha with h1 | ⟨j, h1, e1⟩ <;> rcases inLc b hb with h2 | ⟨k, h2, e2⟩
    · rw [ac1 a h1, ac1 b h2] at e; exact R.inj _ _ h1 h2 e
    · rw [e2] at e ⊢; exact inj1 a h1 k h2 e
    · rw [e1] at e ⊢; exact (inj1 b h2 j h1 e.symm).symm
    · rw [e1, e2] at e ⊢
      rw [ac2 j h1, ac2 k h2] at e
      rw [R'.inj _ _ h1 h2 e]
  · rcases hc m o hm with ⟨z, ne⟩ | ⟨k, o1, z, rfl, rfl⟩
    · have hmL := mem_names z
      obtain ⟨g0, g1, g2⟩ := R.live _ _ z
      rw [ac1 m hmL]
      have nf := out m hmL ne
      refine ⟨nFn m hmL ne, g1, ?_⟩
      cases o with
      | fl ds => obtain ⟨vs, e, r⟩ := g2; exact ⟨vs, keep _ _ nf e, r.mono hF⟩
      | cl cs => obtain ⟨vs, e, r⟩ := g2; exact ⟨vs, keep _ _ nf e, r.step st hL⟩
      | ins c fs =>
        obtain ⟨C, dx, vs, m1, e1, e2, e3, e4, r⟩ := g2
        have nd : ¬ fpG H α f L0 dx := fun h => by
          obtain ⟨k, hk, y | ⟨C2, vs2, y⟩⟩ := h
          · rw [y] at e2; exact own _ (h0 k hk) _ e2
          · have := (insD _ (h0 k hk) C2 dx vs2 y).1
            rw [e2] at this
            injection this with this
            injection this with this
            exact ne k hk (R.inj _ _ (h0 k hk) hmL this.symm)
        refine ⟨C, dx, vs, m1, keep _ _ nf e1, keep _ _ nd e2, ?_, e4, r.step st hL⟩
        cases q : F' dx with
        | none => rfl
        | some u =>
          rcases R'.nF _ _ q with y | y | y
          · have y : F dx = some u := y
            rw [e3] at y; cases y
          · have y : H dx = none := y
            rw [e2] at y; cases y
          · exact absurd y nd
      | dT kvs => obtain ⟨vs, e, r⟩ := g2; exact ⟨vs, keep _ _ nf e, Paired.imp (fun _ _ z => ⟨z.1, z.2.mono hF⟩) r⟩
      | dK kvs => obtain ⟨vs, e, r⟩ := g2; exact ⟨vs, keep _ _ nf e, Paired.imp (fun _ _ z => ⟨z.1, z.2.mono hF⟩) r⟩
      | dC kvs => obtain ⟨vs, e, r⟩ := g2; exact ⟨vs, keep _ _ nf e, r.step st hL⟩
      | tab p nm => obtain ⟨e0, ps, e, e2, e3⟩ := g2; exact ⟨e0, ps, keep _ _ nf e, e2, fun p v z => let ⟨c, a, b⟩ := e3 p v z; ⟨c, a, hF _ _ b⟩⟩
      | px φ => obtain ⟨o, e, ne1, q⟩ := g2; exact ⟨o, keep _ _ nf e, ne1, fun F2 s => q F2 (hF.trans s)⟩
    · obtain ⟨g0, g1, g2⟩ := R'.live _ _ z
      rw [ac2 k (mem_names z)]
      refine ⟨g0, new0 _ g1, ?_⟩
      cases o1 with
      | fl ds => exact g2
      | cl cs => obtain ⟨vs, e, r⟩ := g2; exact ⟨vs, e, r.re hre⟩
      | ins c fs => obtain ⟨C, dx, vs, m1, e1, e2, e3, e4, r⟩ := g2; exact ⟨C, dx, vs, m1, e1, e2, e3, new0 _ e4, r.re hre⟩
      | dT kvs => exact g2
      | dK kvs => exact g2
      | dC kvs => obtain ⟨vs, e, r⟩ := g2; exact ⟨vs, e, r.re hre⟩
      | tab p nm => exact g2
      | px φ => exact g2
  · rcases inLc n hm with h1 | ⟨k, h1, e1⟩
    · rw [ac1 n h1]; exact R.fix n a e h1
    · by_cases h2 : k ∈ names L0
      · rw [e1, hf k h2] at e ⊢
        rw [ac1 _ (h0 k h2)]
        exact R.fix _ a e (h0 k h2)
      · have h3 := (hn k h1).resolve_left h2
        rw [e1, B.hpa _ h3.2] at e; cases e
end
end Nz
namespace Nz
open PySem PySem.Spec PyProof.Rows L2
end Nz
namespace Nz
open PySem PySem.Spec PyProof.Rows L2
/-- these stand in L -/
def Lives (L : List (Nat × LO)) : List (Nat × LO) → Prop
  | [] => True
  | (k, o) :: r => getL k L = some o ∧ Lives L r
theorem Lives.get {L : List (Nat × LO)} : ∀ {M : List (Nat × LO)} {k : Nat} {o : LO}, Lives L M → (k, o) ∈ M → (k, o) ∈ L
  | (j, u) :: r, k, o, ⟨h1, h2⟩, h => by
    rcases List.mem_cons.mp h with z | z
    · cases z; exact getL_mem h1
    · exact Lives.get h2 z
/-- the callee's L0 stands in L under the numbers g -/
def LentAt (g : Nat → Nat) (L : List (Nat × LO)) : List (Nat × LO) → Prop
  | [] => True
  | (k, o) :: r => getL (g k) L = some (reO g o) ∧ LentAt g L r
theorem LentAt.get {g : Nat → Nat} {L : List (Nat × LO)} : ∀ {M : List (Nat × LO)} {k : Nat} {o : LO}, LentAt g L M → (k, o) ∈ M → (g k, reO g o) ∈ L
  | (j, u) :: r, k, o, ⟨h1, h2⟩, h => by
    rcases List.mem_cons.mp h with z | z
    · cases z; exact getL_mem h1
    · exact LentAt.get h2 z
/-- the numbers in the cells are among N -/
def adCb (N : List Nat) : Ce → Bool
  | .ad k => N.elem k
  | _ => true
def adOb (N : List Nat) : LO → Bool
  | .cl cs => cs.all (adCb N)
  | .ins _ fs => fs.all fun p => adCb N p.2
  | .dC kvs => kvs.all fun p => adCb N p.2
  | _ => true
def adLb (N : List Nat) (L : List (Nat × LO)) : Bool := L.all fun p => adOb N p.2
theorem adCb_ok {N : List Nat} {c : Ce} (h : adCb N c = true) : adC N c := by
  cases c with
  | ad k => exact List.elem_iff.mp h
  | fr d => trivial
  | xv u => trivial
theorem adOb_ok {N : List Nat} {o : LO} (h : adOb N o = true) : adO N o := by
  cases o with
  | cl cs => exact fun c hc => adCb_ok (List.all_eq_true.mp h c hc)
  | ins c fs => exact fun c hc => adCb_ok (List.all_eq_true.mp h c hc)
  | dC kvs => exact fun c hc => adCb_ok (List.all_eq_true.mp h c hc)
  | fl ds => trivial
  | dT kvs => trivial
  | dK kvs => trivial
  | tab p nm => trivial
  | px φ => trivial
theorem adLb_ok {N : List Nat} {L : List (Nat × LO)} (h : adLb N L = true) {k : Nat} {o : LO} (hk : (k, o) ∈ L) : adO N o := adOb_ok (List.all_eq_true.mp h _ hk)
def setsL (g : Nat → Nat) : List (Nat × LO) → List (Nat × LO) → List (Nat × LO)
  | [], L => L
  | (k, o) :: r, L => setsL g r (setL (g k) (reO g o) L)
theorem names_setsL {g : Nat → Nat} : ∀ (M L : List (Nat × LO)), names (setsL g M L) = names L
  | [], L => rfl
  | (k, o) :: r, L => by unfold setsL; rw [names_setsL r, names_setL]
theorem mem_setsL {g : Nat → Nat} {m : Nat} {u : LO} : ∀ {M L : List (Nat × LO)}, (names L).Nodup → (m, u) ∈ setsL g M L → ((m, u) ∈ L ∧ ∀ k, k ∈ names M → g k ≠ m) ∨ ∃ k o, (k, o) ∈ M ∧ m = g k ∧ u = reO g o
  | [], L, _, h => .inl ⟨h, fun k hk => by cases hk⟩
  | (k, o) :: r, L, nd, h => by
    unfold setsL at h
    rcases mem_setsL (M := r) (by rw [names_setL]; exact nd) h with ⟨h1, h2⟩ | ⟨k', o', h1, h2, h3⟩
    · rcases mem_setL nd h1 with ⟨rfl, rfl⟩ | ⟨h3, h4⟩
      · exact .inr ⟨k, o, List.mem_cons_self, rfl, rfl⟩
      · exact .inl ⟨h4, fun j hj => by
          rcases List.mem_cons.mp hj with z | z
          · rw [z]; exact fun q => h3 q.symm
          · exact h2 j z⟩
    · exact .inr ⟨k', o', List.mem_cons_of_mem _ h1, h2, h3⟩
def reL (g : Nat → Nat) (M : List (Nat × LO)) : List (Nat × LO) := M.map fun p => (g p.1, reO g p.2)
theorem names_reL (g : Nat → Nat) (M : List (Nat × LO)) : names (reL g M) = (names M).map g := by simp [names, reL]
/-- what a callee's promise says of what lives at its end: Ms, of it new what has numbers from 100 on, in whatever numbers -/
def GivesG (Ms : List (Nat × LO)) (c1 : Ce) (Kc : Ce → List (Nat × LO) → Prop) : Prop :=
  ∀ φ : Nat → Nat, (∀ j k, j ∈ names Ms → k ∈ names Ms → φ j = φ k → j = k) → (∀ k, k < 100 → φ k = k) → (∀ k, 100 ≤ k → 100 ≤ φ k) → ∀ L', Lives L' (reL φ Ms) → Kc (reC φ c1) L'
theorem reC_comp {g φ ψ : Nat → Nat} {N : List Nat} (h : ∀ k, k ∈ N → ψ (φ k) = g k) : ∀ {c : Ce}, adC N c → reC ψ (reC φ c) = reC g c
  | .fr _, _ => rfl
  | .xv _, _ => rfl
  | .ad k, q => by show Ce.ad (ψ (φ k)) = .ad (g k); rw [h k q]
theorem reO_comp {g φ ψ : Nat → Nat} {N : List Nat} (h : ∀ k, k ∈ N → ψ (φ k) = g k) {o : LO} (q : adO N o) : reO ψ (reO φ o) = reO g o := by
  cases o with
  | fl ds => rfl
  | cl cs => show LO.cl _ = .cl _; rw [List.map_map]; exact congrArg _ (List.map_congr_left fun c hc => reC_comp h (q c hc))
  | ins c fs => show LO.ins _ _ = .ins _ _; rw [List.map_map]; exact congrArg _ (List.map_congr_left fun p hp => by show (p.1, reC ψ (reC φ p.2)) = (p.1, reC g p.2); rw [reC_comp h (q p hp)])
  | dT kvs => rfl
  | dK kvs => rfl
  | dC kvs => show LO.dC _ = .dC _; rw [List.map_map]; exact congrArg _ (List.map_congr_left fun p hp => by show (p.1, reC ψ (reC φ p.2)) = (p.1, reC g p.2); rw [reC_comp h (q p hp)])
  | tab p nm => rfl
  | px φ => rfl
section
variable {K : Frag} {mg : Mg} {B : Bd} {F F' : Hp} {α α' : Nat → Addr} {H H' : Hp} {σ σ' : L2.St} {L L0 L' Ms Mn Lx : List (Nat × LO)} {ρ ρ' : List (Option Ce)} {f g φ : Nat → Nat} {c1 : Ce} {v : V}
theorem slr_nones : ∀ {ρ : List (Option Ce)} {σ : L2.St} {L L' : List (Nat × LO)}, SlR K mg F α L ρ σ → SlR K mg F α L' (ρ.map fun _ => none) σ
  | _, _, _, _, .nil => .nil
  | _, _, _, _, .no r => .no (slr_nones r)
  | _, _, _, _, .so _ r => .no (slr_nones r)
/-- of what lives only a part is looked at -/
theorem Rel.part {M : List (Nat × LO)} (R : Rel K mg B F α H σ ⟨ρ, L⟩) (nd : (names M).Nodup) (h : ∀ k o, (k, o) ∈ M → (k, o) ∈ L ∧ adO (names M) o) : Rel K mg B F α H σ ⟨ρ.map fun _ => none, M⟩ := by
  have hn : ∀ k, k ∈ names M → k ∈ names L := fun k hk => by
    obtain ⟨⟨k', o⟩, h1, h2⟩ := List.mem_map.mp hk
    cases h2
    exact mem_names (h _ _ h1).1
  refine ⟨R.sub, R.bF, R.nF, R.frame, nd, fun a b ha hb => R.inj a b (hn a ha) (hn b hb), fun k o hk => ?_, slr_nones R.slots, fun n a e hm => R.fix n a e (hn n hm)⟩
  obtain ⟨h1, h2⟩ := h k o hk
  obtain ⟨g0, g1, g2⟩ := R.live k o h1
  refine ⟨g0, g1, ?_⟩
  have cre : ∀ {c : Ce} {v : V}, adC (names M) c → CRel K mg F α L c v → CRel K mg F α M c v := fun {c v} q r => by
    cases c with
    | fr d => exact r
    | xv u => exact r
    | ad k => exact ⟨q, r.2⟩
  cases o with
  | fl ds => exact g2
  | cl cs =>
    obtain ⟨vs, e1, r1⟩ := g2
    refine ⟨vs, e1, ?_⟩
    have key : ∀ {cs : List Ce} {vs : List V}, (∀ c ∈ cs, adC (names M) c) → CRels K mg F α L cs vs → CRels K mg F α M cs vs := by
      intro cs
      induction cs with
      | nil => intro vs _ r; cases r; exact .nil
      | cons c cs ih => intro vs q r; cases r with | cons r rs => exact .cons (cre (q c List.mem_cons_self) r) (ih (fun x hx => q x (List.mem_cons_of_mem _ hx)) rs)
    exact key h2 r1
  | ins c fs =>
    obtain ⟨C, dx, vs, m1, e1, e2, e3, e4, r1⟩ := g2
    refine ⟨C, dx, vs, m1, e1, e2, e3, e4, ?_⟩
    have key : ∀ {cs : List (Str × Ce)} {vs : List (Str × V)}, (∀ p ∈ cs, adC (names M) p.2) → CRelF K mg F α L cs vs → CRelF K mg F α M cs vs := by
      intro cs
      induction cs with
      | nil => intro vs _ r; cases r; exact .nil
      | cons c cs ih => intro vs q r; cases r with | cons r rs => exact .cons (cre (q _ List.mem_cons_self) r) (ih (fun x hx => q x (List.mem_cons_of_mem _ hx)) rs)
    exact key h2 r1
  | dT kvs => exact g2
  | dK kvs => exact g2
  | dC kvs =>
    obtain ⟨vs, e1, r1⟩ := g2
    refine ⟨vs, e1, ?_⟩
    have key : ∀ {cs : List (Key × Ce)} {vs : List (Key × V)}, (∀ p ∈ cs, adC (names M) p.2) → CRelK K mg F α L cs vs → CRelK K mg F α M cs vs := by
      intro cs
      induction cs with
      | nil => intro vs _ r; cases r; exact .nil
      | cons c cs ih => intro vs q r; cases r with | cons r rs => exact .cons (cre (q _ List.mem_cons_self) r) (ih (fun x hx => q x (List.mem_cons_of_mem _ hx)) rs)
    exact key h2 r1
  | tab p nm => exact g2
  | px φ => exact g2
/-- behind a call whose promise was GivesG: M0 is what was handed, Mn what is new -/
theorem Rel.backGG {M0 : List (Nat × LO)} (R : Rel K mg B F α H σ ⟨ρ, L⟩) (h0 : ∀ k, k ∈ names L0 → g k ∈ names L) (R' : Rel K mg (bdOf F H (fpG H α g L0) (fun k => α (g k)) Lx) F' α' H' σ' ⟨ρ', L'⟩)
    (h100 : ∀ k, k ∈ names L0 → k < 100) (hM : names M0 = names L0) (hn : ∀ k, k ∈ names Mn → 100 ≤ k ∧ 100 ≤ g k ∧ g k ∉ names L) (nd : (names (M0 ++ Mn)).Nodup) (hinj : ∀ j k, j ∈ names (M0 ++ Mn) → k ∈ names (M0 ++ Mn) → g j = g k → j = k) (had : ∀ k o, (k, o) ∈ M0 ++ Mn → adO (names (M0 ++ Mn)) o) (hc1 : adC (names (M0 ++ Mn)) c1)
    (p1 : ∀ j k, j ∈ names (M0 ++ Mn) → k ∈ names (M0 ++ Mn) → φ j = φ k → j = k) (p2 : ∀ k, k < 100 → φ k = k) (p3 : ∀ k, 100 ≤ k → 100 ≤ φ k) (hl : Lives L' (reL φ (M0 ++ Mn))) (r : CRel K mg F' α' L' (reC φ c1) v) :
    ∃ αc, Rel K mg B F' αc H' σ ⟨ρ, setsL g M0 L ++ reL g Mn⟩ ∧ (∀ m, m ∈ names L → αc m = α m) ∧ Same F F' ∧ CRel K mg F' αc (setsL g M0 L ++ reL g Mn) (reC g c1) v := by
  let N := names (M0 ++ Mn)
  have hsym : ∀ k, k ∈ N → φ k ∈ names (reL φ (M0 ++ Mn)) := fun k hk => by rw [names_reL]; exact List.mem_map_of_mem hk
  have hback : ∀ m, m ∈ names (reL φ (M0 ++ Mn)) → ∃ k, k ∈ N ∧ φ k = m := fun m hm => by
    rw [names_reL] at hm
    exact List.mem_map.mp hm
  have ndφ : (names (reL φ (M0 ++ Mn))).Nodup := by
    rw [names_reL]
    exact List.pairwise_map.mpr (List.Pairwise.imp_of_mem (fun {a b} ha hb hab q => hab (p1 a b ha hb q)) nd)
  have Rp := R'.part (M := reL φ (M0 ++ Mn)) ndφ fun k o hk => by
    refine ⟨hl.get hk, ?_⟩
    obtain ⟨⟨k', o'⟩, h1, h2⟩ := List.mem_map.mp hk
    have h2 : (φ k', reO φ o') = (k, o) := h2
    injection h2 with h2 h3
    have q := had k' o' h1
    rw [← h3]
    have cre : ∀ {c : Ce}, adC N c → adC (names (reL φ (M0 ++ Mn))) (reC φ c) := fun {c} z => by
      cases c with
      | fr d => trivial
      | xv u => trivial
      | ad j => exact hsym j z
    cases o' with
    | fl ds => trivial
    | cl cs => exact fun c hc => by obtain ⟨x, hx, rfl⟩ := List.mem_map.mp hc; exact cre (q x hx)
    | ins c fs => exact fun c hc => by obtain ⟨x, hx, rfl⟩ := List.mem_map.mp hc; exact cre (q x hx)
    | dT kvs => trivial
    | dK kvs => trivial
    | dC kvs => exact fun c hc => by obtain ⟨x, hx, rfl⟩ := List.mem_map.mp hc; exact cre (q x hx)
    | tab p nm => trivial
    | px φ => trivial
  let f' : Nat → Nat := fun m => if h : ∃ k, k ∈ N ∧ φ k = m then g (Classical.choose h) else 0
  have hf' : ∀ k, k ∈ N → f' (φ k) = g k := fun k h => by
    have hx : ∃ j, j ∈ N ∧ φ j = φ k := ⟨k, h, rfl⟩
    show (if h : ∃ j, j ∈ N ∧ φ j = φ k then g (Classical.choose h) else 0) = g k
    rw [dif_pos hx]
    have := Classical.choose_spec hx
    rw [p1 _ _ this.1 h this.2]
  have in0 : ∀ k, k ∈ names L0 → k ∈ N := fun k h => by
    show k ∈ names (M0 ++ Mn)
    rw [names_app, hM]
    exact List.mem_append_left _ h
  have nd2 : (names (setsL g M0 L ++ reL g Mn)).Nodup := by
    rw [names_app, names_setsL, names_reL]
    have nd := nd
    rw [names_app, List.nodup_append] at nd
    refine List.nodup_append.mpr ⟨R.nd, List.pairwise_map.mpr (List.Pairwise.imp_of_mem (fun {a b} ha hb hab q => hab (hinj a b (by rw [names_app]; exact List.mem_append_right _ ha) (by rw [names_app]; exact List.mem_append_right _ hb) q)) nd.2.1), fun a ha b hb q => ?_⟩
    obtain ⟨k, hk, rfl⟩ := List.mem_map.mp hb
    exact (hn k hk).2.2 (q ▸ ha)
  obtain ⟨αc, Rc, a1, a2, sF⟩ := R.backG (f := g) (f' := f') (Lc := setsL g M0 L ++ reL g Mn) h0 Rp h100 (fun k h => by rw [← p2 k (h100 k h)]; exact hsym k (in0 k h)) (fun k h => by rw [← hf' k (in0 k h), p2 k (h100 k h)])
    (fun m hm => by
      obtain ⟨k, hk, rfl⟩ := hback m hm
      rw [hf' k hk]
      have hk2 : k ∈ names (M0 ++ Mn) := hk
      rw [names_app, List.mem_append] at hk2
      rcases hk2 with z | z
      · rw [hM] at z
        left; rw [p2 k (h100 k z)]; exact z
      · right; exact ⟨(hn k z).2.2, (hn k z).2.1⟩)
    (fun a b ha hb q => by
      obtain ⟨j, hj, rfl⟩ := hback a ha
      obtain ⟨k, hk, rfl⟩ := hback b hb
      rw [hf' j hj, hf' k hk] at q
      rw [hinj j k hj hk q])
    nd2 (fun m hm => by rw [names_app, names_setsL]; exact List.mem_append_left _ hm)
    (fun m hm => by
      obtain ⟨k, hk, rfl⟩ := hback m hm
      rw [hf' k hk, names_app, names_setsL, names_reL]
      have hk2 : k ∈ names (M0 ++ Mn) := hk
      rw [names_app, List.mem_append] at hk2
      rcases hk2 with z | z
      · exact List.mem_append_left _ (h0 k (by rw [← hM]; exact z))
      · exact List.mem_append_right _ (List.mem_map_of_mem z))
    (fun m o hm => by
      have toR : ∀ k o1, (k, o1) ∈ M0 ++ Mn → m = g k → o = reO g o1 → ∃ k o1, (k, o1) ∈ reL φ (M0 ++ Mn) ∧ m = f' k ∧ o = reO f' o1 := fun k o1 hk e1 e2 => by
        refine ⟨φ k, reO φ o1, List.mem_map.mpr ⟨(k, o1), hk, rfl⟩, by rw [hf' k (mem_names hk)]; exact e1, ?_⟩
        rw [reO_comp (N := N) hf' (had k o1 hk)]; exact e2
      rcases List.mem_append.mp hm with z | z
      · rcases mem_setsL R.nd z with ⟨h1, h2⟩ | ⟨k, o1, h1, h2, h3⟩
        · exact .inl ⟨h1, fun k hk => h2 k (by rw [hM]; exact hk)⟩
        · exact .inr (toR k o1 (List.mem_append_left _ h1) h2 h3)
      · obtain ⟨⟨k, o1⟩, h1, h2⟩ := List.mem_map.mp z
        have h2 : (g k, reO g o1) = (m, o) := h2
        injection h2 with h2 h3
        exact .inr (toR k o1 (List.mem_append_right _ h1) h2.symm h3.symm))
  refine ⟨αc, Rc, a1, sF, ?_⟩
  cases c1 with
  | fr d => exact r
  | xv u => exact r
  | ad k =>
    have hk : k ∈ N := hc1
    obtain ⟨r1, r2⟩ := r
    have a3 := a2 (φ k) (hsym k hk)
    rw [hf' k hk] at a3
    refine ⟨?_, by rw [r2, ← a3]⟩
    show g k ∈ names (setsL g M0 L ++ reL g Mn)
    rw [names_app, names_setsL, names_reL]
    have hk2 : k ∈ names (M0 ++ Mn) := hk
    rw [names_app, List.mem_append] at hk2
    rcases hk2 with z | z
    · exact List.mem_append_left _ (h0 k (by rw [← hM]; exact z))
    · exact List.mem_append_right _ (List.mem_map_of_mem z)
end
end Nz
namespace Nz
open PySem PySem.Spec PyProof.Rows L2
def gOf (r : List (Nat × Nat)) (k : Nat) : Nat := (r.lookup k).getD 0
def ndB : List Nat → Bool
  | [] => true
  | k :: r => !r.elem k && ndB r
theorem ndB_ok : ∀ {N : List Nat}, ndB N = true → N.Nodup
  | [], _ => List.nodup_nil
  | k :: r, h => by
    unfold ndB at h
    rw [Bool.and_eq_true] at h
    refine List.nodup_cons.mpr ⟨fun z => ?_, ndB_ok h.2⟩
    have h1 := h.1
    rw [List.elem_iff.mpr z] at h1
    cases h1
theorem inj_of {g : Nat → Nat} : ∀ {N : List Nat}, (N.map g).Nodup → ∀ j k, j ∈ N → k ∈ N → g j = g k → j = k
  | [], _, j, k, h, _, _ => by cases h
  | n :: r, nd, j, k, hj, hk, e => by
    rw [List.map_cons, List.nodup_cons] at nd
    rcases List.mem_cons.mp hj with z | z <;> rcases List.mem_cons.mp hk with w | w
    · rw [z, w]
    · exact absurd (List.mem_map.mpr ⟨k, w, by rw [← e, z]⟩) nd.1
    · exact absurd (List.mem_map.mpr ⟨j, z, by rw [e, w]⟩) nd.1
    · exact inj_of nd.2 j k z w e
/-- the numbers fit: N0 what is handed, Nn what is new -/
def okB (r : List (Nat × Nat)) (N0 Nn : List Nat) : Bool := ndB (N0 ++ Nn) && ndB ((N0 ++ Nn).map (gOf r)) && N0.all (fun k => decide (k < 100)) && Nn.all (fun k => decide (100 ≤ k) && decide (100 ≤ gOf r k))
structure Fits (r : List (Nat × Nat)) (N0 Nn : List Nat) : Prop where
  nd : (N0 ++ Nn).Nodup
  inj : ∀ j k, j ∈ N0 ++ Nn → k ∈ N0 ++ Nn → gOf r j = gOf r k → j = k
  lo : ∀ k, k ∈ N0 → k < 100
  hi : ∀ k, k ∈ Nn → 100 ≤ k ∧ 100 ≤ gOf r k
theorem fits_of {r : List (Nat × Nat)} {N0 Nn : List Nat} (h : okB r N0 Nn = true) : Fits r N0 Nn := by
  unfold okB at h
  simp only [Bool.and_eq_true, List.all_eq_true, decide_eq_true_eq] at h
  obtain ⟨⟨⟨h1, h2⟩, h3⟩, h4⟩ := h
  exact ⟨ndB_ok h1, inj_of (ndB_ok h2), h3, h4⟩
section
variable {K : Frag} {mg : Mg} {F : Hp} {α : Nat → Addr} {L L0 : List (Nat × LO)} {g : Nat → Nat}
theorem slots_unre {N0 : List Nat} (h0 : names L0 = N0) : ∀ {cs0 : List Ce} {vs : List V}, cs0.all (adCb N0) = true → CRels K mg F α L (cs0.map (reC g)) vs → SlR K mg F (fun k => α (g k)) L0 (cs0.map some) (vs.map some)
  | [], _, _, .nil => .nil
  | c :: cs, _, h, .cons r rs => by
    rw [List.all_cons, Bool.and_eq_true] at h
    have q := adCb_ok h.1
    refine .so ?_ (slots_unre h0 h.2 rs)
    cases c with
    | fr d => exact r
    | xv u => exact r
    | ad k => exact ⟨by rw [h0]; exact q, r.2⟩
end
section
variable {X : Cx} {B : Bd} {S S1 S2 : Nz.S} {a e o : Expr} {es : List Expr} {pos apos p q : Pos} {d d1 : D} {ds : List D} {c m x f : Str} {C g pr : Addr} {fd : FuncData} {ps : List Str} {k : Nat} {sp : SpN} {L0 M0 Mn : List (Nat × LO)} {cs cs0 : List Ce} {c1 : Ce} {N0 Nn : List Nat} {fa : Addr}
/-- what is to be said of a call to which a part of what lives is handed -/
structure Hands (r : List (Nat × Nat)) (N0 Nn : List Nat) (L L0 M0 Mn : List (Nat × LO)) (cs cs0 : List Ce) (c1 : Ce) : Prop where
  at_ : LentAt (gOf r) L L0
  args : cs = cs0.map (reC (gOf r))
  argsN : cs0.all (adCb N0) = true
  n0 : names L0 = N0
  nM : names M0 = N0
  nn : names Mn = Nn
  fits : okB r N0 Nn = true
  ad0 : adLb N0 L0 = true
  ad1 : adLb (N0 ++ Nn) (M0 ++ Mn) = true
  c1N : adCb (N0 ++ Nn) c1 = true
  fresh : ∀ k ∈ Nn.map (gOf r), k ∉ names L
/-- the state behind -/
def aftG (r : List (Nat × Nat)) (M0 Mn L : List (Nat × LO)) : List (Nat × LO) := setsL (gOf r) M0 L ++ reL (gOf r) Mn
theorem Hands.run {r : List (Nat × Nat)} {F : Hp} {α : Nat → Addr} {H : Hp} {σ : L2.St} {ρ : List (Option Ce)} {L : List (Nat × LO)} {vs : List V} (h : Hands r N0 Nn L L0 M0 Mn cs cs0 c1) (R : RelX X B F α H σ ⟨ρ, L⟩) (rc : CRels X.K X.mg F α L cs vs)
    (hs : ∀ Kc : Ce → List (Nat × LO) → Prop, GivesG (M0 ++ Mn) c1 Kc → sp cs0 L0 Kc) {Q : VK} {E : XK}
    (k : ∀ F' α' v H', RelX X B F' α' H' σ ⟨ρ, aftG r M0 Mn L⟩ → Stp F α L F' α' → CRel X.K X.mg F' α' (aftG r M0 Mn L) (reC (gOf r) c1) v → Q v H') : SpOf X.K X.mg sp vs H Q E := by
  obtain ⟨at_, rfl, argsN, n0, nM, nn, fits, ad0, ad1, c1N, fresh⟩ := h
  have ft := fits_of fits
  have nN : names (M0 ++ Mn) = N0 ++ Nn := by rw [names_app, nM, nn]
  have h0 : ∀ k, k ∈ names L0 → gOf r k ∈ names L := fun k hk => by
    obtain ⟨⟨k', o⟩, h1, h2⟩ := List.mem_map.mp hk
    cases h2
    exact mem_names (at_.get h1)
  have nd0 : (names L0).Nodup := by rw [n0]; exact (List.nodup_append.mp ft.nd).1
  refine ⟨F, fun k => α (gOf r k), L0, cs0, fpG H α (gOf r) L0, R.callG (fun k o hk => ⟨at_.get hk, by rw [n0]; exact adLb_ok ad0 hk⟩) nd0 (fun j k hj hk q => ft.inj j k (List.mem_append_left _ (by rw [← n0]; exact hj)) (List.mem_append_left _ (by rw [← n0]; exact hk)) q) (slots_unre n0 argsN rc), hs _ ?_⟩
  intro φ p1 p2 p3 L' hl F' α' v H' ρ' σ' R' r'
  obtain ⟨αc, Rc, a1, sF, rv⟩ := R.backGG (g := gOf r) (M0 := M0) (Mn := Mn) (c1 := c1) (φ := φ) h0 R' (fun k hk => ft.lo k (by rw [← n0]; exact hk)) (by rw [nM, n0]) (fun k hk => ⟨(ft.hi k (by rw [← nn]; exact hk)).1, (ft.hi k (by rw [← nn]; exact hk)).2, fresh _ (List.mem_map_of_mem (by rw [← nn]; exact hk))⟩)
    (by rw [nN]; exact ft.nd) (by rw [nN]; exact ft.inj) (fun k o hk => by rw [nN]; exact adLb_ok ad1 hk) (by rw [nN]; exact adCb_ok c1N) p1 p2 p3 hl r'
  exact k F' αc v H' Rc ⟨sF, a1⟩ rv
end
end Nz
namespace Nz
open PySem PySem.Spec PyProof.Rows L2
end Nz
namespace Nz
open PySem PySem.Spec PyProof.Rows L2
end Nz
namespace Nz
open PySem PySem.Spec PyProof.Rows L2
end Nz
namespace Nz
open PySem PySem.Spec PyProof.Rows L2
end Nz
namespace Nz
end Nz
namespace Nz
open PySem PySem.Spec PyProof.Rows L2
section
variable {P : Program} {w : World} {A : Around} {E : Value → Shared → Prop} {s : Shared} {a x : Addr} {L : List (Addr × List Int)} {es : Array (Int × Value)} {ep : Nat} {t : SetTable} {k : List Int}
theorem _root_.L2.SetTR.ty (R : SetTR P w s.heap a L es ep t) : s.TypeIs (.ref a) "set" := let ⟨o, ho, ex, _⟩ := R.ob; ⟨o, ho, ex.1⟩
end
end Nz
namespace Nz
open PySem PySem.Spec PyProof.Rows L2
end Nz
namespace Nz
open PySem PySem.Spec PyProof.Rows L2
theorem lay_all {τ : Type} {e : τ → D} (h : ∀ x, (toP (e x)).canLay0 = true) : ∀ xs : List τ, PyData.canLayAll0 (toPs (xs.map e)) = true
  | [] => rfl
  | x :: xs => by simp only [List.map_cons, toPs, PyData.canLayAll0, h x, lay_all h xs, Bool.and_self]
theorem toPs_get? {τ : Type} (e : τ → D) : ∀ (xs : List τ) (i : Nat), (toPs (xs.map e))[i]? = (xs[i]?).map fun x => toP (e x)
  | [], i => by simp [toPs]
  | x :: xs, 0 => by simp [toPs]
  | x :: xs, i + 1 => by simp only [List.map_cons, toPs, List.getElem?_cons_succ]; exact toPs_get? e xs i
section
variable {X : Cx} {B : Bd} {S S1 S2 : Nz.S} {a b e o tg : Expr} {pos apos p q : Pos} {τ : Type} {enc : τ → D} {n : Nat}
theorem ev_indexD [DecidableEq τ] {bq : BEq τ} [LawfulBEq τ] (hu : X.A.units + 66 < cLine) (he : EqEnc n enc) (hlay : ∀ x, (toP (enc x)).canLay0 = true) {ca : Ce} {ns : List τ} {i : τ} (hi : i ∈ ns) (hl : AsL S1.L ca (ns.map enc)) (ho : Ev X B o S ca S1) (ha : Ev X B e S1 (.fr (enc i)) S1) (hn : n + 1 ≤ 60 := by decide) (hS : Sub S.L S1.L := by exact Sub.refl)
    (hbase : attributeBase o "index" X.env (eval o X.env) = eval o X.env := by rfl)
    (hfew : ((backTo pos (starEach (e :: []) X.env)).all (fun x => !x.1) && (backToKw pos (keywordEach [] X.env)).all (fun x => x.1.isSome)
      && decide ((e :: ([] : List Expr)).length + ([] : List Keyword).length + (if ([] : List Keyword).isEmpty then 0 else 1) < 30)) = true := by rfl)
    (hline : (apos.endLine == pos.line) = true := by rfl) (hs : starEach (e :: []) X.env = (false, eval e X.env) :: starEach [] X.env := by rfl) (hplain : (backTo pos (starEach [] X.env)).any (·.1) = false := by rfl) :
    Ev X B (.Call (.Attribute o "index" apos) [e] [] pos) S (.fr (.int ((@List.idxOf τ bq i ns : Nat) : Int))) S1 :=
  fun F α H σ Q R k => wE.of (pe_bm PySem.F.plainAttrs_list PySem.F.slot_list_index PySem.F.type_list_index (mt_indexD (by omega)) pe_w (pa_cons pe_w pa_nil hs) hbase hfew hline hs hplain) (ho F α H σ _ R fun F1 α1 v1 H1 R1 st1 r1 => by
    obtain ⟨l, us, rfl, hq, rs⟩ := R1.asL hl r1
    refine ⟨.inl ⟨rfl, us, hq⟩, ha F1 α1 H1 σ _ R1 fun F2 α2 v2 H2 R2 st2 r2 => ?_⟩
    have hd := asL_dp R2 he hl (r1.step st2 Sub.refl)
    have hy := dp_of R2.sub _ _ r2 (he.ok i)
    have hlt : @List.idxOf τ bq i ns < ns.length := List.idxOf_lt_length_of_mem hi
    have hget : ns[@List.idxOf τ bq i ns]? = some i := by rw [List.getElem?_eq_getElem hlt, List.getElem_idxOf]
    refine ⟨l, v2, toP (enc i), toPs (ns.map enc), @List.idxOf τ bq i ns, toP (enc i), rfl, rfl, hd, hy, ?_, ?_, by rw [toPs_get?, hget]; rfl, ?_, ?_, k F2 α2 _ H2 R2 (st1.trans st2 hS) (.int _)⟩
    · unfold SeqAt.shaped
      rw [Bool.and_eq_true]
      refine ⟨by simp only [PyData.canLay0]; exact lay_all hlay _, decide_eq_true ?_⟩
      have := (ee_L he).dep ns
      show (toP (eL enc ns)).depth ≤ 64
      omega
    · unfold SeqAt.shaped
      rw [Bool.and_eq_true]
      exact ⟨hlay _, decide_eq_true (by have := he.dep i; omega)⟩
    · rw [he.eqv]; exact decide_eq_true rfl
    · intro m z' hm hz
      rw [toPs_get?] at hz
      cases hg : ns[m]? with
      | none => rw [hg] at hz; cases hz
      | some y =>
        rw [hg] at hz
        cases hz
        rw [he.eqv]
        obtain ⟨hml, hmv⟩ := List.getElem?_eq_some_iff.mp hg
        have := List.not_of_lt_findIdx (p := fun x => @BEq.beq τ bq x i) (xs := ns) hm
        refine decide_eq_false fun q => ?_
        rw [hmv] at this
        subst q
        rw [beq_self_eq_true] at this; cases this)
end
end Nz
namespace Nz
open PySem PySem.Spec PyProof.Rows L2
end Nz
namespace Nz
open PySem PySem.Spec PyProof.Rows L2
end Nz
namespace Nz
open PySem PySem.Spec PyProof.Rows L2 LamX NdefX
end Nz
namespace Nz
open PySem PySem.Spec PySem.Calls PyProof.Rows PyProof.V L2
end Nz
set_option maxHeartbeats 2000000
namespace Nz
open PySem PySem.Spec PyProof.Rows L2
end Nz
set_option maxHeartbeats 2000000
namespace Nz
open PySem PySem.Spec PyProof.Rows L2
end Nz
set_option maxHeartbeats 2000000
namespace Nz
open PySem PySem.Spec PyProof.Rows L2
end Nz
namespace Nz
open PySem PySem.Spec PyProof.Rows L2
/-- the least, the first among equals -/
def minB {τ : Type} [Inhabited τ] (lt : τ → τ → Bool) : List τ → τ
  | [] => default
  | x :: xs => xs.foldl (fun a y => if lt y a then y else a) x
section
variable {τ : Type} [DecidableEq τ] [Inhabited τ] {n : Nat} {e : τ → D} {lt : τ → τ → Bool} {X : Cx}
theorem minD_fold (o : OrdEnc n e lt) : ∀ (xs : List τ) (x : τ), PySem.W.minD (toP (e x)) (toPs (xs.map e)) = toP (e (xs.foldl (fun a y => if lt y a then y else a) x))
  | [], x => by simp only [List.map_nil, toPs]; rfl
  | y :: xs, x => by
    simp only [List.map_cons, toPs]
    show (toPs (xs.map e)).foldl (fun a y => if PySem.W.dataLt y a then y else a) (if PySem.W.dataLt (toP (e y)) (toP (e x)) then toP (e y) else toP (e x)) = _
    rw [o.lt, List.foldl_cons]
    by_cases q : lt y x = true
    · rw [if_pos q, if_pos q]; exact minD_fold o xs y
    · rw [if_neg q, if_neg q]; exact minD_fold o xs x
theorem c_minD (hc : X.calm = true) (hu : X.A.units + 66 < cLine) (o : OrdEnc n e lt) {xs : List τ} (h : xs ≠ []) (hn : n ≤ 60 := by decide) : Cb X (.builtin "min") [eL e xs] (e (minB lt xs)) :=
  fun B F α H σ S Q vs R rx k pins s us I rv => by
    cases rx with
    | cons r rr =>
      cases rr
      obtain ⟨a, ws, rfl, hq, rs⟩ := R.asL (c := .fr (.lst (xs.map e))) rfl r
      obtain ⟨its, rits, hl, hz2⟩ := I.list hq
      rw [Vals.ref1 rv]
      obtain ⟨h1, h2⟩ := reps_each (K := X.K) (mg := X.mg) I R.sub o.ok rs rits
      obtain ⟨bs, hra⟩ := each_readsAll h2
      have hll : its.length = xs.length := by rw [← rits.length, ← rs.length, List.length_map]
      have hpos : 0 < xs.length := List.length_pos_iff.mpr h
      have hdep := ees_dep o.toEqEnc xs
      refine PySem.call_min_walkH (PySem.W.iter_listW (A := X.A.in1) (I.ok.hd hc) hl.isList fun s₂ e2 W st hfp hw hk => ?_)
      refine ⟨_, _, _, _, _, _, _, s.heap, _, rfl, W, st, hfp, by simp; omega, hw, hk, PySem.W.cmpIn_lt (A := X.A.in1) (vs := its.toArray) (xs := toPs (xs.map e)) (by simpa using hra) (toPs_alike o xs) (by show X.A.units + 1 + _ < _; omega), fun v s' hP m => ?_⟩
      obtain ⟨h', tk, rfl, hk'⟩ := PySem.W.moved_old e2 rfl m
      have I' : L2.Inv X pins σ H { s with heap := h', toks := tk } := I.kept (t' := tk) hk'
      cases xs with
      | nil => exact absurd rfl h
      | cons x0 xs0 =>
        have hfold := PySem.W.argBest_fold (fun a b => PySem.W.dataLt a b) PyData.none (toP (e x0)) (toPs (xs0.map e)) (toPs (xs0.map e)).length (Nat.le_refl _)
        rw [List.take_length] at hfold
        have hlen0 : (toPs (xs0.map e)).length = xs0.length := by
          have : ∀ ys : List τ, (toPs (ys.map e)).length = ys.length := by
            intro ys
            induction ys with
            | nil => simp only [List.map_nil, toPs]; rfl
            | cons y ys ih => simp only [List.map_cons, toPs, List.length_cons, ih]
          exact this xs0
        have hsz : its.toArray.size - 1 = (toPs (xs0.map e)).length := by rw [hlen0]; simp; rw [hll]; simp
        have hcons : toPs ((x0 :: xs0).map e) = toP (e x0) :: toPs (xs0.map e) := by simp only [List.map_cons, toPs]
        rw [hcons, hsz] at hP
        generalize hK : PySem.argBest (fun i j => PySem.W.dataLt ((toP (e x0) :: toPs (xs0.map e)).getD i PyData.none) ((toP (e x0) :: toPs (xs0.map e)).getD j PyData.none)) (toPs (xs0.map e)).length = Kx at hP hfold
        have hKlt : Kx < (x0 :: xs0).length := by rw [List.length_cons, ← hlen0]; have := hfold.1; omega
        have hg := toPs_get o (x0 :: xs0) Kx hKlt
        rw [hcons] at hg
        have hmx : toP (e ((x0 :: xs0).getD Kx default)) = toP (e (minB lt (x0 :: xs0))) := by
          rw [← hg, hfold.2]
          exact minD_fold o xs0 x0
        have hx := toP_inj o hmx
        have hws : ∃ v', ws[Kx]? = some v' ∧ Rep X.K X.mg F (e (minB lt (x0 :: xs0))) v' := by
          obtain ⟨v', a1, a2⟩ := rs.get (show ((x0 :: xs0).map e)[Kx]? = some (e (minB lt (x0 :: xs0))) by
            rw [List.getElem?_map, List.getElem?_eq_getElem hKlt, ← hx, List.getD_eq_getElem?_getD, List.getElem?_eq_getElem hKlt]; rfl)
          exact ⟨v', a1, a2⟩
        obtain ⟨v', a1, a2⟩ := hws
        obtain ⟨u, b1, b2⟩ := rits.get a1
        have hv : v = u := by
          have hP' : its[Kx]? = some v := by simpa using hP
          rw [b1] at hP'
          exact (Option.some.inj hP').symm
        rw [hv]
        exact ⟨v', H, I', b2, k F α _ H R Stp.refl a2⟩
end
theorem lay_I : ∀ x : List Int, (toP (eL D.int x)).canLay0 = true := fun x => by
  show (PyData.list (toPs (x.map D.int))).canLay0 = true
  simp only [PyData.canLay0]
  exact lay_all (fun y => by simp [toP, PyData.canLay0]) x
section
variable {X : Cx} {B : Bd} {S S1 : Nz.S} {es : List Expr} {pos : Pos}
/-- a display whose items may live -/
theorem ev_lstC (n : Nat) {cs : List Ce} (h : Ea X B es S cs S1) (hz : cs.length ≤ sizeLine) (hn : n ∉ names S1.L) (h100 : 100 ≤ n) (h1 : Sub S.L S1.L := by exact Sub.refl) : Ev X B (.List es pos) S (.ad n) ⟨S1.ρ, S1.L ++ [(n, .cl cs)]⟩ :=
  fun F α H σ Q R k => wE.of (pe_lst pa_w) (h F α H σ _ R fun F1 α1 vs H1 R1 st1 r => by
    refine ⟨by rw [← r.length]; exact hz, fun p hp => ?_⟩
    refine k F1 (setα α1 n p) _ _ (R1.allocL hp hn h100 ⟨vs, upd_same, r.step (stp_setα hn) (Sub.app)⟩) (st1.trans (stp_setα hn) h1) ⟨?_, ?_⟩
    · rw [names_append]; exact List.mem_append_right _ (List.mem_singleton.mpr rfl)
    · show V.ref p = V.ref (if n = n then p else α1 n)
      rw [if_pos rfl])
end
end Nz
namespace Nz
theorem sub_of {L L' : List (Nat × LO)} (h : (names L).all (fun k => (names L').elem k) = true) : Sub L L' := fun n hn => List.elem_iff.mp (List.all_eq_true.mp h n hn)
end Nz
namespace Nz
open PySem PySem.Spec PyProof.Rows L2
section
variable {prog : Program} {w : World} {A : Around} {E : Value → Shared → Prop} {s : Shared}
theorem getItem_tuple_all {t sl : Addr} {items : Array Value} {vl vu : Value} {lo hi : Option Int} {Q : Value → Shared → Prop} (ht : IsTup s.heap t items) (hs : s.heap.IsSliceOf sl vl vu .none) (pl : IsPart vl lo) (pu : IsPart vu hi)
    (hw : HT.sIx items.size 0 lo = 0 ∧ HT.sIx items.size items.size hi = items.size) (h : Q (.ref t) s) : wpAny (model prog w) A (getItem (.ref t) (.ref sl)) Q E s := by
  obtain ⟨os, hos, hcs, hds⟩ := id hs
  have hTs : s.TypeIs (.ref sl) "slice" := ⟨os, hos, hcs⟩
  have hyes : (((HT.sIx items.size 0 lo : Nat) : Int) == 0 && (1 : Int) == 1 && (HT.sIx items.size items.size hi - HT.sIx items.size 0 lo) == items.size) = true := by
    rw [hw.1, hw.2]; simp
  unfold getItem
  try with_reducible refine wpAny_holding ?_
  first | refine wpAny_bind (wpAny_pure ?_) | skip
  refine wpAny_bind (wpAny_sequenceKey ht.typeIs (by decide) ?_)
  refine wpAny_bind (wpAny_callSpecial?_slot (name := Str.ofString "__getitem__") ht.typeIs PyProof.Rows.slot_tuple_getitem
    (wpAny_call_entry PyProof.Rows.slot_tuple_getitem ht.typeIs entry_tuple_getitem ?_ (args_tuple_getitem _ _)))
  show wpAny _ _ (Builtin.Tuple.tupleItemsOf (.ref t) >>= _) _ _ s
  refine wpAny_bind (tupleItemsOf_ ht ?_)
  refine wpAny_bind (wpAny_typeOf hTs ?_)
  rw [if_pos (by decide)]
  refine wpAny_bind (HT.sliceApplied_gen hs pl pu ?_)
  show wpAny _ _ (if (((HT.sIx items.size 0 lo : Nat) : Int) == 0 && (1 : Int) == 1 && (HT.sIx items.size items.size hi - HT.sIx items.size 0 lo) == items.size) = true then _ else _) _ _ s
  rw [if_pos hyes]
  have hx : ∀ {A' : Around} {β : Type} {f : Bool → Sem β} {Q' : β → Shared → Prop}, wpAny (model prog w) A' (f true) Q' E s → wpAny (model prog w) A' (Builtin.Tuple.tupleIsExact (.ref t) >>= f) Q' E s := fun q => by
    unfold Builtin.Tuple.tupleIsExact
    refine wpAny_bind (wpAny_bind (wpAny_typeOf ht.typeIs ?_))
    exact wpAny_pure q
  refine hx ?_
  rw [if_pos rfl]
  refine wpAny_bind (wpAny_rule ?_)
  exact wpAny_pure ⟨_, rfl, wpAny_pure h⟩
end
def rSlW (K : PySem.W.Frag) : V → Option Int → Option Int → Hp → VK → Prop := fun x lo hi H Q => ∃ a xs, x = .ref a ∧ SqT K H a xs ∧ (HT.sIx xs.length 0 lo = 0 ∧ HT.sIx xs.length xs.length hi = xs.length) ∧ Q (.ref a) H
section
variable {X : Cx} {B : Bd} {S S1 : Nz.S} {a : Expr} {pos p2 : Pos} {τ : Type} {enc : τ → D} {ds : List D}
theorem sl_tupW : L2.SlR X (rSlW X.K) := by
  intro pins s σ H x v vl vu lo hi sl Q I rx hs pl pu h
  obtain ⟨a, xs, rfl, hx, hw, q⟩ := h
  cases rx
  obtain ⟨its, r, ht, hz⟩ := I.tuple hx
  have hlen : its.toArray.size = xs.length := by rw [List.size_toArray]; exact r.length.symm
  refine ⟨"tuple", _, PyProof.Rows.slot_tuple_getitem.lookup, ht.typeIs, ?_⟩
  exact getItem_tuple_all ht hs pl pu (by rw [hlen]; exact hw) ⟨.ref a, H, I, rfl, q⟩
theorem ev_sliceUD {lo hi : Option Expr} {ol oh : Option Int} (ha : Ev X B a S (.fr (.tup ds)) S1) (h1 : Eo X B lo S1 ol) (h2 : Eo X B hi S1 oh) (hS : Sub S.L S1.L := by exact Sub.refl) : Ev X B (.Subscript a (.Slice lo hi none p2) pos) S (.fr (.tup (slcD ds ol oh))) S1 :=
  fun F α H σ Q R k => wE.of (pe_slice (SlR.or sl_tup sl_tupW) pe_w po_w po_w) (ha F α H σ _ R fun F1 α1 v1 H1 R1 st1 r1 => h1 F1 α1 H1 σ _ R1 fun F2 α2 H2 R2 st2 => h2 F2 α2 H2 σ _ R2 fun F3 α3 H3 R3 st3 => by
    have st := (st1.trans st2 hS).trans st3 hS
    obtain ⟨pa, vs, rfl, hq, rs⟩ := R3.asT (Rep.mono (st2.trans st3 Sub.refl).fro r1)
    by_cases hw : HT.sIx vs.length 0 ol = 0 ∧ HT.sIx vs.length vs.length oh = vs.length
    · refine .inr ⟨pa, vs, rfl, hq, hw, ?_⟩
      have hl := rs.length
      have e : slcD ds ol oh = ds := by
        unfold slcD
        rw [hl, hw.1, hw.2, List.drop_zero, Nat.sub_zero, ← hl, List.take_length]
      rw [e] at k
      exact k _ α3 _ _ R3 st (Rep.mono (st2.trans st3 Sub.refl).fro r1)
    · refine .inl ⟨pa, vs, rfl, hq, hw, fun l hl' => k _ α3 _ _ (R3.allocF hl') ⟨st.fro.trans (same_upd (R3.fresh hl')), st.nm⟩ (.tup (SqT.of upd_same) (Reps.mono (same_upd (R3.fresh hl')) ?_))⟩
      unfold slcD cutV
      rw [rs.length]
      exact (rs.drop _).take _)
theorem ev_sliceU {xs : List τ} {lo hi : Option Expr} {ol oh : Option Int} (ha : Ev X B a S (.fr (eU enc xs)) S1) (h1 : Eo X B lo S1 ol) (h2 : Eo X B hi S1 oh) (hS : Sub S.L S1.L := by exact Sub.refl) : Ev X B (.Subscript a (.Slice lo hi none p2) pos) S (.fr (eU enc (slcD xs ol oh))) S1 := by
  have := ev_sliceUD (pos := pos) (p2 := p2) (ds := xs.map enc) ha h1 h2 hS
  rwa [slcD_map] at this
end
end Nz
set_option maxRecDepth 100000
set_option maxHeartbeats 4000000
namespace My
open PySem PySem.Spec PyProof.Rows L2 Nz
def top (i : Nat) : Stmt := PySem.Challenge.pw_neverlate_k11_tables.main.body.getD i (.Pass ⟨0, 0, 0, 0⟩)
local macro_rules | `(tactic| walk_at "few") => `(tactic| omega)
local macro_rules | `(tactic| walk_at "dlx") => `(tactic| assumption)
local macro_rules | `(tactic| walk_at "dom") => `(tactic| exact getD_mem (by walk_at "sd"))
local macro_rules | `(tactic| walk_at "cpre") => `(tactic| assumption)
local macro_rules | `(tactic| walk_at "dl") => `(tactic| omega)
local macro_rules | `(tactic| walk_at "dk") => `(tactic| assumption)
local macro_rules | `(tactic| walk_at "pad") => `(tactic| decide)
local macro_rules | `(tactic| walk_at "okd") => `(tactic| first | exact okD_int (by omega) | exact okD_str (by omega))
local macro_rules | `(tactic| walk_at "intt") => `(tactic| fail)
local macro_rules | `(tactic| walk_at "rep") => `(tactic| omega)
local macro_rules | `(tactic| walk_at "sdI") => `(tactic| omega)
local macro_rules | `(tactic| walk_at "sdN") => `(tactic| first | omega | (simp only [List.length_set]; omega))
local macro_rules | `(tactic| walk_at "lnl") => `(tactic| fail)
local macro_rules | `(tactic| walk_at "ext") => `(tactic| omega)
local macro_rules | `(tactic| walk_at "lcm") => `(tactic| omega)
local macro_rules | `(tactic| walk_at "fdivw") => `(tactic| exact fdivW_of (by omega) (by omega))
local macro_rules | `(tactic| walk_at "str") => `(tactic| (apply small_log; omega))
local macro_rules | `(tactic| walk_at "scan") => `(tactic| (unfold PySem.scanBound; omega))
local macro_rules | `(tactic| walk_at "mulw") => `(tactic| first | exact mulW_of (by omega) | with_reducible assumption)
local macro_rules | `(tactic| walk_at "divw") => `(tactic| first | exact divW_of (by omega) | with_reducible assumption)
local macro_rules | `(tactic| walk_at "some") => `(tactic| first | assumption | exact some_ofW (by assumption) | exact some_of (by assumption) | exact some_of2 (by assumption) | exact some_of3 (by assumption) | exact some_of4 (by assumption) | exact some_of5 (by assumption) | (simp_all; done))
local macro_rules | `(tactic| walk_at "mem") => `(tactic| first | assumption | exact minL_mem (by walk_at "ne") | exact maxL_mem (by walk_at "ne"))
local macro_rules | `(tactic| walk_at "sd") => `(tactic| first | omega | (have hyy := seq_range (by assumption); omega) | (have hyy := rng_lt (by assumption); omega) | (simp only [List.length_append, List.length_map, List.length_cons, List.length_nil, List.length_range, List.length_replicate] at *; omega) | decide | with_reducible assumption | exact Int.emod_nonneg _ (by omega) | exact Int.emod_lt_of_pos _ (by omega) | (constructor <;> omega) | (refine ⟨?_, ?_⟩ <;> omega))
local macro_rules | `(tactic| walk_at "mul") => `(tactic| first | exact Or.inl ⟨by omega, by omega⟩ | (have hyy := seq_range (by assumption); exact Or.inl ⟨by omega, by omega⟩) | exact Or.inr ⟨by omega, by omega⟩ | with_reducible assumption)
local macro_rules | `(tactic| walk_at "ne") => `(tactic| first | assumption | (intro h; subst h; contradiction) | (intro h; simp only [h, List.isEmpty_nil, not_true_eq_false] at *; done) | (intro h; have := congrArg List.length h; simp only [List.length_map, List.length_range, List.length_nil, List.length_append, List.length_cons] at this; omega) | (simp; done) | (intro h; simp [h] at *; done) | (intro h; simp [h] at *; omega))
local macro_rules | `(tactic| walk_at "pre") => `(tactic| first | omega | with_reducible assumption | (simp only [List.length_map]; omega) | (refine ⟨?_, ?_⟩ <;> first | omega | with_reducible assumption) | (refine ⟨?_, ?_, ?_⟩ <;> first | omega | with_reducible assumption) | (refine ⟨?_, ?_, ?_, ?_⟩ <;> first | omega | with_reducible assumption) | (have hyy := seq_range (by assumption); (repeat' apply And.intro) <;> omega))
abbrev s_law_row : Stmt := top 14
abbrev s_law_numbers : Stmt := top 15
abbrev s_repeated : Stmt := top 2
abbrev s_rotated : Stmt := top 3
abbrev s_common_length : Stmt := top 4
abbrev s_common : Stmt := top 5
abbrev s_reduced : Stmt := top 7
abbrev s_shortest : Stmt := top 8
abbrev s_repeatedu : Stmt := top 2
abbrev s_rotatedu : Stmt := top 3
abbrev s_common_lengthu : Stmt := top 4
abbrev s_commonu : Stmt := top 5
abbrev s_reducedu : Stmt := top 7
abbrev s_shortestu : Stmt := top 8
abbrev s_joined : Stmt := top 6
abbrev s_repeatedn : Stmt := top 2
abbrev s_rotatedn : Stmt := top 3
abbrev s_shortestn : Stmt := top 8
abbrev s_joinedn : Stmt := top 6
abbrev s_are_alike : Stmt := top 9
abbrev s_are_alikeu : Stmt := top 9
abbrev s_least_rotation : Stmt := top 11
abbrev s_first_rotation : Stmt := top 12
abbrev s_are_rotations : Stmt := top 10
abbrev s_law_slot : Stmt := top 16
abbrev s_law_is_table : Stmt := top 17
abbrev s_law_alike : Stmt := top 18
abbrev s_law_tables : Stmt := top 19
abbrev s_law_shortest : Stmt := top 20
abbrev s_law_least_rotation : Stmt := top 21
abbrev s_law_new_lists : Stmt := top 22
abbrev s_law : Stmt := top 23
structure TX (P : Program) (K : Frag) (mg : Mg) where
  n_abs : mg "abs" = none
  n_bool : mg "bool" = none
  n_int : mg "int" = none
  n_isinstance : mg "isinstance" = none
  n_len : mg "len" = none
  n_list : mg "list" = none
  n_max : mg "max" = none
  n_min : mg "min" = none
  n_range : mg "range" = none
  n_tuple : mg "tuple" = none
  n_zip : mg "zip" = none
  x_lcm : mg "lcm" = some (.builtin "math.lcm")
  a_law_row : Addr
  d_law_row : FuncData
  F_law_row : Fun K "_law_row" "_law_row" s_law_row a_law_row d_law_row
  k_law_row : PySem.W.keepIn K (.ref a_law_row) = true
  m_law_row : mg "_law_row" = some (.ref a_law_row)
  b_law_row : Binds K d_law_row ["cell", "many"] []
  a_law_numbers : Addr
  d_law_numbers : FuncData
  F_law_numbers : Fun K "_law_numbers" "_law_numbers" s_law_numbers a_law_numbers d_law_numbers
  k_law_numbers : PySem.W.keepIn K (.ref a_law_numbers) = true
  m_law_numbers : mg "_law_numbers" = some (.ref a_law_numbers)
  b_law_numbers : Binds K d_law_numbers ["script", "many"] []
  a_repeated : Addr
  d_repeated : FuncData
  F_repeated : Fun K "repeated" "repeated" s_repeated a_repeated d_repeated
  k_repeated : PySem.W.keepIn K (.ref a_repeated) = true
  m_repeated : mg "repeated" = some (.ref a_repeated)
  b_repeated : Binds K d_repeated ["table", "times"] []
  a_rotated : Addr
  d_rotated : FuncData
  F_rotated : Fun K "rotated" "rotated" s_rotated a_rotated d_rotated
  k_rotated : PySem.W.keepIn K (.ref a_rotated) = true
  m_rotated : mg "rotated" = some (.ref a_rotated)
  b_rotated : Binds K d_rotated ["table", "by"] []
  a_common_length : Addr
  d_common_length : FuncData
  F_common_length : Fun K "common_length" "common_length" s_common_length a_common_length d_common_length
  k_common_length : PySem.W.keepIn K (.ref a_common_length) = true
  m_common_length : mg "common_length" = some (.ref a_common_length)
  b_common_length : Binds K d_common_length ["one", "other"] []
  a_common : Addr
  d_common : FuncData
  F_common : Fun K "common" "common" s_common a_common d_common
  k_common : PySem.W.keepIn K (.ref a_common) = true
  m_common : mg "common" = some (.ref a_common)
  b_common : Binds K d_common ["one", "other"] []
  a_reduced : Addr
  d_reduced : FuncData
  F_reduced : Fun K "reduced" "reduced" s_reduced a_reduced d_reduced
  k_reduced : PySem.W.keepIn K (.ref a_reduced) = true
  m_reduced : mg "reduced" = some (.ref a_reduced)
  b_reduced : Binds K d_reduced ["one", "other"] []
  a_shortest : Addr
  d_shortest : FuncData
  F_shortest : Fun K "shortest" "shortest" s_shortest a_shortest d_shortest
  k_shortest : PySem.W.keepIn K (.ref a_shortest) = true
  m_shortest : mg "shortest" = some (.ref a_shortest)
  b_shortest : Binds K d_shortest ["table"] []
  a_repeatedu : Addr
  d_repeatedu : FuncData
  F_repeatedu : Fun K "repeated" "repeated" s_repeatedu a_repeatedu d_repeatedu
  k_repeatedu : PySem.W.keepIn K (.ref a_repeatedu) = true
  m_repeatedu : mg "repeated" = some (.ref a_repeatedu)
  b_repeatedu : Binds K d_repeatedu ["table", "times"] []
  a_rotatedu : Addr
  d_rotatedu : FuncData
  F_rotatedu : Fun K "rotated" "rotated" s_rotatedu a_rotatedu d_rotatedu
  k_rotatedu : PySem.W.keepIn K (.ref a_rotatedu) = true
  m_rotatedu : mg "rotated" = some (.ref a_rotatedu)
  b_rotatedu : Binds K d_rotatedu ["table", "by"] []
  a_common_lengthu : Addr
  d_common_lengthu : FuncData
  F_common_lengthu : Fun K "common_length" "common_length" s_common_lengthu a_common_lengthu d_common_lengthu
  k_common_lengthu : PySem.W.keepIn K (.ref a_common_lengthu) = true
  m_common_lengthu : mg "common_length" = some (.ref a_common_lengthu)
  b_common_lengthu : Binds K d_common_lengthu ["one", "other"] []
  a_commonu : Addr
  d_commonu : FuncData
  F_commonu : Fun K "common" "common" s_commonu a_commonu d_commonu
  k_commonu : PySem.W.keepIn K (.ref a_commonu) = true
  m_commonu : mg "common" = some (.ref a_commonu)
  b_commonu : Binds K d_commonu ["one", "other"] []
  a_reducedu : Addr
  d_reducedu : FuncData
  F_reducedu : Fun K "reduced" "reduced" s_reducedu a_reducedu d_reducedu
  k_reducedu : PySem.W.keepIn K (.ref a_reducedu) = true
  m_reducedu : mg "reduced" = some (.ref a_reducedu)
  b_reducedu : Binds K d_reducedu ["one", "other"] []
  a_shortestu : Addr
  d_shortestu : FuncData
  F_shortestu : Fun K "shortest" "shortest" s_shortestu a_shortestu d_shortestu
  k_shortestu : PySem.W.keepIn K (.ref a_shortestu) = true
  m_shortestu : mg "shortest" = some (.ref a_shortestu)
  b_shortestu : Binds K d_shortestu ["table"] []
  a_joined : Addr
  d_joined : FuncData
  F_joined : Fun K "joined" "joined" s_joined a_joined d_joined
  k_joined : PySem.W.keepIn K (.ref a_joined) = true
  m_joined : mg "joined" = some (.ref a_joined)
  b_joined : Binds K d_joined ["one", "other"] []
  a_repeatedn : Addr
  d_repeatedn : FuncData
  F_repeatedn : Fun K "repeated" "repeated" s_repeatedn a_repeatedn d_repeatedn
  k_repeatedn : PySem.W.keepIn K (.ref a_repeatedn) = true
  m_repeatedn : mg "repeated" = some (.ref a_repeatedn)
  b_repeatedn : Binds K d_repeatedn ["table", "times"] []
  a_rotatedn : Addr
  d_rotatedn : FuncData
  F_rotatedn : Fun K "rotated" "rotated" s_rotatedn a_rotatedn d_rotatedn
  k_rotatedn : PySem.W.keepIn K (.ref a_rotatedn) = true
  m_rotatedn : mg "rotated" = some (.ref a_rotatedn)
  b_rotatedn : Binds K d_rotatedn ["table", "by"] []
  a_shortestn : Addr
  d_shortestn : FuncData
  F_shortestn : Fun K "shortest" "shortest" s_shortestn a_shortestn d_shortestn
  k_shortestn : PySem.W.keepIn K (.ref a_shortestn) = true
  m_shortestn : mg "shortest" = some (.ref a_shortestn)
  b_shortestn : Binds K d_shortestn ["table"] []
  a_joinedn : Addr
  d_joinedn : FuncData
  F_joinedn : Fun K "joined" "joined" s_joinedn a_joinedn d_joinedn
  k_joinedn : PySem.W.keepIn K (.ref a_joinedn) = true
  m_joinedn : mg "joined" = some (.ref a_joinedn)
  b_joinedn : Binds K d_joinedn ["one", "other"] []
  a_are_alike : Addr
  d_are_alike : FuncData
  F_are_alike : Fun K "are_alike" "are_alike" s_are_alike a_are_alike d_are_alike
  k_are_alike : PySem.W.keepIn K (.ref a_are_alike) = true
  m_are_alike : mg "are_alike" = some (.ref a_are_alike)
  b_are_alike : Binds K d_are_alike ["one", "other"] []
  a_are_alikeu : Addr
  d_are_alikeu : FuncData
  F_are_alikeu : Fun K "are_alike" "are_alike" s_are_alikeu a_are_alikeu d_are_alikeu
  k_are_alikeu : PySem.W.keepIn K (.ref a_are_alikeu) = true
  m_are_alikeu : mg "are_alike" = some (.ref a_are_alikeu)
  b_are_alikeu : Binds K d_are_alikeu ["one", "other"] []
  a_least_rotation : Addr
  d_least_rotation : FuncData
  F_least_rotation : Fun K "least_rotation" "least_rotation" s_least_rotation a_least_rotation d_least_rotation
  k_least_rotation : PySem.W.keepIn K (.ref a_least_rotation) = true
  m_least_rotation : mg "least_rotation" = some (.ref a_least_rotation)
  b_least_rotation : Binds K d_least_rotation ["table"] []
  a_first_rotation : Addr
  d_first_rotation : FuncData
  F_first_rotation : Fun K "_first_rotation" "_first_rotation" s_first_rotation a_first_rotation d_first_rotation
  k_first_rotation : PySem.W.keepIn K (.ref a_first_rotation) = true
  m_first_rotation : mg "_first_rotation" = some (.ref a_first_rotation)
  b_first_rotation : Binds K d_first_rotation ["table"] []
  a_are_rotations : Addr
  d_are_rotations : FuncData
  F_are_rotations : Fun K "are_rotations" "are_rotations" s_are_rotations a_are_rotations d_are_rotations
  k_are_rotations : PySem.W.keepIn K (.ref a_are_rotations) = true
  m_are_rotations : mg "are_rotations" = some (.ref a_are_rotations)
  b_are_rotations : Binds K d_are_rotations ["one", "other"] []
  a_law_slot : Addr
  d_law_slot : FuncData
  F_law_slot : Fun K "_law_slot" "_law_slot" s_law_slot a_law_slot d_law_slot
  k_law_slot : PySem.W.keepIn K (.ref a_law_slot) = true
  m_law_slot : mg "_law_slot" = some (.ref a_law_slot)
  b_law_slot : Binds K d_law_slot ["table", "slot"] []
  a_law_is_table : Addr
  d_law_is_table : FuncData
  F_law_is_table : Fun K "_law_is_table" "_law_is_table" s_law_is_table a_law_is_table d_law_is_table
  k_law_is_table : PySem.W.keepIn K (.ref a_law_is_table) = true
  m_law_is_table : mg "_law_is_table" = some (.ref a_law_is_table)
  b_law_is_table : Binds K d_law_is_table ["actual", "due"] []
  a_law_alike : Addr
  d_law_alike : FuncData
  F_law_alike : Fun K "_law_alike" "_law_alike" s_law_alike a_law_alike d_law_alike
  k_law_alike : PySem.W.keepIn K (.ref a_law_alike) = true
  m_law_alike : mg "_law_alike" = some (.ref a_law_alike)
  b_law_alike : Binds K d_law_alike ["one", "other", "by"] []
  a_law_tables : Addr
  d_law_tables : FuncData
  F_law_tables : Fun K "_law_tables" "_law_tables" s_law_tables a_law_tables d_law_tables
  k_law_tables : PySem.W.keepIn K (.ref a_law_tables) = true
  m_law_tables : mg "_law_tables" = some (.ref a_law_tables)
  b_law_tables : Binds K d_law_tables ["numbers"] []
  a_law_shortest : Addr
  d_law_shortest : FuncData
  F_law_shortest : Fun K "_law_shortest" "_law_shortest" s_law_shortest a_law_shortest d_law_shortest
  k_law_shortest : PySem.W.keepIn K (.ref a_law_shortest) = true
  m_law_shortest : mg "_law_shortest" = some (.ref a_law_shortest)
  b_law_shortest : Binds K d_law_shortest ["table"] []
  a_law_least_rotation : Addr
  d_law_least_rotation : FuncData
  F_law_least_rotation : Fun K "_law_least_rotation" "_law_least_rotation" s_law_least_rotation a_law_least_rotation d_law_least_rotation
  k_law_least_rotation : PySem.W.keepIn K (.ref a_law_least_rotation) = true
  m_law_least_rotation : mg "_law_least_rotation" = some (.ref a_law_least_rotation)
  b_law_least_rotation : Binds K d_law_least_rotation ["table"] []
  a_law_new_lists : Addr
  d_law_new_lists : FuncData
  F_law_new_lists : Fun K "_law_new_lists" "_law_new_lists" s_law_new_lists a_law_new_lists d_law_new_lists
  k_law_new_lists : PySem.W.keepIn K (.ref a_law_new_lists) = true
  m_law_new_lists : mg "_law_new_lists" = some (.ref a_law_new_lists)
  b_law_new_lists : Binds K d_law_new_lists ["one", "other"] []
  a_law : Addr
  d_law : FuncData
  F_law : Fun K "law" "law" s_law a_law d_law
  k_law : PySem.W.keepIn K (.ref a_law) = true
  m_law : mg "law" = some (.ref a_law)
  b_law : Binds K d_law ["script"] []
  e_law : ∀ (s : Shared) (v : Value), BindsTo s d_law ⟨[v], []⟩ [("script", v)]
section
variable {P : Program} {w : World} {K : Frag} {mg : Mg} {base : Heap}
def m_law_row_l0 (cell : Int) (zs0 : (List Int) × Int) (zy0 : Nat) : (List Int) × Int :=
  if (((10 : Int) ^ ((18 : Int)).toNat) ≤ (if cell < 0 then -cell else cell)) then ((zs0.1 ++ [(zs0.2 % (1009 : Int))]), (zs0.2 / (1009 : Int))) else let mixed : Int := (((zs0.2 * (48271 : Int)) + ((((0 : Int) + (zy0 : Int)) + (1 : Int)) * (69621 : Int))) % (2147483647 : Int))
  let mixed : Int := (((mixed * (16807 : Int)) + ((271 : Int) * (((0 : Int) + (zy0 : Int)) + (3 : Int)))) % (2147483629 : Int))
  ((zs0.1 ++ [(mixed % (1009 : Int))]), zs0.2)
def m_law_row (cell : Int) (many : Int) : List Int :=
  let rest1 : Int := (if cell < 0 then -cell else cell)
  ((List.range (many).toNat).foldl (m_law_row_l0 cell) (([] : List Int), rest1)).1
theorem len_row (cell many : Int) : (m_law_row cell many).length = many.toNat := by
  have key : ∀ (n : Nat) (xs : List Nat) (s : List Int × Int), ((xs.foldl (m_law_row_l0 cell) s).1).length = s.1.length + xs.length := by
    intro _ xs
    induction xs with
    | nil => intro s; rfl
    | cons x r ih =>
      intro s
      rw [List.foldl_cons, ih]
      have : ((m_law_row_l0 cell s x).1).length = s.1.length + 1 := by
        unfold m_law_row_l0
        split <;> split <;> simp
      rw [this, List.length_cons]; omega
  have := key 0 (List.range (many).toNat) (([] : List Int), (if cell < 0 then -cell else cell))
  unfold m_law_row
  simpa using this
theorem mem_row (cell many : Int) : ∀ x ∈ m_law_row cell many, 0 ≤ x ∧ x ≤ 1008 := by
  have key : ∀ (xs : List Nat) (s : List Int × Int), (∀ x ∈ s.1, 0 ≤ x ∧ x ≤ 1008) → ∀ x ∈ ((xs.foldl (m_law_row_l0 cell) s).1), 0 ≤ x ∧ x ≤ 1008 := by
    intro xs
    induction xs with
    | nil => intro s h; exact h
    | cons y r ih =>
      intro s h
      rw [List.foldl_cons]
      refine ih _ ?_
      have app : ∀ (v : Int), 0 ≤ v ∧ v ≤ 1008 → ∀ x ∈ s.1 ++ [v], 0 ≤ x ∧ x ≤ 1008 := fun v hv x hx => by
        rcases List.mem_append.mp hx with hx | hx
        · exact h x hx
        · rw [List.mem_singleton.mp hx]; exact hv
      unfold m_law_row_l0
      split <;> split <;> exact app _ (by omega)
  unfold m_law_row
  exact key _ _ (fun x hx => absurd hx (by simp))
theorem sc_law_row : FnScope ["cell", "many", "row", "rest", "k", "mixed"] ["cell", "many"] (defScope s_law_row) := ⟨rfl, rfl, rfl, by decide +kernel, rfl, by decide +kernel, by decide +kernel⟩
def sp_law_row : SpN := fun zcs zL zKc => ∃ cell : Int, ∃ many : Int, zcs = [.fr (D.int cell), .fr (D.int many)] ∧ zL = [] ∧ (0 ≤ many ∧ many ≤ 1001) ∧ ∀ zL', zKc (.fr ((eL D.int) (m_law_row cell many))) zL'
theorem ok_law_row (T : TX P K mg) : FnOk P w K mg base CX0 1 T.a_law_row T.d_law_row ["cell", "many"] (SpOf K mg sp_law_row) := by
  refine T.F_law_row.okN sc_law_row (fun zcs zL zKc zh => by obtain ⟨cell, many, rfl, _⟩ := zh; rfl) fun zcdv zA zout zst zH zE zB zcs zL zKc zhr zh => ?_
  obtain ⟨cell, many, rfl, rfl, hpre, zk⟩ := zh
  have nd := sc_law_row.nd
  have hSL := sizeLine_eq
  show Exs _ _ _ ⟨[some (.fr (D.int cell)), some (.fr (D.int many)), none, none, none, none], []⟩ _
  refine exs_cons (ex_set 2 (ev_lstN 100 (enc := D.int) ([] : List Int) ea_nil rfl (by simp only [List.length_cons, List.length_nil]; decide) (by simp [names]) (by decide)) ?_ nd rfl (.inl rfl))
  show Exs _ _ _ ⟨[some (.fr (D.int cell)), some (.fr (D.int many)), some (.ad 100), none, none, none], [(100, .fl ((([] : List Int)).map D.int))]⟩ _
  refine exs_cons (ex_set 3 (ev_callB (ds := [D.int cell]) c_abs (ea_cons (ev_var 0 rfl (.inl rfl) rfl) ea_nil) (by exact rfl) T.n_abs (by decide +kernel)) ?_ nd rfl (.inl rfl))
  show Exs _ _ _ ⟨[some (.fr (D.int cell)), some (.fr (D.int many)), some (.ad 100), some (.fr (D.int (if cell < 0 then -cell else cell))), none, none], [(100, .fl ((([] : List Int)).map D.int))]⟩ _
  generalize zg_rest : (if cell < 0 then -cell else cell) = rest
  show Exs _ _ _ ⟨[some (.fr (D.int cell)), some (.fr (D.int many)), some (.ad 100), some (.fr (D.int rest)), none, none], [(100, .fl ((([] : List Int)).map D.int))]⟩ _
  refine exs_cons (ex_forF (enc := (fun i : Nat => D.int ((0 : Int) + (i : Int)))) (fun (zs0 : (List Int) × Int) => (⟨[some (.fr (D.int cell)), some (.fr (D.int many)), some (.ad 100), some (.fr (D.int zs0.2)), none, none], [(100, .fl ((zs0.1).map D.int))]⟩ : Nz.S)) (m_law_row_l0 cell) (([] : List Int), rest) (fun (zi0 : Nat) (zs0 : (List Int) × Int) => zs0.1.length ≤ zi0) (src_range1 (ea_cons (ev_var 1 rfl (.inl rfl) rfl) ea_nil) (by exact rfl) T.n_range (by walk_at "sd") (by walk_at "sd")) ⟨⟨.inr rfl, .inr rfl, .inr rfl, .inr rfl, .inl rfl, .inl rfl, trivial⟩, rfl⟩ (by simp) ?_ ?_ PassesOwn.never rfl)
  · intro zi0 zy0 zs0 zhy0 zq0
    skip
    have hi := (List.getElem?_eq_some_iff.mp zhy0).1
    simp only [List.length_range] at hi
    refine ⟨⟨[some (.fr (D.int cell)), some (.fr (D.int many)), some (.ad 100), some (.fr (D.int zs0.2)), some (.fr (D.int ((0 : Int) + (zy0 : Int)))), none], [(100, .fl ((zs0.1).map D.int))]⟩, (eg_name 4 nd rfl (.inl rfl)), ?_⟩
    refine exs_one (ex_ifP bd_d (et_cmp o_ge (ev_callB (ds := [D.int cell]) c_abs (ea_cons (ev_var 0 rfl (.inl rfl) rfl) ea_nil) (by exact rfl) T.n_abs (by decide +kernel)) (ev_bin (o_pow (by unfold CPow; decide)) ev_int ev_int) (nomark _)) (fun (zh1 : (((10 : Int) ^ ((18 : Int)).toNat) ≤ (if cell < 0 then -cell else cell))) => ?_) (fun (zh1 : ¬ (((10 : Int) ^ ((18 : Int)).toNat) ≤ (if cell < 0 then -cell else cell))) => ?_))
    · skip
      refine exs_cons (ex_expr (ev_appendT (n := 100) (enc := D.int) (xs := zs0.1) (xs0 := zs0.1) (zs0.2 % (1009 : Int)) rfl rfl rfl (by walk_at "sd") (ev_var 2 rfl (.inl rfl) rfl) (ev_bin (o_mod (by walk_at "sd")) (ev_var 3 rfl (.inl rfl) rfl) ev_int)) ?_)
      show Exs _ _ _ ⟨[some (.fr (D.int cell)), some (.fr (D.int many)), some (.ad 100), some (.fr (D.int zs0.2)), some (.fr (D.int ((0 : Int) + (zy0 : Int)))), none], [(100, .fl (((zs0.1 ++ [(zs0.2 % (1009 : Int))])).map D.int))]⟩ _
      refine exs_one (ex_set 3 (ev_bin (o_div (by walk_at "sd") (by walk_at "sd")) (ev_var 3 rfl (.inl rfl) rfl) ev_int) ?_ nd rfl (.inl rfl))
      have est : (m_law_row_l0 cell) zs0 zy0 = ((zs0.1 ++ [(zs0.2 % (1009 : Int))]), (zs0.2 / (1009 : Int))) := by simp only [m_law_row_l0, not_true_eq_false, not_false_eq_true, ↓reduceIte, ↓if_pos zh1]
      show Le _ _ ∧ _
      try rw [est]
      exact ⟨⟨⟨.inr rfl, .inr rfl, .inr rfl, .inr rfl, .inl rfl, .inl rfl, trivial⟩, rfl⟩, (by simp; omega)⟩
    · skip
      refine exs_cons (ex_set 5 (ev_bin (o_mod (by walk_at "sd")) (ev_bin o_add (ev_bin (o_mul (by walk_at "mul")) (ev_var 3 rfl (.inl rfl) rfl) ev_int) (ev_bin (o_mul (by walk_at "mul")) (ev_bin o_add (ev_var 4 rfl (.inl rfl) rfl) ev_int) ev_int)) ev_int) ?_ nd rfl (.inl rfl))
      show Exs _ _ _ ⟨[some (.fr (D.int cell)), some (.fr (D.int many)), some (.ad 100), some (.fr (D.int zs0.2)), some (.fr (D.int ((0 : Int) + (zy0 : Int)))), some (.fr (D.int (((zs0.2 * (48271 : Int)) + ((((0 : Int) + (zy0 : Int)) + (1 : Int)) * (69621 : Int))) % (2147483647 : Int))))], [(100, .fl ((zs0.1).map D.int))]⟩ _
      generalize zg_mixed : (((zs0.2 * (48271 : Int)) + ((((0 : Int) + (zy0 : Int)) + (1 : Int)) * (69621 : Int))) % (2147483647 : Int)) = mixed
      show Exs _ _ _ ⟨[some (.fr (D.int cell)), some (.fr (D.int many)), some (.ad 100), some (.fr (D.int zs0.2)), some (.fr (D.int ((0 : Int) + (zy0 : Int)))), some (.fr (D.int mixed))], [(100, .fl ((zs0.1).map D.int))]⟩ _
      refine exs_cons (ex_set 5 (ev_bin (o_mod (by walk_at "sd")) (ev_bin o_add (ev_bin (o_mul (by walk_at "mul")) (ev_var 5 rfl (.inl rfl) rfl) ev_int) (ev_bin (o_mul (by walk_at "mul")) ev_int (ev_bin o_add (ev_var 4 rfl (.inl rfl) rfl) ev_int))) ev_int) ?_ nd rfl (.inl rfl))
      show Exs _ _ _ ⟨[some (.fr (D.int cell)), some (.fr (D.int many)), some (.ad 100), some (.fr (D.int zs0.2)), some (.fr (D.int ((0 : Int) + (zy0 : Int)))), some (.fr (D.int (((mixed * (16807 : Int)) + ((271 : Int) * (((0 : Int) + (zy0 : Int)) + (3 : Int)))) % (2147483629 : Int))))], [(100, .fl ((zs0.1).map D.int))]⟩ _
      generalize zg_mixed1 : (((mixed * (16807 : Int)) + ((271 : Int) * (((0 : Int) + (zy0 : Int)) + (3 : Int)))) % (2147483629 : Int)) = mixed1
      show Exs _ _ _ ⟨[some (.fr (D.int cell)), some (.fr (D.int many)), some (.ad 100), some (.fr (D.int zs0.2)), some (.fr (D.int ((0 : Int) + (zy0 : Int)))), some (.fr (D.int mixed1))], [(100, .fl ((zs0.1).map D.int))]⟩ _
      refine exs_one (ex_expr (ev_appendT (n := 100) (enc := D.int) (xs := zs0.1) (xs0 := zs0.1) (mixed1 % (1009 : Int)) rfl rfl rfl (by walk_at "sd") (ev_var 2 rfl (.inl rfl) rfl) (ev_bin (o_mod (by walk_at "sd")) (ev_var 5 rfl (.inl rfl) rfl) ev_int)) ?_)
      have est : (m_law_row_l0 cell) zs0 zy0 = ((zs0.1 ++ [(mixed1 % (1009 : Int))]), zs0.2) := by subst zg_mixed1; subst zg_mixed; simp only [m_law_row_l0, not_true_eq_false, not_false_eq_true, ↓reduceIte, ↓if_neg zh1]
      show Le _ _ ∧ _
      try rw [est]
      exact ⟨⟨⟨.inr rfl, .inr rfl, .inr rfl, .inr rfl, .inl rfl, .inl rfl, trivial⟩, rfl⟩, (by simp; omega)⟩
  · intro zq0
    show Exs _ _ _ ⟨[some (.fr (D.int cell)), some (.fr (D.int many)), some (.ad 100), some (.fr (D.int (((List.range (many).toNat).foldl (m_law_row_l0 cell) (([] : List Int), rest)).2))), none, none], [(100, .fl ((((List.range (many).toNat).foldl (m_law_row_l0 cell) (([] : List Int), rest)).1).map D.int))]⟩ _
    refine exs_freezeT 100 (xs := ((List.range (many).toNat).foldl (m_law_row_l0 cell) (([] : List Int), rest)).1) (enc := D.int) (by exact rfl) ?_
    show Exs _ _ _ ⟨[some (.fr (D.int cell)), some (.fr (D.int many)), some (.fr ((eL D.int) (((List.range (many).toNat).foldl (m_law_row_l0 cell) (([] : List Int), rest)).1))), some (.fr (D.int (((List.range (many).toNat).foldl (m_law_row_l0 cell) (([] : List Int), rest)).2))), none, none], []⟩ _
    refine exs_one (ex_ret (ev_var 2 rfl (.inl rfl) rfl) ?_)
    have efin : m_law_row cell many = ((List.range (many).toNat).foldl (m_law_row_l0 cell) (([] : List Int), rest)).1 := by subst zg_rest; simp only [m_law_row, not_true_eq_false, not_false_eq_true, ↓reduceIte]
    rw [efin] at zk
    exact zk _
def m_law_numbers_l1 (zs1 : (List Int)) (zy1 : Int) : (List Int) :=
  (zs1 ++ [zy1])
def m_law_numbers_l0 (each : Int) (zs0 : (List Int)) (zy0 : Int) : (List Int) :=
  ((m_law_row zy0 each).foldl (m_law_numbers_l1) zs0)
def m_law_numbers_c2 (many : Int) (zs0 : (List Int)) : Bool := (decide ((zs0.length : Int) < many))
def m_law_numbers_w2 (many : Int) (zs0 : (List Int)) : (List Int) :=
  (zs0 ++ [(0 : Int)])
def m_law_numbers (script : List Int) (many : Int) : List Int :=
  let cells1 : List Int := (slcD script none (some (63 : Int)))
  let each1 : Int := ((1 : Int) + (many / (if (cells1.length : Int) > (1 : Int) then (cells1.length : Int) else (1 : Int))))
  (slcD (iterW (m_law_numbers_c2 many) (m_law_numbers_w2 many) ((many).toNat) (cells1.foldl (m_law_numbers_l0 each1) ([] : List Int))) none (some many))
theorem cut63_len (xs : List Int) : (slcD xs none (some (63 : Int))).length ≤ 63 := by
  unfold slcD
  rw [List.length_take, HT.sIx_none, show (63 : Int) = ((63 : Nat) : Int) from rfl, HT.sIx_nat]
  omega
theorem fold_app (xs s : List Int) : xs.foldl m_law_numbers_l1 s = s ++ xs := by
  induction xs generalizing s with
  | nil => simp
  | cons x r ih => rw [List.foldl_cons, ih]; unfold m_law_numbers_l1; simp
theorem fill_eq (many : Int) : ∀ (n : Nat) (s : List Int), (many - (s.length : Int)).toNat ≤ n → iterW (m_law_numbers_c2 many) (m_law_numbers_w2 many) n s = s ++ List.replicate (many - (s.length : Int)).toNat 0
  | 0, s, h => by
    have e : (many - (s.length : Int)).toNat = 0 := by omega
    rw [e]; simp [iterW]
  | n + 1, s, h => by
    unfold iterW
    by_cases hc : (s.length : Int) < many
    · have e : (many - (s.length : Int)).toNat = (many - ((s ++ [(0 : Int)]).length : Int)).toNat + 1 := by
        simp only [List.length_append, List.length_cons, List.length_nil]; omega
      rw [if_pos (by simpa [m_law_numbers_c2] using hc)]
      show iterW _ _ n (s ++ [(0 : Int)]) = _
      rw [fill_eq many n _ (by simp only [List.length_append, List.length_cons, List.length_nil] at e ⊢; omega), e, List.replicate_succ, List.append_assoc]
      rfl
    · have e : (many - (s.length : Int)).toNat = 0 := by omega
      rw [if_neg (by simpa [m_law_numbers_c2] using hc), e]; simp
theorem numbers_facts (script : List Int) (many : Int) (h0 : 0 ≤ many) : (m_law_numbers script many).length = many.toNat ∧ ∀ x ∈ m_law_numbers script many, 0 ≤ x ∧ x ≤ 1008 := by
  have key : ∀ (each : Int) (xs s : List Int), (∀ x ∈ s, 0 ≤ x ∧ x ≤ 1008) → ∀ x ∈ xs.foldl (m_law_numbers_l0 each) s, 0 ≤ x ∧ x ≤ 1008 := by
    intro each xs
    induction xs with
    | nil => intro s h; exact h
    | cons y r ih =>
      intro s h
      rw [List.foldl_cons]
      refine ih _ fun x hx => ?_
      unfold m_law_numbers_l0 at hx
      rw [fold_app] at hx
      rcases List.mem_append.mp hx with hx | hx
      · exact h x hx
      · exact mem_row _ _ x hx
  unfold m_law_numbers
  dsimp only
  generalize hS : (slcD script none (some (63 : Int))).foldl _ _ = S
  have hm : ∀ x ∈ S, 0 ≤ x ∧ x ≤ 1008 := by rw [← hS]; exact key _ _ _ (fun x hx => absurd hx (by simp))
  rw [fill_eq many _ S (by omega)]
  unfold slcD
  rw [HT.sIx_none, List.drop_zero]
  have hl : (S ++ List.replicate (many - (S.length : Int)).toNat (0 : Int)).length = S.length + (many - (S.length : Int)).toNat := by simp
  have e1 : HT.sIx (S ++ List.replicate (many - (S.length : Int)).toNat (0 : Int)).length (S ++ List.replicate (many - (S.length : Int)).toNat (0 : Int)).length (some many) = many.toNat := by
    obtain ⟨n, rfl⟩ := Int.eq_ofNat_of_zero_le h0
    rw [HT.sIx_nat, hl]
    omega
  rw [e1]
  refine ⟨by rw [List.length_take, hl]; omega, fun x hx => ?_⟩
  have hx := List.mem_of_mem_take hx
  rcases List.mem_append.mp hx with hx | hx
  · exact hm x hx
  · rw [(List.mem_replicate.mp hx).2]; omega
theorem getD_bound {xs : List Int} (h : ∀ x ∈ xs, 0 ≤ x ∧ x ≤ 1008) (i : Nat) : 0 ≤ xs.getD i default ∧ xs.getD i default ≤ 1008 := by
  rw [List.getD_eq_getElem?_getD]
  cases e : xs[i]? with
  | none => exact ⟨Int.le_refl _, by decide⟩
  | some v => exact h v (List.mem_of_getElem? e)
theorem sc_law_numbers : FnScope ["script", "many", "cells", "each", "numbers", "cell", "number"] ["script", "many"] (defScope s_law_numbers) := ⟨rfl, rfl, rfl, by decide +kernel, rfl, by decide +kernel, by decide +kernel⟩
def sp_law_numbers : SpN := fun zcs zL zKc => ∃ script : List Int, ∃ many : Int, zcs = [.fr ((eL D.int) script), .fr (D.int many)] ∧ zL = [] ∧ (script.length ≤ 63 ∧ 0 ≤ many ∧ many ≤ 1000) ∧ ∀ zL', zKc (.fr ((eL D.int) (m_law_numbers script many))) zL'
theorem ok_law_numbers (T : TX P K mg) : FnOk P w K mg base CX0 2 T.a_law_numbers T.d_law_numbers ["script", "many"] (SpOf K mg sp_law_numbers) := by
  have O_law_row := ok_law_row (P := P) (w := w) (base := base) T
  refine T.F_law_numbers.okN sc_law_numbers (fun zcs zL zKc zh => by obtain ⟨script, many, rfl, _⟩ := zh; rfl) fun zcdv zA zout zst zH zE zB zcs zL zKc zhr zh => ?_
  obtain ⟨script, many, rfl, rfl, hpre, zk⟩ := zh
  have nd := sc_law_numbers.nd
  have hSL := sizeLine_eq
  show Exs _ _ _ ⟨[some (.fr ((eL D.int) script)), some (.fr (D.int many)), none, none, none, none, none], []⟩ _
  refine exs_cons (ex_set 2 (ev_sliceT (enc := D.int) (xs := script) (by exact rfl) (ev_var 0 rfl (.inl rfl) rfl) eo_none (eo_some ev_int)) ?_ nd rfl (.inl rfl))
  show Exs _ _ _ ⟨[some (.fr ((eL D.int) script)), some (.fr (D.int many)), some (.fr ((eL D.int) (slcD script none (some (63 : Int))))), none, none, none, none], []⟩ _
  generalize zg_cells : (slcD script none (some (63 : Int))) = cells
  show Exs _ _ _ ⟨[some (.fr ((eL D.int) script)), some (.fr (D.int many)), some (.fr ((eL D.int) cells)), none, none, none, none], []⟩ _
  have hcl : cells.length ≤ 63 := by rw [← zg_cells]; exact cut63_len script
  refine exs_cons (ex_set 3 (ev_bin o_add ev_int (ev_bin (o_div (by walk_at "sd") (by walk_at "sd")) (ev_var 1 rfl (.inl rfl) rfl) (ev_callB (ds := [D.int (1 : Int), D.int (cells.length : Int)]) (c_max2 rfl) (ea_cons ev_int (ea_cons (ev_len (ln_L (xs := cells) (enc := D.int) (by exact rfl)) (ev_var 2 rfl (.inl rfl) rfl) (by exact rfl) T.n_len) ea_nil)) (by exact rfl) T.n_max (by decide +kernel)))) ?_ nd rfl (.inl rfl))
  show Exs _ _ _ ⟨[some (.fr ((eL D.int) script)), some (.fr (D.int many)), some (.fr ((eL D.int) cells)), some (.fr (D.int ((1 : Int) + (many / (if (cells.length : Int) > (1 : Int) then (cells.length : Int) else (1 : Int)))))), none, none, none], []⟩ _
  generalize zg_each : ((1 : Int) + (many / (if (cells.length : Int) > (1 : Int) then (cells.length : Int) else (1 : Int)))) = each
  show Exs _ _ _ ⟨[some (.fr ((eL D.int) script)), some (.fr (D.int many)), some (.fr ((eL D.int) cells)), some (.fr (D.int each)), none, none, none], []⟩ _
  have heach : 1 ≤ each ∧ each ≤ 1001 := by rw [← zg_each]; split <;> (constructor <;> first | omega | (have := Int.ediv_le_self (cells.length : Int) hpre.2.1; have := Int.ediv_nonneg hpre.2.1 (show (0:Int) ≤ (cells.length : Int) by omega); omega))
  refine exs_cons (ex_set 4 (ev_lstN 100 (enc := D.int) ([] : List Int) ea_nil rfl (by simp only [List.length_cons, List.length_nil]; decide) (by simp [names]) (by decide)) ?_ nd rfl (.inl rfl))
  show Exs _ _ _ ⟨[some (.fr ((eL D.int) script)), some (.fr (D.int many)), some (.fr ((eL D.int) cells)), some (.fr (D.int each)), some (.ad 100), none, none], [(100, .fl ((([] : List Int)).map D.int))]⟩ _
  refine exs_cons (ex_forF (enc := D.int) (fun (zs0 : (List Int)) => (⟨[some (.fr ((eL D.int) script)), some (.fr (D.int many)), some (.fr ((eL D.int) cells)), some (.fr (D.int each)), some (.ad 100), none, none], [(100, .fl ((zs0).map D.int))]⟩ : Nz.S)) (m_law_numbers_l0 each) ([] : List Int) (fun (zi0 : Nat) (zs0 : (List Int)) => zs0.length ≤ 1001 * zi0) (src_listT (ev_var 2 rfl (.inl rfl) rfl)) ⟨⟨.inr rfl, .inr rfl, .inr rfl, .inr rfl, .inr rfl, .inl rfl, .inl rfl, trivial⟩, rfl⟩ (by simp) ?_ ?_ PassesOwn.never rfl)
  · intro zi0 zy0 zs0 zhy0 zq0
    skip
    have hi := (List.getElem?_eq_some_iff.mp zhy0).1
    have hrl := len_row zy0 each
    refine ⟨⟨[some (.fr ((eL D.int) script)), some (.fr (D.int many)), some (.fr ((eL D.int) cells)), some (.fr (D.int each)), some (.ad 100), some (.fr (D.int zy0)), none], [(100, .fl ((zs0).map D.int))]⟩, (eg_name 5 nd rfl (.inl rfl)), ?_⟩
    refine exs_one (ex_forF (enc := D.int) (fun (zs1 : (List Int)) => (⟨[some (.fr ((eL D.int) script)), some (.fr (D.int many)), some (.fr ((eL D.int) cells)), some (.fr (D.int each)), some (.ad 100), some (.fr (D.int zy0)), none], [(100, .fl ((zs1).map D.int))]⟩ : Nz.S)) (m_law_numbers_l1) zs0 (fun (zi1 : Nat) (zs1 : (List Int)) => zs1.length ≤ 1001 * zi0 + zi1) (src_listT (ev_call (ds := [D.int zy0, D.int each]) (ds' := []) (dvs := []) (dfs := []) O_law_row (zhr.mono (by decide)) T.m_law_row T.k_law_row T.b_law_row .nil (fun _ => .nil) (ea_cons (ev_var 5 rfl (.inl rfl) rfl) (ea_cons (ev_var 3 rfl (.inl rfl) rfl) ea_nil)) (fun _ zkk => ⟨zy0, each, rfl, rfl, (by walk_at "pre"), zkk⟩) (by exact rfl))) ⟨⟨.inr rfl, .inr rfl, .inr rfl, .inr rfl, .inr rfl, .inr rfl, .inl rfl, trivial⟩, rfl⟩ (by omega) ?_ ?_ PassesOwn.never rfl)
    · intro zi1 zy1 zs1 zhy1 zq1
      skip
      have hi1 := (List.getElem?_eq_some_iff.mp zhy1).1
      refine ⟨⟨[some (.fr ((eL D.int) script)), some (.fr (D.int many)), some (.fr ((eL D.int) cells)), some (.fr (D.int each)), some (.ad 100), some (.fr (D.int zy0)), some (.fr (D.int zy1))], [(100, .fl ((zs1).map D.int))]⟩, (eg_name 6 nd rfl (.inl rfl)), ?_⟩
      refine exs_one (ex_expr (ev_appendT (n := 100) (enc := D.int) (xs := zs1) (xs0 := zs1) zy1 rfl rfl rfl (by walk_at "sd") (ev_var 4 rfl (.inl rfl) rfl) (ev_var 6 rfl (.inl rfl) rfl)) ?_)
      have est : (m_law_numbers_l1) zs1 zy1 = (zs1 ++ [zy1]) := by simp only [m_law_numbers_l1, not_true_eq_false, not_false_eq_true, ↓reduceIte]
      show Le _ _ ∧ _
      try rw [est]
      exact ⟨⟨⟨.inr rfl, .inr rfl, .inr rfl, .inr rfl, .inr rfl, .inr rfl, .inl rfl, trivial⟩, rfl⟩, (by simp; omega)⟩
    · intro zq1
      have est : (m_law_numbers_l0 each) zs0 zy0 = ((m_law_row zy0 each).foldl (m_law_numbers_l1) zs0) := by simp only [m_law_numbers_l0, not_true_eq_false, not_false_eq_true, ↓reduceIte]
      show Le _ _ ∧ _
      try rw [est]
      exact ⟨⟨⟨.inr rfl, .inr rfl, .inr rfl, .inr rfl, .inr rfl, .inl rfl, .inl rfl, trivial⟩, rfl⟩, (by omega)⟩
  · intro zq0
    show Exs _ _ _ ⟨[some (.fr ((eL D.int) script)), some (.fr (D.int many)), some (.fr ((eL D.int) cells)), some (.fr (D.int each)), some (.ad 100), none, none], [(100, .fl (((cells.foldl (m_law_numbers_l0 each) ([] : List Int))).map D.int))]⟩ _
    refine exs_cons (ex_whileF (fun (zs0 : (List Int)) => (⟨[some (.fr ((eL D.int) script)), some (.fr (D.int many)), some (.fr ((eL D.int) cells)), some (.fr (D.int each)), some (.ad 100), none, none], [(100, .fl ((zs0).map D.int))]⟩ : Nz.S)) (m_law_numbers_c2 many) (m_law_numbers_w2 many) (cells.foldl (m_law_numbers_l0 each) ([] : List Int)) ((many).toNat) (fun (zs0 : (List Int)) => zs0.length ≤ 100000) (fun (zs0 : (List Int)) => (many - (zs0.length : Int)).toNat) ⟨⟨.inr rfl, .inr rfl, .inr rfl, .inr rfl, .inr rfl, .inl rfl, .inl rfl, trivial⟩, rfl⟩ (by omega) (by walk_at "sd") ?_ ?_ ?_ ?_ PassesOwn.never)
    · intro zs0 zq0 zhc0
      simp only [m_law_numbers_c2, decide_eq_true_eq] at zhc0
      simp only [m_law_numbers_w2, List.length_append, List.length_cons, List.length_nil]
      exact ⟨by omega, by omega⟩
    · intro zs0 zq0
      exact (et_cmp o_lt (ev_len (ln_L (xs := zs0) (enc := D.int) (by exact rfl)) (ev_var 4 rfl (.inl rfl) rfl) (by exact rfl) T.n_len) (ev_var 1 rfl (.inl rfl) rfl) (nomark _))
    · intro zs0 zq0 zhc0
      simp only [m_law_numbers_c2, decide_eq_true_eq] at zhc0
      show Exs _ _ _ ⟨[some (.fr ((eL D.int) script)), some (.fr (D.int many)), some (.fr ((eL D.int) cells)), some (.fr (D.int each)), some (.ad 100), none, none], [(100, .fl ((zs0).map D.int))]⟩ _
      refine exs_one (ex_expr (ev_appendT (n := 100) (enc := D.int) (xs := zs0) (xs0 := zs0) (0 : Int) rfl rfl rfl (by walk_at "sd") (ev_var 4 rfl (.inl rfl) rfl) ev_int) ?_)
      have est : (m_law_numbers_w2 many) zs0 = (zs0 ++ [(0 : Int)]) := by simp only [m_law_numbers_w2, ↓reduceIte]
      show Le _ _ ∧ _
      rw [est]
      exact ⟨⟨⟨.inr rfl, .inr rfl, .inr rfl, .inr rfl, .inr rfl, .inl rfl, .inl rfl, trivial⟩, rfl⟩, trivial⟩
    · intro zq0 zhc0
      show Exs _ _ _ ⟨[some (.fr ((eL D.int) script)), some (.fr (D.int many)), some (.fr ((eL D.int) cells)), some (.fr (D.int each)), some (.ad 100), none, none], [(100, .fl (((iterW (m_law_numbers_c2 many) (m_law_numbers_w2 many) ((many).toNat) (cells.foldl (m_law_numbers_l0 each) ([] : List Int)))).map D.int))]⟩ _
      refine exs_one (ex_ret (ev_sliceT (enc := D.int) (xs := (iterW (m_law_numbers_c2 many) (m_law_numbers_w2 many) ((many).toNat) (cells.foldl (m_law_numbers_l0 each) ([] : List Int)))) (by exact rfl) (ev_var 4 rfl (.inl rfl) rfl) eo_none (eo_some (ev_var 1 rfl (.inl rfl) rfl))) ?_)
      have efin : m_law_numbers script many = (slcD (iterW (m_law_numbers_c2 many) (m_law_numbers_w2 many) ((many).toNat) (cells.foldl (m_law_numbers_l0 each) ([] : List Int))) none (some many)) := by subst zg_each; subst zg_cells; simp only [m_law_numbers, not_true_eq_false, not_false_eq_true, ↓reduceIte]
      rw [efin] at zk
      exact zk _
def m_repeated (table : List Int) (times : Int) : List Int :=
  (List.flatten (List.replicate (times).toNat table))
theorem frep_len {τ : Type} (xs : List τ) : ∀ n : Nat, (List.flatten (List.replicate n xs)).length = n * xs.length
  | 0 => by simp
  | n + 1 => by rw [List.replicate_succ, List.flatten_cons, List.length_append, frep_len xs n, Nat.succ_mul, Nat.add_comm]
theorem rep_len (t : List Int) (n : Int) : (m_repeated t n).length = n.toNat * t.length := by unfold m_repeated; rw [frep_len]
set_option hygiene false in
local macro_rules | `(tactic| walk_at "rep") => `(tactic| first | (have q9 : table.length * times.toNat ≤ 600 * 600 := Nat.mul_le_mul (by omega) (by omega); omega) | fail)
theorem sc_repeated : FnScope ["table", "times"] ["table", "times"] (defScope s_repeated) := ⟨rfl, rfl, rfl, by decide +kernel, rfl, by decide +kernel, by decide +kernel⟩
def sp_repeated : SpN := fun zcs zL zKc => ∃ table : List Int, ∃ times : Int, zcs = [.fr ((eL D.int) table), .fr (D.int times)] ∧ zL = [] ∧ (table.length ≤ 600 ∧ 0 ≤ times ∧ times ≤ 600) ∧ ∀ zL', zKc (.fr ((eL D.int) (m_repeated table times))) zL'
theorem ok_repeated (T : TX P K mg) : FnOk P w K mg base CX0 1 T.a_repeated T.d_repeated ["table", "times"] (SpOf K mg sp_repeated) := by
  refine T.F_repeated.okN sc_repeated (fun zcs zL zKc zh => by obtain ⟨table, times, rfl, _⟩ := zh; rfl) fun zcdv zA zout zst zH zE zB zcs zL zKc zhr zh => ?_
  obtain ⟨table, times, rfl, rfl, hpre, zk⟩ := zh
  have nd := sc_repeated.nd
  have hSL := sizeLine_eq
  show Exs _ _ _ ⟨[some (.fr ((eL D.int) table)), some (.fr (D.int times))], []⟩ _
  refine exs_one (ex_ret (ev_bin (o_repL (enc := D.int) (xs := table) (by walk_at "sd") (by walk_at "sd") (by walk_at "rep")) (ev_callTy (ds := [(eL D.int) table]) c_listL (ea_cons (ev_var 0 rfl (.inl rfl) rfl) ea_nil) (by exact rfl) T.n_list (by decide +kernel)) (ev_var 1 rfl (.inl rfl) rfl)) ?_)
  have efin : m_repeated table times = (List.flatten (List.replicate (times).toNat table)) := by simp only [m_repeated, not_true_eq_false, not_false_eq_true, ↓reduceIte]
  rw [efin] at zk
  exact zk _
def m_rotated (table : List Int) (by_ : Int) : List Int :=
  let first1 : Int := (by_ % (table.length : Int))
  ((slcD table (some first1) none) ++ (slcD table none (some first1)))
set_option hygiene false in
local macro_rules | `(tactic| walk_at "sd") => `(tactic| first | omega | exact Nat.le_trans (Nat.add_le_add slc_len slc_len) (by omega) | exact Nat.le_trans slc_len (by omega) | fail)
theorem sc_rotated : FnScope ["table", "by", "first"] ["table", "by"] (defScope s_rotated) := ⟨rfl, rfl, rfl, by decide +kernel, rfl, by decide +kernel, by decide +kernel⟩
def sp_rotated : SpN := fun zcs zL zKc => ∃ table : List Int, ∃ by_ : Int, zcs = [.fr ((eL D.int) table), .fr (D.int by_)] ∧ zL = [] ∧ (0 < table.length ∧ table.length ≤ 600) ∧ ∀ zL', zKc (.fr ((eL D.int) (m_rotated table by_))) zL'
theorem ok_rotated (T : TX P K mg) : FnOk P w K mg base CX0 1 T.a_rotated T.d_rotated ["table", "by"] (SpOf K mg sp_rotated) := by
  refine T.F_rotated.okN sc_rotated (fun zcs zL zKc zh => by obtain ⟨table, by_, rfl, _⟩ := zh; rfl) fun zcdv zA zout zst zH zE zB zcs zL zKc zhr zh => ?_
  obtain ⟨table, by_, rfl, rfl, hpre, zk⟩ := zh
  have nd := sc_rotated.nd
  have hSL := sizeLine_eq
  show Exs _ _ _ ⟨[some (.fr ((eL D.int) table)), some (.fr (D.int by_)), none], []⟩ _
  refine exs_cons (ex_set 2 (ev_bin (o_mod (by walk_at "sd")) (ev_var 1 rfl (.inl rfl) rfl) (ev_len (ln_L (xs := table) (enc := D.int) (by exact rfl)) (ev_var 0 rfl (.inl rfl) rfl) (by exact rfl) T.n_len)) ?_ nd rfl (.inl rfl))
  show Exs _ _ _ ⟨[some (.fr ((eL D.int) table)), some (.fr (D.int by_)), some (.fr (D.int (by_ % (table.length : Int))))], []⟩ _
  generalize zg_first : (by_ % (table.length : Int)) = first
  show Exs _ _ _ ⟨[some (.fr ((eL D.int) table)), some (.fr (D.int by_)), some (.fr (D.int first))], []⟩ _
  refine exs_one (ex_ret (ev_bin (o_catT (enc := D.int) (xs := (slcD table (some first) none)) (ys := (slcD table none (some first))) (by walk_at "sd")) (ev_callTy (ds := [(eL D.int) (slcD table (some first) none)]) c_listL (ea_cons (ev_sliceT (enc := D.int) (xs := table) (by exact rfl) (ev_var 0 rfl (.inl rfl) rfl) (eo_some (ev_var 2 rfl (.inl rfl) rfl)) eo_none) ea_nil) (by exact rfl) T.n_list (by decide +kernel)) (ev_callTy (ds := [(eL D.int) (slcD table none (some first))]) c_listL (ea_cons (ev_sliceT (enc := D.int) (xs := table) (by exact rfl) (ev_var 0 rfl (.inl rfl) rfl) eo_none (eo_some (ev_var 2 rfl (.inl rfl) rfl))) ea_nil) (by exact rfl) T.n_list (by decide +kernel))) ?_)
  have efin : m_rotated table by_ = ((slcD table (some first) none) ++ (slcD table none (some first))) := by subst zg_first; simp only [m_rotated, not_true_eq_false, not_false_eq_true, ↓reduceIte]
  rw [efin] at zk
  exact zk _
def m_common_length (one : List Int) (other : List Int) : Int :=
  ((Nat.lcm ((one.length : Int)).natAbs ((other.length : Int)).natAbs : Nat) : Int)
theorem lcm_le {a b : Nat} (h : 0 < a) (h2 : 0 < b) : 0 < Nat.lcm a b ∧ Nat.lcm a b ≤ a * b := ⟨Nat.lcm_pos h h2, Nat.le_of_dvd (Nat.mul_pos h h2) (Nat.lcm_dvd (Nat.dvd_mul_right a b) (Nat.dvd_mul_left b a))⟩
theorem cl_eq (one other : List Int) : m_common_length one other = ((Nat.lcm one.length other.length : Nat) : Int) := by
  unfold m_common_length
  rw [Int.natAbs_natCast, Int.natAbs_natCast]
theorem cl_facts {one other : List Int} (h1 : 0 < one.length) (h2 : one.length ≤ 24) (h3 : 0 < other.length) (h4 : other.length ≤ 24) : 0 < m_common_length one other ∧ m_common_length one other ≤ 576 := by
  have h := lcm_le h1 h3
  have h5 : one.length * other.length ≤ 24 * 24 := Nat.mul_le_mul h2 h4
  rw [cl_eq]
  omega
theorem div_facts {s : Int} {n : Nat} (h0 : 0 < s) (h1 : s ≤ 576) : 0 ≤ s / (n : Int) ∧ s / (n : Int) ≤ 576 :=
  ⟨Int.ediv_nonneg (by omega) (by omega), Int.le_trans (Int.ediv_le_self _ (by omega)) h1⟩
theorem div_facts6 {m : Nat} {n : Int} (h0 : 0 ≤ n) (h1 : m ≤ 600) : 0 ≤ (m : Int) / n ∧ (m : Int) / n ≤ 600 :=
  ⟨Int.ediv_nonneg (by omega) (by omega), Int.le_trans (Int.ediv_le_self _ (by omega)) (by omega)⟩
theorem sc_common_length : FnScope ["one", "other"] ["one", "other"] (defScope s_common_length) := ⟨rfl, rfl, rfl, by decide +kernel, rfl, by decide +kernel, by decide +kernel⟩
def sp_common_length : SpN := fun zcs zL zKc => ∃ one : List Int, ∃ other : List Int, zcs = [.fr ((eL D.int) one), .fr ((eL D.int) other)] ∧ zL = [] ∧ (0 < one.length ∧ one.length ≤ 600 ∧ 0 < other.length ∧ other.length ≤ 600) ∧ ∀ zL', zKc (.fr (D.int (m_common_length one other))) zL'
theorem ok_common_length (T : TX P K mg) : FnOk P w K mg base CX0 1 T.a_common_length T.d_common_length ["one", "other"] (SpOf K mg sp_common_length) := by
  refine T.F_common_length.okN sc_common_length (fun zcs zL zKc zh => by obtain ⟨one, other, rfl, _⟩ := zh; rfl) fun zcdv zA zout zst zH zE zB zcs zL zKc zhr zh => ?_
  obtain ⟨one, other, rfl, rfl, hpre, zk⟩ := zh
  have nd := sc_common_length.nd
  have hSL := sizeLine_eq
  show Exs _ _ _ ⟨[some (.fr ((eL D.int) one)), some (.fr ((eL D.int) other))], []⟩ _
  refine exs_one (ex_ret (ev_callG (ds := [D.int (one.length : Int), D.int (other.length : Int)]) (c_lcm (by walk_at "lcm") (by walk_at "lcm")) (ea_cons (ev_len (ln_L (xs := one) (enc := D.int) (by exact rfl)) (ev_var 0 rfl (.inl rfl) rfl) (by exact rfl) T.n_len) (ea_cons (ev_len (ln_L (xs := other) (enc := D.int) (by exact rfl)) (ev_var 1 rfl (.inl rfl) rfl) (by exact rfl) T.n_len) ea_nil)) (by exact rfl) T.x_lcm) ?_)
  have efin : m_common_length one other = ((Nat.lcm ((one.length : Int)).natAbs ((other.length : Int)).natAbs : Nat) : Int) := by simp only [m_common_length, not_true_eq_false, not_false_eq_true, ↓reduceIte]
  rw [efin] at zk
  exact zk _
def m_common (one : List Int) (other : List Int) : (List Int) × (List Int) :=
  let slots1 : Int := (m_common_length one other)
  ((m_repeated one (slots1 / (one.length : Int))), (m_repeated other (slots1 / (other.length : Int))))
theorem com_len {one other : List Int} (h1 : 0 < one.length) (h2 : one.length ≤ 24) (h3 : 0 < other.length) (h4 : other.length ≤ 24) : (m_common one other).1.length ≤ 20000 := by
  have h := cl_facts h1 h2 h3 h4
  have d := div_facts (n := one.length) h.1 h.2
  show (m_repeated one (m_common_length one other / (one.length : Int))).length ≤ 20000
  rw [rep_len]
  exact Nat.le_trans (Nat.mul_le_mul (show _ ≤ 576 by omega) h2) (by decide)
theorem com_len2 {one other : List Int} (h1 : 0 < one.length) (h2 : one.length ≤ 24) (h3 : 0 < other.length) (h4 : other.length ≤ 24) : (m_common one other).2.length ≤ 20000 := by
  have h := cl_facts h1 h2 h3 h4
  have d := div_facts (n := other.length) h.1 h.2
  show (m_repeated other (m_common_length one other / (other.length : Int))).length ≤ 20000
  rw [rep_len]
  exact Nat.le_trans (Nat.mul_le_mul (show _ ≤ 576 by omega) h4) (by decide)
set_option hygiene false in
local macro_rules | `(tactic| walk_at "pre") => `(tactic| first | exact ⟨by omega, hd1.1, by omega⟩ | exact ⟨by omega, hd2.1, by omega⟩ | fail)
theorem sc_common : FnScope ["one", "other", "slots"] ["one", "other"] (defScope s_common) := ⟨rfl, rfl, rfl, by decide +kernel, rfl, by decide +kernel, by decide +kernel⟩
def sp_common : SpN := fun zcs zL zKc => ∃ one : List Int, ∃ other : List Int, zcs = [.fr ((eL D.int) one), .fr ((eL D.int) other)] ∧ zL = [] ∧ (0 < one.length ∧ one.length ≤ 24 ∧ 0 < other.length ∧ other.length ≤ 24) ∧ ∀ zL', zKc (.fr ((eT2 (eL D.int) (eL D.int)) (m_common one other))) zL'
theorem ok_common (T : TX P K mg) : FnOk P w K mg base CX0 2 T.a_common T.d_common ["one", "other"] (SpOf K mg sp_common) := by
  have O_common_length := ok_common_length (P := P) (w := w) (base := base) T
  have O_repeated := ok_repeated (P := P) (w := w) (base := base) T
  refine T.F_common.okN sc_common (fun zcs zL zKc zh => by obtain ⟨one, other, rfl, _⟩ := zh; rfl) fun zcdv zA zout zst zH zE zB zcs zL zKc zhr zh => ?_
  obtain ⟨one, other, rfl, rfl, hpre, zk⟩ := zh
  have nd := sc_common.nd
  have hSL := sizeLine_eq
  show Exs _ _ _ ⟨[some (.fr ((eL D.int) one)), some (.fr ((eL D.int) other)), none], []⟩ _
  refine exs_cons (ex_set 2 (ev_call (ds := [(eL D.int) one, (eL D.int) other]) (ds' := []) (dvs := []) (dfs := []) O_common_length (zhr.mono (by decide)) T.m_common_length T.k_common_length T.b_common_length .nil (fun _ => .nil) (ea_cons (ev_var 0 rfl (.inl rfl) rfl) (ea_cons (ev_var 1 rfl (.inl rfl) rfl) ea_nil)) (fun _ zkk => ⟨one, other, rfl, rfl, (by walk_at "pre"), zkk⟩) (by exact rfl)) ?_ nd rfl (.inl rfl))
  show Exs _ _ _ ⟨[some (.fr ((eL D.int) one)), some (.fr ((eL D.int) other)), some (.fr (D.int (m_common_length one other)))], []⟩ _
  generalize zg_slots : (m_common_length one other) = slots
  show Exs _ _ _ ⟨[some (.fr ((eL D.int) one)), some (.fr ((eL D.int) other)), some (.fr (D.int slots))], []⟩ _
  have hcl : 0 < m_common_length one other ∧ m_common_length one other ≤ 576 := cl_facts hpre.1 hpre.2.1 hpre.2.2.1 hpre.2.2.2
  rw [zg_slots] at hcl
  have hd1 := div_facts (n := one.length) hcl.1 hcl.2
  have hd2 := div_facts (n := other.length) hcl.1 hcl.2
  refine exs_one (ex_ret (ev_tup (ds := [(eL D.int) (m_repeated one (slots / (one.length : Int))), (eL D.int) (m_repeated other (slots / (other.length : Int)))]) (ea_cons (ev_call (ds := [(eL D.int) one, D.int (slots / (one.length : Int))]) (ds' := []) (dvs := []) (dfs := []) O_repeated (zhr.mono (by decide)) T.m_repeated T.k_repeated T.b_repeated .nil (fun _ => .nil) (ea_cons (ev_var 0 rfl (.inl rfl) rfl) (ea_cons (ev_bin (o_div (by walk_at "sd") (by walk_at "sd")) (ev_var 2 rfl (.inl rfl) rfl) (ev_len (ln_L (xs := one) (enc := D.int) (by exact rfl)) (ev_var 0 rfl (.inl rfl) rfl) (by exact rfl) T.n_len)) ea_nil)) (fun _ zkk => ⟨one, (slots / (one.length : Int)), rfl, rfl, (by walk_at "pre"), zkk⟩) (by exact rfl)) (ea_cons (ev_call (ds := [(eL D.int) other, D.int (slots / (other.length : Int))]) (ds' := []) (dvs := []) (dfs := []) O_repeated (zhr.mono (by decide)) T.m_repeated T.k_repeated T.b_repeated .nil (fun _ => .nil) (ea_cons (ev_var 1 rfl (.inl rfl) rfl) (ea_cons (ev_bin (o_div (by walk_at "sd") (by walk_at "sd")) (ev_var 2 rfl (.inl rfl) rfl) (ev_len (ln_L (xs := other) (enc := D.int) (by exact rfl)) (ev_var 1 rfl (.inl rfl) rfl) (by exact rfl) T.n_len)) ea_nil)) (fun _ zkk => ⟨other, (slots / (other.length : Int)), rfl, rfl, (by walk_at "pre"), zkk⟩) (by exact rfl)) ea_nil)) (by simp only [List.length_cons, List.length_nil]; decide)) ?_)
  have efin : m_common one other = ((m_repeated one (slots / (one.length : Int))), (m_repeated other (slots / (other.length : Int)))) := by subst zg_slots; simp only [m_common, not_true_eq_false, not_false_eq_true, ↓reduceIte]
  rw [efin] at zk
  exact zk _
def m_reduced (one : List Int) (other : List Int) : List Int :=
  ((((m_common one other).1).zip ((m_common one other).2)).map (fun zc2 : Int × Int => (if (zc2.1 - zc2.2) > (0 : Int) then (zc2.1 - zc2.2) else (0 : Int))))
set_option hygiene false in
local macro_rules | `(tactic| walk_at "sd") => `(tactic| first | omega | (rw [List.length_zip]; exact Nat.le_trans (Nat.min_le_left _ _) (Nat.le_trans (com_len hpre.1 hpre.2.1 hpre.2.2.1 hpre.2.2.2) (by omega))) | fail)
theorem sc_reduced : FnScope ["one", "other", "first", "second", "units", "less"] ["one", "other"] (defScope s_reduced) := ⟨rfl, rfl, rfl, by decide +kernel, rfl, by decide +kernel, by decide +kernel⟩
def sp_reduced : SpN := fun zcs zL zKc => ∃ one : List Int, ∃ other : List Int, zcs = [.fr ((eL D.int) one), .fr ((eL D.int) other)] ∧ zL = [] ∧ (0 < one.length ∧ one.length ≤ 24 ∧ 0 < other.length ∧ other.length ≤ 24) ∧ ∀ zL', zKc (.fr ((eL D.int) (m_reduced one other))) zL'
theorem ok_reduced (T : TX P K mg) : FnOk P w K mg base CX0 3 T.a_reduced T.d_reduced ["one", "other"] (SpOf K mg sp_reduced) := by
  have O_common := ok_common (P := P) (w := w) (base := base) T
  refine T.F_reduced.okN sc_reduced (fun zcs zL zKc zh => by obtain ⟨one, other, rfl, _⟩ := zh; rfl) fun zcdv zA zout zst zH zE zB zcs zL zKc zhr zh => ?_
  obtain ⟨one, other, rfl, rfl, hpre, zk⟩ := zh
  have nd := sc_reduced.nd
  have hSL := sizeLine_eq
  show Exs _ _ _ ⟨[some (.fr ((eL D.int) one)), some (.fr ((eL D.int) other)), none, none, none, none], []⟩ _
  refine exs_cons (ex_asg (ev_call (ds := [(eL D.int) one, (eL D.int) other]) (ds' := []) (dvs := []) (dfs := []) O_common (zhr.mono (by decide)) T.m_common T.k_common T.b_common .nil (fun _ => .nil) (ea_cons (ev_var 0 rfl (.inl rfl) rfl) (ea_cons (ev_var 1 rfl (.inl rfl) rfl) ea_nil)) (fun _ zkk => ⟨one, other, rfl, rfl, (by walk_at "pre"), zkk⟩) (by exact rfl)) (eg_tup rfl (egs_cons (eg_name 2 nd rfl (.inl rfl)) (egs_cons (eg_name 3 nd rfl (.inl rfl)) egs_nil))) ?_)
  show Exs _ _ _ ⟨[some (.fr ((eL D.int) one)), some (.fr ((eL D.int) other)), some (.fr ((eL D.int) ((m_common one other).1))), some (.fr ((eL D.int) ((m_common one other).2))), none, none], []⟩ _
  refine exs_one (ex_ret (ev_lcM (enc2 := D.int) 199 (fun zc1 : Int × Int => (if (zc1.1 - zc1.2) > (0 : Int) then (zc1.1 - zc1.2) else (0 : Int))) _ rfl nd (blkOk_by (N := ["one", "other", "first", "second", "units", "less"]) (sc := defScope s_reduced) (own := [(("units" : Str), 4), (("less" : Str), 5)]) (by decide +kernel)) (src_zip (enc := D.int) (encB := D.int) (xs := (m_common one other).1) (ys := (m_common one other).2) (ea_cons (ev_var 2 rfl (.inl rfl) rfl) (ea_cons (ev_var 3 rfl (.inl rfl) rfl) ea_nil)) (by exact rfl) T.n_zip) (by simp [names]) (by decide) (by walk_at "sd") (fun _ zc1 _ zhyzc1 _ _ _ _ _ => (eg_tupC rfl (egs_consC (eg_nameC 4 nd rfl (.inl rfl) (by decide) (.inr rfl)) (egs_consC (eg_nameC 5 nd rfl (.inl rfl) (by decide) (.inr rfl)) egs_nilC)))) (fun _ zc1 _ zhyzc1 _ _ _ _ _ => (ev_callB (ds := [D.int (0 : Int), D.int (zc1.1 - zc1.2)]) (c_max2 rfl) (ea_cons ev_int (ea_cons (ev_bin o_sub (ev_var 4 rfl (.inl rfl) rfl) (ev_var 5 rfl (.inl rfl) rfl)) ea_nil)) (by exact rfl) T.n_max (by decide +kernel)))) ?_)
  have efin : m_reduced one other = ((((m_common one other).1).zip ((m_common one other).2)).map (fun zc1 : Int × Int => (if (zc1.1 - zc1.2) > (0 : Int) then (zc1.1 - zc1.2) else (0 : Int)))) := by simp only [m_reduced, not_true_eq_false, not_false_eq_true, ↓reduceIte]
  rw [efin] at zk
  exact zk _
def m_shortest_l0 (table : List Int) (slots : Int) (lo0 : Int) (zs0 : Unit) (zy0 : Nat) : Except (List Int) (Unit) :=
  if (((slots % (lo0 + (zy0 : Int))) = (0 : Int)) ∧ ((m_repeated (slcD table none (some (lo0 + (zy0 : Int)))) (slots / (lo0 + (zy0 : Int)))) = table)) then .error (slcD table none (some (lo0 + (zy0 : Int)))) else .ok ()
def m_shortest (table : List Int) : List Int :=
  match (runE (m_shortest_l0 table (table.length : Int) (1 : Int)) (List.range ((table.length : Int) - (1 : Int)).toNat) ()) with | .error r => r | .ok zs0 => table
theorem runE_unit {τ ρ : Type} {step : Unit → τ → Except ρ Unit} : ∀ {ys : List τ}, (∃ y, y ∈ ys ∧ ∃ r, step () y = .error r ∧ runE step ys () = .error r) ∨ ((∀ y, y ∈ ys → step () y = .ok ()) ∧ runE step ys () = .ok ())
  | [] => .inr ⟨fun y h => (by cases h), rfl⟩
  | y :: ys => by
    rw [runE_cons]
    cases h : step () y with
    | error r => exact .inl ⟨y, List.mem_cons_self, r, h, rfl⟩
    | ok u =>
      rcases runE_unit (step := step) (ys := ys) with ⟨z, hz, r, h1, h2⟩ | ⟨h1, h2⟩
      · exact .inl ⟨z, List.mem_cons_of_mem _ hz, r, h1, h2⟩
      · refine .inr ⟨fun z hz => ?_, h2⟩
        rcases List.mem_cons.mp hz with q | q
        · rw [q]; exact h
        · exact h1 z q
theorem slc_take {τ : Type} (xs : List τ) {i : Int} (h : 0 ≤ i) : slcD xs none (some i) = xs.take i.toNat := by
  unfold slcD HT.sIx
  simp only [List.drop_zero, Nat.sub_zero]
  rw [if_neg (by omega)]
  by_cases q : i.toNat ≤ xs.length
  · rw [Nat.min_eq_left q]
  · rw [Nat.min_eq_right (by omega), List.take_length, List.take_of_length_le (by omega)]
theorem slc_drop {τ : Type} (xs : List τ) {i : Int} (h : 0 ≤ i) : slcD xs (some i) none = xs.drop i.toNat := by
  unfold slcD HT.sIx
  simp only []
  rw [if_neg (by omega), List.take_of_length_le (by rw [List.length_drop]; exact Nat.le_refl _)]
  by_cases q : i.toNat ≤ xs.length
  · rw [Nat.min_eq_left q]
  · rw [Nat.min_eq_right (by omega), List.drop_length, List.drop_of_length_le (by omega)]
theorem short_len {t : List Int} (h : 0 < t.length) : 0 < (m_shortest t).length ∧ (m_shortest t).length ≤ t.length := by
  unfold m_shortest
  rcases runE_unit (step := m_shortest_l0 t (t.length : Int) (1 : Int)) (ys := List.range ((t.length : Int) - (1 : Int)).toNat) with ⟨y, hy, r, h1, h2⟩ | ⟨h1, h2⟩
  · rw [h2]
    have hy := List.mem_range.mp hy
    unfold m_shortest_l0 at h1
    split at h1
    · injection h1 with h1
      rw [← h1]
      have : slcD t none (some ((1 : Int) + (y : Int))) = t.take (y + 1) := by rw [slc_take _ (by omega), show ((1 : Int) + (y : Int)).toNat = y + 1 by omega]
      rw [this, List.length_take]
      omega
    · cases h1
  · rw [h2]; exact ⟨h, Nat.le_refl _⟩
set_option hygiene false in
local macro_rules | `(tactic| walk_at "pre") => `(tactic| first | exact ⟨Nat.le_trans slc_len hpre.2, div_facts6 (by omega) hpre.2⟩ | fail)
theorem sc_shortest : FnScope ["table", "slots", "part"] ["table"] (defScope s_shortest) := ⟨rfl, rfl, rfl, by decide +kernel, rfl, by decide +kernel, by decide +kernel⟩
def sp_shortest : SpN := fun zcs zL zKc => ∃ table : List Int, zcs = [.fr ((eL D.int) table)] ∧ zL = [] ∧ (0 < table.length ∧ table.length ≤ 600) ∧ ∀ zL', zKc (.fr ((eL D.int) (m_shortest table))) zL'
theorem ok_shortest (T : TX P K mg) : FnOk P w K mg base CX0 2 T.a_shortest T.d_shortest ["table"] (SpOf K mg sp_shortest) := by
  have O_repeated := ok_repeated (P := P) (w := w) (base := base) T
  refine T.F_shortest.okN sc_shortest (fun zcs zL zKc zh => by obtain ⟨table, rfl, _⟩ := zh; rfl) fun zcdv zA zout zst zH zE zB zcs zL zKc zhr zh => ?_
  obtain ⟨table, rfl, rfl, hpre, zk⟩ := zh
  have nd := sc_shortest.nd
  have hSL := sizeLine_eq
  show Exs _ _ _ ⟨[some (.fr ((eL D.int) table)), none, none], []⟩ _
  refine exs_cons (ex_set 1 (ev_len (ln_L (xs := table) (enc := D.int) (by exact rfl)) (ev_var 0 rfl (.inl rfl) rfl) (by exact rfl) T.n_len) ?_ nd rfl (.inl rfl))
  show Exs _ _ _ ⟨[some (.fr ((eL D.int) table)), some (.fr (D.int (table.length : Int))), none], []⟩ _
  refine exs_cons (ex_forE (enc := (fun i : Nat => D.int ((1 : Int) + (i : Int)))) (fun (zs0 : Unit) => (⟨[some (.fr ((eL D.int) table)), some (.fr (D.int (table.length : Int))), none], []⟩ : Nz.S)) (m_shortest_l0 table (table.length : Int) (1 : Int)) () (fun (zi0 : Nat) (zs0 : Unit) => True) (fun r c S' => c = .fr ((eL D.int) r) ∧ True) (src_range2 (ea_cons ev_int (ea_cons (ev_var 1 rfl (.inl rfl) rfl) ea_nil)) (by exact rfl) T.n_range (by walk_at "sd") (by walk_at "sd") (by walk_at "sd") (by walk_at "sd")) ⟨⟨.inr rfl, .inr rfl, .inl rfl, trivial⟩, rfl⟩ trivial ?_ ?_ ?_ PassesOwn.never rfl)
  · intro zi0 zy0 zs0 zhy0 zrun0 zq0
    skip
    refine ⟨⟨[some (.fr ((eL D.int) table)), some (.fr (D.int (table.length : Int))), some (.fr (D.int ((1 : Int) + (zy0 : Int))))], []⟩, (eg_name 2 nd rfl (.inl rfl)), ?_⟩
    refine exs_one (ex_ifP (bd_and bd_d bd_d) (Ew.et (ew_andP bd_d (et_cmp o_eqi (ev_bin (o_mod (by walk_at "sd")) (ev_var 1 rfl (.inl rfl) rfl) (ev_var 2 rfl (.inl rfl) rfl)) ev_int (nomark _)) (fun zhp => (ew_and1 (et_cmp (o_eqD (e := (eL D.int)) (x := (m_repeated (slcD table none (some ((1 : Int) + (zy0 : Int)))) ((table.length : Int) / ((1 : Int) + (zy0 : Int))))) (y := table) zhr.units (ee_L ee_int)) (ev_call (ds := [(eL D.int) (slcD table none (some ((1 : Int) + (zy0 : Int)))), D.int ((table.length : Int) / ((1 : Int) + (zy0 : Int)))]) (ds' := []) (dvs := []) (dfs := []) O_repeated (zhr.mono (by decide)) T.m_repeated T.k_repeated T.b_repeated .nil (fun _ => .nil) (ea_cons (ev_sliceT (enc := D.int) (xs := table) (by exact rfl) (ev_var 0 rfl (.inl rfl) rfl) eo_none (eo_some (ev_var 2 rfl (.inl rfl) rfl))) (ea_cons (ev_bin (o_div (by walk_at "sd") (by walk_at "sd")) (ev_var 1 rfl (.inl rfl) rfl) (ev_var 2 rfl (.inl rfl) rfl)) ea_nil)) (fun _ zkk => ⟨(slcD table none (some ((1 : Int) + (zy0 : Int)))), ((table.length : Int) / ((1 : Int) + (zy0 : Int))), rfl, rfl, (by walk_at "pre"), zkk⟩) (by exact rfl)) (ev_callTy (ds := [(eL D.int) table]) c_listL (ea_cons (ev_var 0 rfl (.inl rfl) rfl) ea_nil) (by exact rfl) T.n_list (by decide +kernel)) (nomark _)))))) (fun (zh1 : ((((table.length : Int) % ((1 : Int) + (zy0 : Int))) = (0 : Int)) ∧ ((m_repeated (slcD table none (some ((1 : Int) + (zy0 : Int)))) ((table.length : Int) / ((1 : Int) + (zy0 : Int)))) = table))) => ?_) (fun (zh1 : ¬ ((((table.length : Int) % ((1 : Int) + (zy0 : Int))) = (0 : Int)) ∧ ((m_repeated (slcD table none (some ((1 : Int) + (zy0 : Int)))) ((table.length : Int) / ((1 : Int) + (zy0 : Int)))) = table))) => ?_))
    · skip
      refine exs_one (ex_ret (ev_callTy (ds := [(eL D.int) (slcD table none (some ((1 : Int) + (zy0 : Int))))]) c_listL (ea_cons (ev_sliceT (enc := D.int) (xs := table) (by exact rfl) (ev_var 0 rfl (.inl rfl) rfl) eo_none (eo_some (ev_var 2 rfl (.inl rfl) rfl))) ea_nil) (by exact rfl) T.n_list (by decide +kernel)) ?_)
      have est : (m_shortest_l0 table (table.length : Int) (1 : Int)) zs0 zy0 = .error (slcD table none (some ((1 : Int) + (zy0 : Int)))) := by simp only [m_shortest_l0, not_true_eq_false, not_false_eq_true, ↓reduceIte, ↓if_pos zh1]
      exact ⟨_, est, rfl, trivial⟩
    · skip
      refine exs_nil ?_
      have est : (m_shortest_l0 table (table.length : Int) (1 : Int)) zs0 zy0 = .ok () := by simp only [m_shortest_l0, not_true_eq_false, not_false_eq_true, ↓reduceIte, ↓if_neg zh1]
      exact ⟨_, est, ⟨⟨.inr rfl, .inr rfl, .inl rfl, trivial⟩, rfl⟩, trivial⟩
  · rintro zr zc zS zrun0 ⟨rfl, zhL⟩
    skip
    have zh2 := zrun0
    have efin : m_shortest table = zr := by simp only [m_shortest, not_true_eq_false, not_false_eq_true, ↓reduceIte, ↓zh2]
    rw [efin] at zk
    exact zk _
  · intro zs0 zrun0 zq0
    have zh3 := zrun0
    show Exs _ _ _ ⟨[some (.fr ((eL D.int) table)), some (.fr (D.int (table.length : Int))), none], []⟩ _
    refine exs_one (ex_ret (ev_callTy (ds := [(eL D.int) table]) c_listL (ea_cons (ev_var 0 rfl (.inl rfl) rfl) ea_nil) (by exact rfl) T.n_list (by decide +kernel)) ?_)
    have efin : m_shortest table = table := by simp only [m_shortest, not_true_eq_false, not_false_eq_true, ↓reduceIte, ↓zh3]
    rw [efin] at zk
    exact zk _
def m_repeatedu (table : List Int) (times : Int) : List Int :=
  (List.flatten (List.replicate (times).toNat table))
set_option hygiene false in
local macro_rules | `(tactic| walk_at "rep") => `(tactic| first | (have q9 : table.length * times.toNat ≤ 600 * 600 := Nat.mul_le_mul (by omega) (by omega); omega) | fail)
theorem sc_repeatedu : FnScope ["table", "times"] ["table", "times"] (defScope s_repeatedu) := ⟨rfl, rfl, rfl, by decide +kernel, rfl, by decide +kernel, by decide +kernel⟩
def sp_repeatedu : SpN := fun zcs zL zKc => ∃ table : List Int, ∃ times : Int, zcs = [.fr ((eU D.int) table), .fr (D.int times)] ∧ zL = [] ∧ (table.length ≤ 600 ∧ 0 ≤ times ∧ times ≤ 600) ∧ ∀ zL', zKc (.fr ((eL D.int) (m_repeatedu table times))) zL'
theorem ok_repeatedu (T : TX P K mg) : FnOk P w K mg base CX0 1 T.a_repeatedu T.d_repeatedu ["table", "times"] (SpOf K mg sp_repeatedu) := by
  refine T.F_repeatedu.okN sc_repeatedu (fun zcs zL zKc zh => by obtain ⟨table, times, rfl, _⟩ := zh; rfl) fun zcdv zA zout zst zH zE zB zcs zL zKc zhr zh => ?_
  obtain ⟨table, times, rfl, rfl, hpre, zk⟩ := zh
  have nd := sc_repeatedu.nd
  have hSL := sizeLine_eq
  show Exs _ _ _ ⟨[some (.fr ((eU D.int) table)), some (.fr (D.int times))], []⟩ _
  refine exs_one (ex_ret (ev_bin (o_repL (enc := D.int) (xs := table) (by walk_at "sd") (by walk_at "sd") (by walk_at "rep")) (ev_callTy (ds := [(eU D.int) table]) c_listT (ea_cons (ev_var 0 rfl (.inl rfl) rfl) ea_nil) (by exact rfl) T.n_list (by decide +kernel)) (ev_var 1 rfl (.inl rfl) rfl)) ?_)
  have efin : m_repeatedu table times = (List.flatten (List.replicate (times).toNat table)) := by simp only [m_repeatedu, not_true_eq_false, not_false_eq_true, ↓reduceIte]
  rw [efin] at zk
  exact zk _
def m_rotatedu (table : List Int) (by_ : Int) : List Int :=
  let first1 : Int := (by_ % (table.length : Int))
  ((slcD table (some first1) none) ++ (slcD table none (some first1)))
set_option hygiene false in
local macro_rules | `(tactic| walk_at "sd") => `(tactic| first | omega | exact Nat.le_trans (Nat.add_le_add slc_len slc_len) (by omega) | exact Nat.le_trans slc_len (by omega) | fail)
theorem sc_rotatedu : FnScope ["table", "by", "first"] ["table", "by"] (defScope s_rotatedu) := ⟨rfl, rfl, rfl, by decide +kernel, rfl, by decide +kernel, by decide +kernel⟩
def sp_rotatedu : SpN := fun zcs zL zKc => ∃ table : List Int, ∃ by_ : Int, zcs = [.fr ((eU D.int) table), .fr (D.int by_)] ∧ zL = [] ∧ (0 < table.length ∧ table.length ≤ 600) ∧ ∀ zL', zKc (.fr ((eL D.int) (m_rotatedu table by_))) zL'
theorem ok_rotatedu (T : TX P K mg) : FnOk P w K mg base CX0 1 T.a_rotatedu T.d_rotatedu ["table", "by"] (SpOf K mg sp_rotatedu) := by
  refine T.F_rotatedu.okN sc_rotatedu (fun zcs zL zKc zh => by obtain ⟨table, by_, rfl, _⟩ := zh; rfl) fun zcdv zA zout zst zH zE zB zcs zL zKc zhr zh => ?_
  obtain ⟨table, by_, rfl, rfl, hpre, zk⟩ := zh
  have nd := sc_rotatedu.nd
  have hSL := sizeLine_eq
  show Exs _ _ _ ⟨[some (.fr ((eU D.int) table)), some (.fr (D.int by_)), none], []⟩ _
  refine exs_cons (ex_set 2 (ev_bin (o_mod (by walk_at "sd")) (ev_var 1 rfl (.inl rfl) rfl) (ev_len (ln_U (xs := table) (enc := D.int)) (ev_var 0 rfl (.inl rfl) rfl) (by exact rfl) T.n_len)) ?_ nd rfl (.inl rfl))
  show Exs _ _ _ ⟨[some (.fr ((eU D.int) table)), some (.fr (D.int by_)), some (.fr (D.int (by_ % (table.length : Int))))], []⟩ _
  generalize zg_first : (by_ % (table.length : Int)) = first
  show Exs _ _ _ ⟨[some (.fr ((eU D.int) table)), some (.fr (D.int by_)), some (.fr (D.int first))], []⟩ _
  refine exs_one (ex_ret (ev_bin (o_catT (enc := D.int) (xs := (slcD table (some first) none)) (ys := (slcD table none (some first))) (by walk_at "sd")) (ev_callTy (ds := [(eU D.int) (slcD table (some first) none)]) c_listT (ea_cons (ev_sliceU (enc := D.int) (xs := table) (ev_var 0 rfl (.inl rfl) rfl) (eo_some (ev_var 2 rfl (.inl rfl) rfl)) eo_none) ea_nil) (by exact rfl) T.n_list (by decide +kernel)) (ev_callTy (ds := [(eU D.int) (slcD table none (some first))]) c_listT (ea_cons (ev_sliceU (enc := D.int) (xs := table) (ev_var 0 rfl (.inl rfl) rfl) eo_none (eo_some (ev_var 2 rfl (.inl rfl) rfl))) ea_nil) (by exact rfl) T.n_list (by decide +kernel))) ?_)
  have efin : m_rotatedu table by_ = ((slcD table (some first) none) ++ (slcD table none (some first))) := by subst zg_first; simp only [m_rotatedu, not_true_eq_false, not_false_eq_true, ↓reduceIte]
  rw [efin] at zk
  exact zk _
def m_common_lengthu (one : List Int) (other : List Int) : Int :=
  ((Nat.lcm ((one.length : Int)).natAbs ((other.length : Int)).natAbs : Nat) : Int)
theorem sc_common_lengthu : FnScope ["one", "other"] ["one", "other"] (defScope s_common_lengthu) := ⟨rfl, rfl, rfl, by decide +kernel, rfl, by decide +kernel, by decide +kernel⟩
def sp_common_lengthu : SpN := fun zcs zL zKc => ∃ one : List Int, ∃ other : List Int, zcs = [.fr ((eU D.int) one), .fr ((eU D.int) other)] ∧ zL = [] ∧ (0 < one.length ∧ one.length ≤ 600 ∧ 0 < other.length ∧ other.length ≤ 600) ∧ ∀ zL', zKc (.fr (D.int (m_common_lengthu one other))) zL'
theorem ok_common_lengthu (T : TX P K mg) : FnOk P w K mg base CX0 1 T.a_common_lengthu T.d_common_lengthu ["one", "other"] (SpOf K mg sp_common_lengthu) := by
  refine T.F_common_lengthu.okN sc_common_lengthu (fun zcs zL zKc zh => by obtain ⟨one, other, rfl, _⟩ := zh; rfl) fun zcdv zA zout zst zH zE zB zcs zL zKc zhr zh => ?_
  obtain ⟨one, other, rfl, rfl, hpre, zk⟩ := zh
  have nd := sc_common_lengthu.nd
  have hSL := sizeLine_eq
  show Exs _ _ _ ⟨[some (.fr ((eU D.int) one)), some (.fr ((eU D.int) other))], []⟩ _
  refine exs_one (ex_ret (ev_callG (ds := [D.int (one.length : Int), D.int (other.length : Int)]) (c_lcm (by walk_at "lcm") (by walk_at "lcm")) (ea_cons (ev_len (ln_U (xs := one) (enc := D.int)) (ev_var 0 rfl (.inl rfl) rfl) (by exact rfl) T.n_len) (ea_cons (ev_len (ln_U (xs := other) (enc := D.int)) (ev_var 1 rfl (.inl rfl) rfl) (by exact rfl) T.n_len) ea_nil)) (by exact rfl) T.x_lcm) ?_)
  have efin : m_common_lengthu one other = ((Nat.lcm ((one.length : Int)).natAbs ((other.length : Int)).natAbs : Nat) : Int) := by simp only [m_common_lengthu, not_true_eq_false, not_false_eq_true, ↓reduceIte]
  rw [efin] at zk
  exact zk _
def m_commonu (one : List Int) (other : List Int) : (List Int) × (List Int) :=
  let slots1 : Int := (m_common_lengthu one other)
  ((m_repeatedu one (slots1 / (one.length : Int))), (m_repeatedu other (slots1 / (other.length : Int))))
set_option hygiene false in
local macro_rules | `(tactic| walk_at "pre") => `(tactic| first | exact ⟨by omega, hd1.1, by omega⟩ | exact ⟨by omega, hd2.1, by omega⟩ | fail)
theorem sc_commonu : FnScope ["one", "other", "slots"] ["one", "other"] (defScope s_commonu) := ⟨rfl, rfl, rfl, by decide +kernel, rfl, by decide +kernel, by decide +kernel⟩
def sp_commonu : SpN := fun zcs zL zKc => ∃ one : List Int, ∃ other : List Int, zcs = [.fr ((eU D.int) one), .fr ((eU D.int) other)] ∧ zL = [] ∧ (0 < one.length ∧ one.length ≤ 24 ∧ 0 < other.length ∧ other.length ≤ 24) ∧ ∀ zL', zKc (.fr ((eT2 (eL D.int) (eL D.int)) (m_commonu one other))) zL'
theorem ok_commonu (T : TX P K mg) : FnOk P w K mg base CX0 2 T.a_commonu T.d_commonu ["one", "other"] (SpOf K mg sp_commonu) := by
  have O_common_lengthu := ok_common_lengthu (P := P) (w := w) (base := base) T
  have O_repeatedu := ok_repeatedu (P := P) (w := w) (base := base) T
  refine T.F_commonu.okN sc_commonu (fun zcs zL zKc zh => by obtain ⟨one, other, rfl, _⟩ := zh; rfl) fun zcdv zA zout zst zH zE zB zcs zL zKc zhr zh => ?_
  obtain ⟨one, other, rfl, rfl, hpre, zk⟩ := zh
  have nd := sc_commonu.nd
  have hSL := sizeLine_eq
  show Exs _ _ _ ⟨[some (.fr ((eU D.int) one)), some (.fr ((eU D.int) other)), none], []⟩ _
  refine exs_cons (ex_set 2 (ev_call (ds := [(eU D.int) one, (eU D.int) other]) (ds' := []) (dvs := []) (dfs := []) O_common_lengthu (zhr.mono (by decide)) T.m_common_lengthu T.k_common_lengthu T.b_common_lengthu .nil (fun _ => .nil) (ea_cons (ev_var 0 rfl (.inl rfl) rfl) (ea_cons (ev_var 1 rfl (.inl rfl) rfl) ea_nil)) (fun _ zkk => ⟨one, other, rfl, rfl, (by walk_at "pre"), zkk⟩) (by exact rfl)) ?_ nd rfl (.inl rfl))
  show Exs _ _ _ ⟨[some (.fr ((eU D.int) one)), some (.fr ((eU D.int) other)), some (.fr (D.int (m_common_lengthu one other)))], []⟩ _
  generalize zg_slots : (m_common_lengthu one other) = slots
  show Exs _ _ _ ⟨[some (.fr ((eU D.int) one)), some (.fr ((eU D.int) other)), some (.fr (D.int slots))], []⟩ _
  have hcl : 0 < m_common_lengthu one other ∧ m_common_lengthu one other ≤ 576 := cl_facts hpre.1 hpre.2.1 hpre.2.2.1 hpre.2.2.2
  rw [zg_slots] at hcl
  have hd1 := div_facts (n := one.length) hcl.1 hcl.2
  have hd2 := div_facts (n := other.length) hcl.1 hcl.2
  refine exs_one (ex_ret (ev_tup (ds := [(eL D.int) (m_repeatedu one (slots / (one.length : Int))), (eL D.int) (m_repeatedu other (slots / (other.length : Int)))]) (ea_cons (ev_call (ds := [(eU D.int) one, D.int (slots / (one.length : Int))]) (ds' := []) (dvs := []) (dfs := []) O_repeatedu (zhr.mono (by decide)) T.m_repeatedu T.k_repeatedu T.b_repeatedu .nil (fun _ => .nil) (ea_cons (ev_var 0 rfl (.inl rfl) rfl) (ea_cons (ev_bin (o_div (by walk_at "sd") (by walk_at "sd")) (ev_var 2 rfl (.inl rfl) rfl) (ev_len (ln_U (xs := one) (enc := D.int)) (ev_var 0 rfl (.inl rfl) rfl) (by exact rfl) T.n_len)) ea_nil)) (fun _ zkk => ⟨one, (slots / (one.length : Int)), rfl, rfl, (by walk_at "pre"), zkk⟩) (by exact rfl)) (ea_cons (ev_call (ds := [(eU D.int) other, D.int (slots / (other.length : Int))]) (ds' := []) (dvs := []) (dfs := []) O_repeatedu (zhr.mono (by decide)) T.m_repeatedu T.k_repeatedu T.b_repeatedu .nil (fun _ => .nil) (ea_cons (ev_var 1 rfl (.inl rfl) rfl) (ea_cons (ev_bin (o_div (by walk_at "sd") (by walk_at "sd")) (ev_var 2 rfl (.inl rfl) rfl) (ev_len (ln_U (xs := other) (enc := D.int)) (ev_var 1 rfl (.inl rfl) rfl) (by exact rfl) T.n_len)) ea_nil)) (fun _ zkk => ⟨other, (slots / (other.length : Int)), rfl, rfl, (by walk_at "pre"), zkk⟩) (by exact rfl)) ea_nil)) (by simp only [List.length_cons, List.length_nil]; decide)) ?_)
  have efin : m_commonu one other = ((m_repeatedu one (slots / (one.length : Int))), (m_repeatedu other (slots / (other.length : Int)))) := by subst zg_slots; simp only [m_commonu, not_true_eq_false, not_false_eq_true, ↓reduceIte]
  rw [efin] at zk
  exact zk _
def m_reducedu (one : List Int) (other : List Int) : List Int :=
  ((((m_commonu one other).1).zip ((m_commonu one other).2)).map (fun zc2 : Int × Int => (if (zc2.1 - zc2.2) > (0 : Int) then (zc2.1 - zc2.2) else (0 : Int))))
set_option hygiene false in
local macro_rules | `(tactic| walk_at "sd") => `(tactic| first | omega | (rw [List.length_zip]; exact Nat.le_trans (Nat.min_le_left _ _) (Nat.le_trans (com_len hpre.1 hpre.2.1 hpre.2.2.1 hpre.2.2.2) (by omega))) | fail)
theorem sc_reducedu : FnScope ["one", "other", "first", "second", "units", "less"] ["one", "other"] (defScope s_reducedu) := ⟨rfl, rfl, rfl, by decide +kernel, rfl, by decide +kernel, by decide +kernel⟩
def sp_reducedu : SpN := fun zcs zL zKc => ∃ one : List Int, ∃ other : List Int, zcs = [.fr ((eU D.int) one), .fr ((eU D.int) other)] ∧ zL = [] ∧ (0 < one.length ∧ one.length ≤ 24 ∧ 0 < other.length ∧ other.length ≤ 24) ∧ ∀ zL', zKc (.fr ((eL D.int) (m_reducedu one other))) zL'
theorem ok_reducedu (T : TX P K mg) : FnOk P w K mg base CX0 3 T.a_reducedu T.d_reducedu ["one", "other"] (SpOf K mg sp_reducedu) := by
  have O_commonu := ok_commonu (P := P) (w := w) (base := base) T
  refine T.F_reducedu.okN sc_reducedu (fun zcs zL zKc zh => by obtain ⟨one, other, rfl, _⟩ := zh; rfl) fun zcdv zA zout zst zH zE zB zcs zL zKc zhr zh => ?_
  obtain ⟨one, other, rfl, rfl, hpre, zk⟩ := zh
  have nd := sc_reducedu.nd
  have hSL := sizeLine_eq
  show Exs _ _ _ ⟨[some (.fr ((eU D.int) one)), some (.fr ((eU D.int) other)), none, none, none, none], []⟩ _
  refine exs_cons (ex_asg (ev_call (ds := [(eU D.int) one, (eU D.int) other]) (ds' := []) (dvs := []) (dfs := []) O_commonu (zhr.mono (by decide)) T.m_commonu T.k_commonu T.b_commonu .nil (fun _ => .nil) (ea_cons (ev_var 0 rfl (.inl rfl) rfl) (ea_cons (ev_var 1 rfl (.inl rfl) rfl) ea_nil)) (fun _ zkk => ⟨one, other, rfl, rfl, (by walk_at "pre"), zkk⟩) (by exact rfl)) (eg_tup rfl (egs_cons (eg_name 2 nd rfl (.inl rfl)) (egs_cons (eg_name 3 nd rfl (.inl rfl)) egs_nil))) ?_)
  show Exs _ _ _ ⟨[some (.fr ((eU D.int) one)), some (.fr ((eU D.int) other)), some (.fr ((eL D.int) ((m_commonu one other).1))), some (.fr ((eL D.int) ((m_commonu one other).2))), none, none], []⟩ _
  refine exs_one (ex_ret (ev_lcM (enc2 := D.int) 199 (fun zc1 : Int × Int => (if (zc1.1 - zc1.2) > (0 : Int) then (zc1.1 - zc1.2) else (0 : Int))) _ rfl nd (blkOk_by (N := ["one", "other", "first", "second", "units", "less"]) (sc := defScope s_reducedu) (own := [(("units" : Str), 4), (("less" : Str), 5)]) (by decide +kernel)) (src_zip (enc := D.int) (encB := D.int) (xs := (m_commonu one other).1) (ys := (m_commonu one other).2) (ea_cons (ev_var 2 rfl (.inl rfl) rfl) (ea_cons (ev_var 3 rfl (.inl rfl) rfl) ea_nil)) (by exact rfl) T.n_zip) (by simp [names]) (by decide) (by walk_at "sd") (fun _ zc1 _ zhyzc1 _ _ _ _ _ => (eg_tupC rfl (egs_consC (eg_nameC 4 nd rfl (.inl rfl) (by decide) (.inr rfl)) (egs_consC (eg_nameC 5 nd rfl (.inl rfl) (by decide) (.inr rfl)) egs_nilC)))) (fun _ zc1 _ zhyzc1 _ _ _ _ _ => (ev_callB (ds := [D.int (0 : Int), D.int (zc1.1 - zc1.2)]) (c_max2 rfl) (ea_cons ev_int (ea_cons (ev_bin o_sub (ev_var 4 rfl (.inl rfl) rfl) (ev_var 5 rfl (.inl rfl) rfl)) ea_nil)) (by exact rfl) T.n_max (by decide +kernel)))) ?_)
  have efin : m_reducedu one other = ((((m_commonu one other).1).zip ((m_commonu one other).2)).map (fun zc1 : Int × Int => (if (zc1.1 - zc1.2) > (0 : Int) then (zc1.1 - zc1.2) else (0 : Int)))) := by simp only [m_reducedu, not_true_eq_false, not_false_eq_true, ↓reduceIte]
  rw [efin] at zk
  exact zk _
def m_shortestu_l0 (table : List Int) (slots : Int) (lo0 : Int) (zs0 : Unit) (zy0 : Nat) : Except (List Int) (Unit) :=
  if (((slots % (lo0 + (zy0 : Int))) = (0 : Int)) ∧ ((m_repeatedu (slcD table none (some (lo0 + (zy0 : Int)))) (slots / (lo0 + (zy0 : Int)))) = table)) then .error (slcD table none (some (lo0 + (zy0 : Int)))) else .ok ()
def m_shortestu (table : List Int) : List Int :=
  match (runE (m_shortestu_l0 table (table.length : Int) (1 : Int)) (List.range ((table.length : Int) - (1 : Int)).toNat) ()) with | .error r => r | .ok zs0 => table
set_option hygiene false in
local macro_rules | `(tactic| walk_at "pre") => `(tactic| first | exact ⟨Nat.le_trans slc_len hpre.2, div_facts6 (by omega) hpre.2⟩ | fail)
theorem sc_shortestu : FnScope ["table", "slots", "part"] ["table"] (defScope s_shortestu) := ⟨rfl, rfl, rfl, by decide +kernel, rfl, by decide +kernel, by decide +kernel⟩
def sp_shortestu : SpN := fun zcs zL zKc => ∃ table : List Int, zcs = [.fr ((eU D.int) table)] ∧ zL = [] ∧ (0 < table.length ∧ table.length ≤ 600) ∧ ∀ zL', zKc (.fr ((eL D.int) (m_shortestu table))) zL'
theorem ok_shortestu (T : TX P K mg) : FnOk P w K mg base CX0 2 T.a_shortestu T.d_shortestu ["table"] (SpOf K mg sp_shortestu) := by
  have O_repeatedu := ok_repeatedu (P := P) (w := w) (base := base) T
  refine T.F_shortestu.okN sc_shortestu (fun zcs zL zKc zh => by obtain ⟨table, rfl, _⟩ := zh; rfl) fun zcdv zA zout zst zH zE zB zcs zL zKc zhr zh => ?_
  obtain ⟨table, rfl, rfl, hpre, zk⟩ := zh
  have nd := sc_shortestu.nd
  have hSL := sizeLine_eq
  show Exs _ _ _ ⟨[some (.fr ((eU D.int) table)), none, none], []⟩ _
  refine exs_cons (ex_set 1 (ev_len (ln_U (xs := table) (enc := D.int)) (ev_var 0 rfl (.inl rfl) rfl) (by exact rfl) T.n_len) ?_ nd rfl (.inl rfl))
  show Exs _ _ _ ⟨[some (.fr ((eU D.int) table)), some (.fr (D.int (table.length : Int))), none], []⟩ _
  refine exs_cons (ex_forE (enc := (fun i : Nat => D.int ((1 : Int) + (i : Int)))) (fun (zs0 : Unit) => (⟨[some (.fr ((eU D.int) table)), some (.fr (D.int (table.length : Int))), none], []⟩ : Nz.S)) (m_shortestu_l0 table (table.length : Int) (1 : Int)) () (fun (zi0 : Nat) (zs0 : Unit) => True) (fun r c S' => c = .fr ((eL D.int) r) ∧ True) (src_range2 (ea_cons ev_int (ea_cons (ev_var 1 rfl (.inl rfl) rfl) ea_nil)) (by exact rfl) T.n_range (by walk_at "sd") (by walk_at "sd") (by walk_at "sd") (by walk_at "sd")) ⟨⟨.inr rfl, .inr rfl, .inl rfl, trivial⟩, rfl⟩ trivial ?_ ?_ ?_ PassesOwn.never rfl)
  · intro zi0 zy0 zs0 zhy0 zrun0 zq0
    skip
    refine ⟨⟨[some (.fr ((eU D.int) table)), some (.fr (D.int (table.length : Int))), some (.fr (D.int ((1 : Int) + (zy0 : Int))))], []⟩, (eg_name 2 nd rfl (.inl rfl)), ?_⟩
    refine exs_one (ex_ifP (bd_and bd_d bd_d) (Ew.et (ew_andP bd_d (et_cmp o_eqi (ev_bin (o_mod (by walk_at "sd")) (ev_var 1 rfl (.inl rfl) rfl) (ev_var 2 rfl (.inl rfl) rfl)) ev_int (nomark _)) (fun zhp => (ew_and1 (et_cmp (o_eqD (e := (eL D.int)) (x := (m_repeatedu (slcD table none (some ((1 : Int) + (zy0 : Int)))) ((table.length : Int) / ((1 : Int) + (zy0 : Int))))) (y := table) zhr.units (ee_L ee_int)) (ev_call (ds := [(eU D.int) (slcD table none (some ((1 : Int) + (zy0 : Int)))), D.int ((table.length : Int) / ((1 : Int) + (zy0 : Int)))]) (ds' := []) (dvs := []) (dfs := []) O_repeatedu (zhr.mono (by decide)) T.m_repeatedu T.k_repeatedu T.b_repeatedu .nil (fun _ => .nil) (ea_cons (ev_sliceU (enc := D.int) (xs := table) (ev_var 0 rfl (.inl rfl) rfl) eo_none (eo_some (ev_var 2 rfl (.inl rfl) rfl))) (ea_cons (ev_bin (o_div (by walk_at "sd") (by walk_at "sd")) (ev_var 1 rfl (.inl rfl) rfl) (ev_var 2 rfl (.inl rfl) rfl)) ea_nil)) (fun _ zkk => ⟨(slcD table none (some ((1 : Int) + (zy0 : Int)))), ((table.length : Int) / ((1 : Int) + (zy0 : Int))), rfl, rfl, (by walk_at "pre"), zkk⟩) (by exact rfl)) (ev_callTy (ds := [(eU D.int) table]) c_listT (ea_cons (ev_var 0 rfl (.inl rfl) rfl) ea_nil) (by exact rfl) T.n_list (by decide +kernel)) (nomark _)))))) (fun (zh1 : ((((table.length : Int) % ((1 : Int) + (zy0 : Int))) = (0 : Int)) ∧ ((m_repeatedu (slcD table none (some ((1 : Int) + (zy0 : Int)))) ((table.length : Int) / ((1 : Int) + (zy0 : Int)))) = table))) => ?_) (fun (zh1 : ¬ ((((table.length : Int) % ((1 : Int) + (zy0 : Int))) = (0 : Int)) ∧ ((m_repeatedu (slcD table none (some ((1 : Int) + (zy0 : Int)))) ((table.length : Int) / ((1 : Int) + (zy0 : Int)))) = table))) => ?_))
    · skip
      refine exs_one (ex_ret (ev_callTy (ds := [(eU D.int) (slcD table none (some ((1 : Int) + (zy0 : Int))))]) c_listT (ea_cons (ev_sliceU (enc := D.int) (xs := table) (ev_var 0 rfl (.inl rfl) rfl) eo_none (eo_some (ev_var 2 rfl (.inl rfl) rfl))) ea_nil) (by exact rfl) T.n_list (by decide +kernel)) ?_)
      have est : (m_shortestu_l0 table (table.length : Int) (1 : Int)) zs0 zy0 = .error (slcD table none (some ((1 : Int) + (zy0 : Int)))) := by simp only [m_shortestu_l0, not_true_eq_false, not_false_eq_true, ↓reduceIte, ↓if_pos zh1]
      exact ⟨_, est, rfl, trivial⟩
    · skip
      refine exs_nil ?_
      have est : (m_shortestu_l0 table (table.length : Int) (1 : Int)) zs0 zy0 = .ok () := by simp only [m_shortestu_l0, not_true_eq_false, not_false_eq_true, ↓reduceIte, ↓if_neg zh1]
      exact ⟨_, est, ⟨⟨.inr rfl, .inr rfl, .inl rfl, trivial⟩, rfl⟩, trivial⟩
  · rintro zr zc zS zrun0 ⟨rfl, zhL⟩
    skip
    have zh2 := zrun0
    have efin : m_shortestu table = zr := by simp only [m_shortestu, not_true_eq_false, not_false_eq_true, ↓reduceIte, ↓zh2]
    rw [efin] at zk
    exact zk _
  · intro zs0 zrun0 zq0
    have zh3 := zrun0
    show Exs _ _ _ ⟨[some (.fr ((eU D.int) table)), some (.fr (D.int (table.length : Int))), none], []⟩ _
    refine exs_one (ex_ret (ev_callTy (ds := [(eU D.int) table]) c_listT (ea_cons (ev_var 0 rfl (.inl rfl) rfl) ea_nil) (by exact rfl) T.n_list (by decide +kernel)) ?_)
    have efin : m_shortestu table = table := by simp only [m_shortestu, not_true_eq_false, not_false_eq_true, ↓reduceIte, ↓zh3]
    rw [efin] at zk
    exact zk _
def m_joined (one : List Int) (other : List Int) : List Int :=
  ((((m_common one other).1).zip ((m_common one other).2)).map (fun zc2 : Int × Int => (zc2.1 + zc2.2)))
set_option hygiene false in
local macro_rules | `(tactic| walk_at "sd") => `(tactic| first | omega | (rw [List.length_zip]; exact Nat.le_trans (Nat.min_le_left _ _) (Nat.le_trans (com_len hpre.1 hpre.2.1 hpre.2.2.1 hpre.2.2.2) (by omega))) | fail)
theorem sc_joined : FnScope ["one", "other", "first", "second", "units", "more"] ["one", "other"] (defScope s_joined) := ⟨rfl, rfl, rfl, by decide +kernel, rfl, by decide +kernel, by decide +kernel⟩
def sp_joined : SpN := fun zcs zL zKc => ∃ one : List Int, ∃ other : List Int, zcs = [.fr ((eL D.int) one), .fr ((eL D.int) other)] ∧ zL = [] ∧ (0 < one.length ∧ one.length ≤ 24 ∧ 0 < other.length ∧ other.length ≤ 24) ∧ ∀ zL', zKc (.fr ((eL D.int) (m_joined one other))) zL'
theorem ok_joined (T : TX P K mg) : FnOk P w K mg base CX0 3 T.a_joined T.d_joined ["one", "other"] (SpOf K mg sp_joined) := by
  have O_common := ok_common (P := P) (w := w) (base := base) T
  refine T.F_joined.okN sc_joined (fun zcs zL zKc zh => by obtain ⟨one, other, rfl, _⟩ := zh; rfl) fun zcdv zA zout zst zH zE zB zcs zL zKc zhr zh => ?_
  obtain ⟨one, other, rfl, rfl, hpre, zk⟩ := zh
  have nd := sc_joined.nd
  have hSL := sizeLine_eq
  show Exs _ _ _ ⟨[some (.fr ((eL D.int) one)), some (.fr ((eL D.int) other)), none, none, none, none], []⟩ _
  refine exs_cons (ex_asg (ev_call (ds := [(eL D.int) one, (eL D.int) other]) (ds' := []) (dvs := []) (dfs := []) O_common (zhr.mono (by decide)) T.m_common T.k_common T.b_common .nil (fun _ => .nil) (ea_cons (ev_var 0 rfl (.inl rfl) rfl) (ea_cons (ev_var 1 rfl (.inl rfl) rfl) ea_nil)) (fun _ zkk => ⟨one, other, rfl, rfl, (by walk_at "pre"), zkk⟩) (by exact rfl)) (eg_tup rfl (egs_cons (eg_name 2 nd rfl (.inl rfl)) (egs_cons (eg_name 3 nd rfl (.inl rfl)) egs_nil))) ?_)
  show Exs _ _ _ ⟨[some (.fr ((eL D.int) one)), some (.fr ((eL D.int) other)), some (.fr ((eL D.int) ((m_common one other).1))), some (.fr ((eL D.int) ((m_common one other).2))), none, none], []⟩ _
  refine exs_one (ex_ret (ev_lcM (enc2 := D.int) 199 (fun zc1 : Int × Int => (zc1.1 + zc1.2)) _ rfl nd (blkOk_by (N := ["one", "other", "first", "second", "units", "more"]) (sc := defScope s_joined) (own := [(("units" : Str), 4), (("more" : Str), 5)]) (by decide +kernel)) (src_zip (enc := D.int) (encB := D.int) (xs := (m_common one other).1) (ys := (m_common one other).2) (ea_cons (ev_var 2 rfl (.inl rfl) rfl) (ea_cons (ev_var 3 rfl (.inl rfl) rfl) ea_nil)) (by exact rfl) T.n_zip) (by simp [names]) (by decide) (by walk_at "sd") (fun _ zc1 _ zhyzc1 _ _ _ _ _ => (eg_tupC rfl (egs_consC (eg_nameC 4 nd rfl (.inl rfl) (by decide) (.inr rfl)) (egs_consC (eg_nameC 5 nd rfl (.inl rfl) (by decide) (.inr rfl)) egs_nilC)))) (fun _ zc1 _ zhyzc1 _ _ _ _ _ => (ev_bin o_add (ev_var 4 rfl (.inl rfl) rfl) (ev_var 5 rfl (.inl rfl) rfl)))) ?_)
  have efin : m_joined one other = ((((m_common one other).1).zip ((m_common one other).2)).map (fun zc1 : Int × Int => (zc1.1 + zc1.2))) := by simp only [m_joined, not_true_eq_false, not_false_eq_true, ↓reduceIte]
  rw [efin] at zk
  exact zk _
def m_repeatedn (table : List Int) (times : Int) : List Int :=
  (List.flatten (List.replicate (times).toNat table))
set_option hygiene false in
local macro_rules | `(tactic| walk_at "rep") => `(tactic| first | (have q9 : table.length * times.toNat ≤ 600 * 600 := Nat.mul_le_mul (by omega) (by omega); omega) | fail)
theorem sc_repeatedn : FnScope ["table", "times"] ["table", "times"] (defScope s_repeatedn) := ⟨rfl, rfl, rfl, by decide +kernel, rfl, by decide +kernel, by decide +kernel⟩
def sp_repeatedn : SpN := fun zcs zL zKc => ∃ table : List Int, ∃ times : Int, zcs = [.fr ((eL D.int) table), .fr (D.int times)] ∧ zL = [] ∧ (table.length ≤ 600 ∧ 0 ≤ times ∧ times ≤ 600) ∧ ∀ zn zL', getL zn zL' = some (.fl ((m_repeatedn table times).map D.int)) → zKc (.ad zn) zL'
theorem ok_repeatedn (T : TX P K mg) : FnOk P w K mg base CX0 1 T.a_repeatedn T.d_repeatedn ["table", "times"] (SpOf K mg sp_repeatedn) := by
  refine T.F_repeatedn.okN sc_repeatedn (fun zcs zL zKc zh => by obtain ⟨table, times, rfl, _⟩ := zh; rfl) fun zcdv zA zout zst zH zE zB zcs zL zKc zhr zh => ?_
  obtain ⟨table, times, rfl, rfl, hpre, zk⟩ := zh
  have nd := sc_repeatedn.nd
  have hSL := sizeLine_eq
  show Exs _ _ _ ⟨[some (.fr ((eL D.int) table)), some (.fr (D.int times))], []⟩ _
  refine exs_one (ex_ret (ev_repN 100 (enc := D.int) (xs := table) (ev_callTy (ds := [(eL D.int) table]) c_listL (ea_cons (ev_var 0 rfl (.inl rfl) rfl) ea_nil) (by exact rfl) T.n_list (by decide +kernel)) (ev_var 1 rfl (.inl rfl) rfl) (by exact rfl) (by walk_at "sd") (by walk_at "sd") (by walk_at "rep") (by simp [names]) (by decide)) ?_)
  have efin : m_repeatedn table times = (List.flatten (List.replicate (times).toNat table)) := by simp only [m_repeatedn, not_true_eq_false, not_false_eq_true, ↓reduceIte]
  rw [efin] at zk
  exact zk 100 _ (by exact rfl)
def m_rotatedn (table : List Int) (by_ : Int) : List Int :=
  let first1 : Int := (by_ % (table.length : Int))
  ((slcD table (some first1) none) ++ (slcD table none (some first1)))
set_option hygiene false in
local macro_rules | `(tactic| walk_at "sd") => `(tactic| first | omega | exact Nat.le_trans (Nat.add_le_add slc_len slc_len) (by omega) | exact Nat.le_trans slc_len (by omega) | fail)
theorem sc_rotatedn : FnScope ["table", "by", "first"] ["table", "by"] (defScope s_rotatedn) := ⟨rfl, rfl, rfl, by decide +kernel, rfl, by decide +kernel, by decide +kernel⟩
def sp_rotatedn : SpN := fun zcs zL zKc => ∃ table : List Int, ∃ by_ : Int, zcs = [.fr ((eL D.int) table), .fr (D.int by_)] ∧ zL = [] ∧ (0 < table.length ∧ table.length ≤ 600) ∧ ∀ zn zL', getL zn zL' = some (.fl ((m_rotatedn table by_).map D.int)) → zKc (.ad zn) zL'
theorem ok_rotatedn (T : TX P K mg) : FnOk P w K mg base CX0 1 T.a_rotatedn T.d_rotatedn ["table", "by"] (SpOf K mg sp_rotatedn) := by
  refine T.F_rotatedn.okN sc_rotatedn (fun zcs zL zKc zh => by obtain ⟨table, by_, rfl, _⟩ := zh; rfl) fun zcdv zA zout zst zH zE zB zcs zL zKc zhr zh => ?_
  obtain ⟨table, by_, rfl, rfl, hpre, zk⟩ := zh
  have nd := sc_rotatedn.nd
  have hSL := sizeLine_eq
  show Exs _ _ _ ⟨[some (.fr ((eL D.int) table)), some (.fr (D.int by_)), none], []⟩ _
  refine exs_cons (ex_set 2 (ev_bin (o_mod (by walk_at "sd")) (ev_var 1 rfl (.inl rfl) rfl) (ev_len (ln_L (xs := table) (enc := D.int) (by exact rfl)) (ev_var 0 rfl (.inl rfl) rfl) (by exact rfl) T.n_len)) ?_ nd rfl (.inl rfl))
  show Exs _ _ _ ⟨[some (.fr ((eL D.int) table)), some (.fr (D.int by_)), some (.fr (D.int (by_ % (table.length : Int))))], []⟩ _
  generalize zg_first : (by_ % (table.length : Int)) = first
  show Exs _ _ _ ⟨[some (.fr ((eL D.int) table)), some (.fr (D.int by_)), some (.fr (D.int first))], []⟩ _
  refine exs_one (ex_ret (ev_catN 100 (enc := D.int) (xs := (slcD table (some first) none)) (ys := (slcD table none (some first))) (ev_callTy (ds := [(eL D.int) (slcD table (some first) none)]) c_listL (ea_cons (ev_sliceT (enc := D.int) (xs := table) (by exact rfl) (ev_var 0 rfl (.inl rfl) rfl) (eo_some (ev_var 2 rfl (.inl rfl) rfl)) eo_none) ea_nil) (by exact rfl) T.n_list (by decide +kernel)) (ev_callTy (ds := [(eL D.int) (slcD table none (some first))]) c_listL (ea_cons (ev_sliceT (enc := D.int) (xs := table) (by exact rfl) (ev_var 0 rfl (.inl rfl) rfl) eo_none (eo_some (ev_var 2 rfl (.inl rfl) rfl))) ea_nil) (by exact rfl) T.n_list (by decide +kernel)) (by exact rfl) (by exact rfl) (by walk_at "sd") (by simp [names]) (by decide)) ?_)
  have efin : m_rotatedn table by_ = ((slcD table (some first) none) ++ (slcD table none (some first))) := by subst zg_first; simp only [m_rotatedn, not_true_eq_false, not_false_eq_true, ↓reduceIte]
  rw [efin] at zk
  exact zk 100 _ (by exact rfl)
def m_shortestn_l0 (table : List Int) (slots : Int) (lo0 : Int) (zs0 : Unit) (zy0 : Nat) : Except (List Int) (Unit) :=
  if (((slots % (lo0 + (zy0 : Int))) = (0 : Int)) ∧ ((m_repeated (slcD table none (some (lo0 + (zy0 : Int)))) (slots / (lo0 + (zy0 : Int)))) = table)) then .error (slcD table none (some (lo0 + (zy0 : Int)))) else .ok ()
def m_shortestn (table : List Int) : List Int :=
  match (runE (m_shortestn_l0 table (table.length : Int) (1 : Int)) (List.range ((table.length : Int) - (1 : Int)).toNat) ()) with | .error r => r | .ok zs0 => table
set_option hygiene false in
local macro_rules | `(tactic| walk_at "pre") => `(tactic| first | exact ⟨Nat.le_trans slc_len hpre.2, div_facts6 (by omega) hpre.2⟩ | fail)
theorem sc_shortestn : FnScope ["table", "slots", "part"] ["table"] (defScope s_shortestn) := ⟨rfl, rfl, rfl, by decide +kernel, rfl, by decide +kernel, by decide +kernel⟩
def sp_shortestn : SpN := fun zcs zL zKc => ∃ table : List Int, zcs = [.fr ((eL D.int) table)] ∧ zL = [] ∧ (0 < table.length ∧ table.length ≤ 600) ∧ ∀ zn zL', getL zn zL' = some (.fl ((m_shortestn table).map D.int)) → zKc (.ad zn) zL'
theorem ok_shortestn (T : TX P K mg) : FnOk P w K mg base CX0 2 T.a_shortestn T.d_shortestn ["table"] (SpOf K mg sp_shortestn) := by
  have O_repeated := ok_repeated (P := P) (w := w) (base := base) T
  refine T.F_shortestn.okN sc_shortestn (fun zcs zL zKc zh => by obtain ⟨table, rfl, _⟩ := zh; rfl) fun zcdv zA zout zst zH zE zB zcs zL zKc zhr zh => ?_
  obtain ⟨table, rfl, rfl, hpre, zk⟩ := zh
  have nd := sc_shortestn.nd
  have hSL := sizeLine_eq
  show Exs _ _ _ ⟨[some (.fr ((eL D.int) table)), none, none], []⟩ _
  refine exs_cons (ex_set 1 (ev_len (ln_L (xs := table) (enc := D.int) (by exact rfl)) (ev_var 0 rfl (.inl rfl) rfl) (by exact rfl) T.n_len) ?_ nd rfl (.inl rfl))
  show Exs _ _ _ ⟨[some (.fr ((eL D.int) table)), some (.fr (D.int (table.length : Int))), none], []⟩ _
  refine exs_cons (ex_forE (enc := (fun i : Nat => D.int ((1 : Int) + (i : Int)))) (fun (zs0 : Unit) => (⟨[some (.fr ((eL D.int) table)), some (.fr (D.int (table.length : Int))), none], []⟩ : Nz.S)) (m_shortestn_l0 table (table.length : Int) (1 : Int)) () (fun (zi0 : Nat) (zs0 : Unit) => True) (fun r c S' => ∃ zn, c = .ad zn ∧ getL zn S'.L = some (.fl (r.map D.int))) (src_range2 (ea_cons ev_int (ea_cons (ev_var 1 rfl (.inl rfl) rfl) ea_nil)) (by exact rfl) T.n_range (by walk_at "sd") (by walk_at "sd") (by walk_at "sd") (by walk_at "sd")) ⟨⟨.inr rfl, .inr rfl, .inl rfl, trivial⟩, rfl⟩ trivial ?_ ?_ ?_ PassesOwn.never rfl)
  · intro zi0 zy0 zs0 zhy0 zrun0 zq0
    skip
    refine ⟨⟨[some (.fr ((eL D.int) table)), some (.fr (D.int (table.length : Int))), some (.fr (D.int ((1 : Int) + (zy0 : Int))))], []⟩, (eg_name 2 nd rfl (.inl rfl)), ?_⟩
    refine exs_one (ex_ifP (bd_and bd_d bd_d) (Ew.et (ew_andP bd_d (et_cmp o_eqi (ev_bin (o_mod (by walk_at "sd")) (ev_var 1 rfl (.inl rfl) rfl) (ev_var 2 rfl (.inl rfl) rfl)) ev_int (nomark _)) (fun zhp => (ew_and1 (et_cmp (o_eqD (e := (eL D.int)) (x := (m_repeated (slcD table none (some ((1 : Int) + (zy0 : Int)))) ((table.length : Int) / ((1 : Int) + (zy0 : Int))))) (y := table) zhr.units (ee_L ee_int)) (ev_call (ds := [(eL D.int) (slcD table none (some ((1 : Int) + (zy0 : Int)))), D.int ((table.length : Int) / ((1 : Int) + (zy0 : Int)))]) (ds' := []) (dvs := []) (dfs := []) O_repeated (zhr.mono (by decide)) T.m_repeated T.k_repeated T.b_repeated .nil (fun _ => .nil) (ea_cons (ev_sliceT (enc := D.int) (xs := table) (by exact rfl) (ev_var 0 rfl (.inl rfl) rfl) eo_none (eo_some (ev_var 2 rfl (.inl rfl) rfl))) (ea_cons (ev_bin (o_div (by walk_at "sd") (by walk_at "sd")) (ev_var 1 rfl (.inl rfl) rfl) (ev_var 2 rfl (.inl rfl) rfl)) ea_nil)) (fun _ zkk => ⟨(slcD table none (some ((1 : Int) + (zy0 : Int)))), ((table.length : Int) / ((1 : Int) + (zy0 : Int))), rfl, rfl, (by walk_at "pre"), zkk⟩) (by exact rfl)) (ev_callTy (ds := [(eL D.int) table]) c_listL (ea_cons (ev_var 0 rfl (.inl rfl) rfl) ea_nil) (by exact rfl) T.n_list (by decide +kernel)) (nomark _)))))) (fun (zh1 : ((((table.length : Int) % ((1 : Int) + (zy0 : Int))) = (0 : Int)) ∧ ((m_repeated (slcD table none (some ((1 : Int) + (zy0 : Int)))) ((table.length : Int) / ((1 : Int) + (zy0 : Int)))) = table))) => ?_) (fun (zh1 : ¬ ((((table.length : Int) % ((1 : Int) + (zy0 : Int))) = (0 : Int)) ∧ ((m_repeated (slcD table none (some ((1 : Int) + (zy0 : Int)))) ((table.length : Int) / ((1 : Int) + (zy0 : Int)))) = table))) => ?_))
    · skip
      refine exs_one (ex_ret (ev_listN 100 (xs := ((slcD table none (some ((1 : Int) + (zy0 : Int))))).map D.int) (by exact rfl) (ev_sliceT (enc := D.int) (xs := table) (by exact rfl) (ev_var 0 rfl (.inl rfl) rfl) eo_none (eo_some (ev_var 2 rfl (.inl rfl) rfl))) (by simp [names]) (by decide) (by exact rfl) T.n_list) ?_)
      have est : (m_shortestn_l0 table (table.length : Int) (1 : Int)) zs0 zy0 = .error (slcD table none (some ((1 : Int) + (zy0 : Int)))) := by simp only [m_shortestn_l0, not_true_eq_false, not_false_eq_true, ↓reduceIte, ↓if_pos zh1]
      exact ⟨_, est, 100, rfl, by exact rfl⟩
    · skip
      refine exs_nil ?_
      have est : (m_shortestn_l0 table (table.length : Int) (1 : Int)) zs0 zy0 = .ok () := by simp only [m_shortestn_l0, not_true_eq_false, not_false_eq_true, ↓reduceIte, ↓if_neg zh1]
      exact ⟨_, est, ⟨⟨.inr rfl, .inr rfl, .inl rfl, trivial⟩, rfl⟩, trivial⟩
  · rintro zr zc zS zrun0 ⟨zn, rfl, zhL⟩
    skip
    have zh2 := zrun0
    have efin : m_shortestn table = zr := by simp only [m_shortestn, not_true_eq_false, not_false_eq_true, ↓reduceIte, ↓zh2]
    rw [efin] at zk
    exact zk _ _ zhL
  · intro zs0 zrun0 zq0
    have zh3 := zrun0
    show Exs _ _ _ ⟨[some (.fr ((eL D.int) table)), some (.fr (D.int (table.length : Int))), none], []⟩ _
    refine exs_one (ex_ret (ev_listN 101 (xs := (table).map D.int) (by exact rfl) (ev_var 0 rfl (.inl rfl) rfl) (by simp [names]) (by decide) (by exact rfl) T.n_list) ?_)
    have efin : m_shortestn table = table := by simp only [m_shortestn, not_true_eq_false, not_false_eq_true, ↓reduceIte, ↓zh3]
    rw [efin] at zk
    exact zk 101 _ (by exact rfl)
def m_joinedn (one : List Int) (other : List Int) : List Int :=
  ((((m_common one other).1).zip ((m_common one other).2)).map (fun zc2 : Int × Int => (zc2.1 + zc2.2)))
set_option hygiene false in
local macro_rules | `(tactic| walk_at "sd") => `(tactic| first | omega | (rw [List.length_zip]; exact Nat.le_trans (Nat.min_le_left _ _) (Nat.le_trans (com_len hpre.1 hpre.2.1 hpre.2.2.1 hpre.2.2.2) (by omega))) | fail)
theorem sc_joinedn : FnScope ["one", "other", "first", "second", "units", "more"] ["one", "other"] (defScope s_joinedn) := ⟨rfl, rfl, rfl, by decide +kernel, rfl, by decide +kernel, by decide +kernel⟩
def sp_joinedn : SpN := fun zcs zL zKc => ∃ one : List Int, ∃ other : List Int, zcs = [.fr ((eL D.int) one), .fr ((eL D.int) other)] ∧ zL = [] ∧ (0 < one.length ∧ one.length ≤ 24 ∧ 0 < other.length ∧ other.length ≤ 24) ∧ ∀ zn zL', getL zn zL' = some (.fl ((m_joinedn one other).map D.int)) → zKc (.ad zn) zL'
theorem ok_joinedn (T : TX P K mg) : FnOk P w K mg base CX0 3 T.a_joinedn T.d_joinedn ["one", "other"] (SpOf K mg sp_joinedn) := by
  have O_common := ok_common (P := P) (w := w) (base := base) T
  refine T.F_joinedn.okN sc_joinedn (fun zcs zL zKc zh => by obtain ⟨one, other, rfl, _⟩ := zh; rfl) fun zcdv zA zout zst zH zE zB zcs zL zKc zhr zh => ?_
  obtain ⟨one, other, rfl, rfl, hpre, zk⟩ := zh
  have nd := sc_joinedn.nd
  have hSL := sizeLine_eq
  show Exs _ _ _ ⟨[some (.fr ((eL D.int) one)), some (.fr ((eL D.int) other)), none, none, none, none], []⟩ _
  refine exs_cons (ex_asg (ev_call (ds := [(eL D.int) one, (eL D.int) other]) (ds' := []) (dvs := []) (dfs := []) O_common (zhr.mono (by decide)) T.m_common T.k_common T.b_common .nil (fun _ => .nil) (ea_cons (ev_var 0 rfl (.inl rfl) rfl) (ea_cons (ev_var 1 rfl (.inl rfl) rfl) ea_nil)) (fun _ zkk => ⟨one, other, rfl, rfl, (by walk_at "pre"), zkk⟩) (by exact rfl)) (eg_tup rfl (egs_cons (eg_name 2 nd rfl (.inl rfl)) (egs_cons (eg_name 3 nd rfl (.inl rfl)) egs_nil))) ?_)
  show Exs _ _ _ ⟨[some (.fr ((eL D.int) one)), some (.fr ((eL D.int) other)), some (.fr ((eL D.int) ((m_common one other).1))), some (.fr ((eL D.int) ((m_common one other).2))), none, none], []⟩ _
  refine exs_one (ex_ret (ev_lcML (enc2 := D.int) 100 (fun zc1 : Int × Int => (zc1.1 + zc1.2)) _ rfl nd (blkOk_by (N := ["one", "other", "first", "second", "units", "more"]) (sc := defScope s_joinedn) (own := [(("units" : Str), 4), (("more" : Str), 5)]) (by decide +kernel)) (src_zip (enc := D.int) (encB := D.int) (xs := (m_common one other).1) (ys := (m_common one other).2) (ea_cons (ev_var 2 rfl (.inl rfl) rfl) (ea_cons (ev_var 3 rfl (.inl rfl) rfl) ea_nil)) (by exact rfl) T.n_zip) (by simp [names]) (by decide) (by walk_at "sd") (fun _ zc1 _ zhyzc1 _ _ _ _ _ => (eg_tupC rfl (egs_consC (eg_nameC 4 nd rfl (.inl rfl) (by decide) (.inr rfl)) (egs_consC (eg_nameC 5 nd rfl (.inl rfl) (by decide) (.inr rfl)) egs_nilC)))) (fun _ zc1 _ zhyzc1 _ _ _ _ _ => (ev_bin o_add (ev_var 4 rfl (.inl rfl) rfl) (ev_var 5 rfl (.inl rfl) rfl)))) ?_)
  have efin : m_joinedn one other = ((((m_common one other).1).zip ((m_common one other).2)).map (fun zc1 : Int × Int => (zc1.1 + zc1.2))) := by simp only [m_joinedn, not_true_eq_false, not_false_eq_true, ↓reduceIte]
  rw [efin] at zk
  exact zk 100 _ (by exact rfl)
def m_are_alike (one : List Int) (other : List Int) : Bool :=
  (decide ((m_shortest one) = (m_shortest other)))
theorem sc_are_alike : FnScope ["one", "other"] ["one", "other"] (defScope s_are_alike) := ⟨rfl, rfl, rfl, by decide +kernel, rfl, by decide +kernel, by decide +kernel⟩
def sp_are_alike : SpN := fun zcs zL zKc => ∃ one : List Int, ∃ other : List Int, zcs = [.fr ((eL D.int) one), .fr ((eL D.int) other)] ∧ zL = [] ∧ (0 < one.length ∧ one.length ≤ 600 ∧ 0 < other.length ∧ other.length ≤ 600) ∧ ∀ zL', zKc (.fr (D.bl (m_are_alike one other))) zL'
theorem ok_are_alike (T : TX P K mg) : FnOk P w K mg base CX0 3 T.a_are_alike T.d_are_alike ["one", "other"] (SpOf K mg sp_are_alike) := by
  have O_shortest := ok_shortest (P := P) (w := w) (base := base) T
  refine T.F_are_alike.okN sc_are_alike (fun zcs zL zKc zh => by obtain ⟨one, other, rfl, _⟩ := zh; rfl) fun zcdv zA zout zst zH zE zB zcs zL zKc zhr zh => ?_
  obtain ⟨one, other, rfl, rfl, hpre, zk⟩ := zh
  have nd := sc_are_alike.nd
  have hSL := sizeLine_eq
  show Exs _ _ _ ⟨[some (.fr ((eL D.int) one)), some (.fr ((eL D.int) other))], []⟩ _
  refine exs_one (ex_ret (ev_cmp (o_eqD (e := (eL D.int)) (x := (m_shortest one)) (y := (m_shortest other)) zhr.units (ee_L ee_int)) (ev_call (ds := [(eL D.int) one]) (ds' := []) (dvs := []) (dfs := []) O_shortest (zhr.mono (by decide)) T.m_shortest T.k_shortest T.b_shortest .nil (fun _ => .nil) (ea_cons (ev_var 0 rfl (.inl rfl) rfl) ea_nil) (fun _ zkk => ⟨one, rfl, rfl, (by walk_at "pre"), zkk⟩) (by exact rfl)) (ev_call (ds := [(eL D.int) other]) (ds' := []) (dvs := []) (dfs := []) O_shortest (zhr.mono (by decide)) T.m_shortest T.k_shortest T.b_shortest .nil (fun _ => .nil) (ea_cons (ev_var 1 rfl (.inl rfl) rfl) ea_nil) (fun _ zkk => ⟨other, rfl, rfl, (by walk_at "pre"), zkk⟩) (by exact rfl)) (nomark _)) ?_)
  have efin : m_are_alike one other = (decide ((m_shortest one) = (m_shortest other))) := by simp only [m_are_alike, not_true_eq_false, not_false_eq_true, ↓reduceIte]
  rw [efin] at zk
  exact zk _
def m_are_alikeu (one : List Int) (other : List Int) : Bool :=
  (decide ((m_shortestu one) = (m_shortest other)))
theorem sc_are_alikeu : FnScope ["one", "other"] ["one", "other"] (defScope s_are_alikeu) := ⟨rfl, rfl, rfl, by decide +kernel, rfl, by decide +kernel, by decide +kernel⟩
def sp_are_alikeu : SpN := fun zcs zL zKc => ∃ one : List Int, ∃ other : List Int, zcs = [.fr ((eU D.int) one), .fr ((eL D.int) other)] ∧ zL = [] ∧ (0 < one.length ∧ one.length ≤ 600 ∧ 0 < other.length ∧ other.length ≤ 600) ∧ ∀ zL', zKc (.fr (D.bl (m_are_alikeu one other))) zL'
theorem ok_are_alikeu (T : TX P K mg) : FnOk P w K mg base CX0 3 T.a_are_alikeu T.d_are_alikeu ["one", "other"] (SpOf K mg sp_are_alikeu) := by
  have O_shortest := ok_shortest (P := P) (w := w) (base := base) T
  have O_shortestu := ok_shortestu (P := P) (w := w) (base := base) T
  refine T.F_are_alikeu.okN sc_are_alikeu (fun zcs zL zKc zh => by obtain ⟨one, other, rfl, _⟩ := zh; rfl) fun zcdv zA zout zst zH zE zB zcs zL zKc zhr zh => ?_
  obtain ⟨one, other, rfl, rfl, hpre, zk⟩ := zh
  have nd := sc_are_alikeu.nd
  have hSL := sizeLine_eq
  show Exs _ _ _ ⟨[some (.fr ((eU D.int) one)), some (.fr ((eL D.int) other))], []⟩ _
  refine exs_one (ex_ret (ev_cmp (o_eqD (e := (eL D.int)) (x := (m_shortestu one)) (y := (m_shortest other)) zhr.units (ee_L ee_int)) (ev_call (ds := [(eU D.int) one]) (ds' := []) (dvs := []) (dfs := []) O_shortestu (zhr.mono (by decide)) T.m_shortestu T.k_shortestu T.b_shortestu .nil (fun _ => .nil) (ea_cons (ev_var 0 rfl (.inl rfl) rfl) ea_nil) (fun _ zkk => ⟨one, rfl, rfl, (by walk_at "pre"), zkk⟩) (by exact rfl)) (ev_call (ds := [(eL D.int) other]) (ds' := []) (dvs := []) (dfs := []) O_shortest (zhr.mono (by decide)) T.m_shortest T.k_shortest T.b_shortest .nil (fun _ => .nil) (ea_cons (ev_var 1 rfl (.inl rfl) rfl) ea_nil) (fun _ zkk => ⟨other, rfl, rfl, (by walk_at "pre"), zkk⟩) (by exact rfl)) (nomark _)) ?_)
  have efin : m_are_alikeu one other = (decide ((m_shortestu one) = (m_shortest other))) := by simp only [m_are_alikeu, not_true_eq_false, not_false_eq_true, ↓reduceIte]
  rw [efin] at zk
  exact zk _
def m_least_rotation (table : List Int) : Int :=
  let rotations1 : List (List Int) := ((List.range ((table.length : Int)).toNat).map (fun zc2 : Nat => (m_rotated table ((0 : Int) + (zc2 : Int)))))
  ((rotations1.idxOf (minB (ltList ltI) rotations1) : Nat) : Int)
theorem minB_mem {τ : Type} [Inhabited τ] {lt : τ → τ → Bool} : ∀ {xs : List τ}, xs ≠ [] → minB lt xs ∈ xs
  | [], h => absurd rfl h
  | x :: xs, _ => by
    show xs.foldl (fun a y => if lt y a then y else a) x ∈ x :: xs
    have key : ∀ (ys : List τ) (a : τ) (zs : List τ), a ∈ zs → (∀ y ∈ ys, y ∈ zs) → ys.foldl (fun a y => if lt y a then y else a) a ∈ zs := by
      intro ys
      induction ys with
      | nil => intro a zs h _; exact h
      | cons y ys ih =>
        intro a zs h hy
        rw [List.foldl_cons]
        refine ih _ zs ?_ fun z hz => hy z (List.mem_cons_of_mem _ hz)
        split
        · exact hy y List.mem_cons_self
        · exact h
    exact key xs x _ List.mem_cons_self fun y hy => List.mem_cons_of_mem _ hy
set_option hygiene false in
local macro_rules | `(tactic| walk_at "mem") => `(tactic| first | exact minB_mem hrl | fail)
set_option hygiene false in
local macro_rules | `(tactic| walk_at "ne") => `(tactic| first | exact hrl | fail)
theorem sc_least_rotation : FnScope ["table", "rotations", "by"] ["table"] (defScope s_least_rotation) := ⟨rfl, rfl, rfl, by decide +kernel, rfl, by decide +kernel, by decide +kernel⟩
def sp_least_rotation : SpN := fun zcs zL zKc => ∃ table : List Int, zcs = [.fr ((eL D.int) table)] ∧ zL = [] ∧ (0 < table.length ∧ table.length ≤ 600) ∧ ∀ zL', zKc (.fr (D.int (m_least_rotation table))) zL'
theorem ok_least_rotation (T : TX P K mg) : FnOk P w K mg base CX0 2 T.a_least_rotation T.d_least_rotation ["table"] (SpOf K mg sp_least_rotation) := by
  have O_rotated := ok_rotated (P := P) (w := w) (base := base) T
  refine T.F_least_rotation.okN sc_least_rotation (fun zcs zL zKc zh => by obtain ⟨table, rfl, _⟩ := zh; rfl) fun zcdv zA zout zst zH zE zB zcs zL zKc zhr zh => ?_
  obtain ⟨table, rfl, rfl, hpre, zk⟩ := zh
  have nd := sc_least_rotation.nd
  have hSL := sizeLine_eq
  show Exs _ _ _ ⟨[some (.fr ((eL D.int) table)), none, none], []⟩ _
  refine exs_cons (ex_setLcM 1 (enc2 := (eL D.int)) 199 (fun zc1 : Nat => (m_rotated table ((0 : Int) + (zc1 : Int)))) _ rfl nd rfl rfl (sw_true rfl rfl rfl (by decide +kernel)) (blkOk_by (N := ["table", "rotations", "by"]) (sc := defScope s_least_rotation) (own := [(("by" : Str), 2)]) (by decide +kernel)) (src_range1 (ea_cons (ev_len (ln_L (xs := table) (enc := D.int) (by exact rfl)) (ev_var 0 rfl (.inr (.inl rfl)) rfl) (by exact rfl) T.n_len) ea_nil) (by exact rfl) T.n_range (by walk_at "sd") (by walk_at "sd")) (by simp [names]) (by decide) (by walk_at "sd") (fun _ zc1 _ zhyzc1 _ _ _ _ _ => (eg_nameC 2 nd rfl (.inl rfl) (by decide) (.inr rfl))) (fun _ zc1 _ zhyzc1 _ _ _ _ _ => (ev_call (ds := [(eL D.int) table, D.int ((0 : Int) + (zc1 : Int))]) (ds' := []) (dvs := []) (dfs := []) O_rotated (zhr.mono (by decide)) T.m_rotated T.k_rotated T.b_rotated .nil (fun _ => .nil) (ea_cons (ev_var 0 rfl (.inr (.inl rfl)) rfl) (ea_cons (ev_var 2 rfl (.inl rfl) rfl) ea_nil)) (fun _ zkk => ⟨table, ((0 : Int) + (zc1 : Int)), rfl, rfl, (by walk_at "pre"), zkk⟩) (by exact rfl))) ?_)
  show Exs _ _ _ ⟨[some (.fr ((eL D.int) table)), some (.fr ((eL (eL D.int)) ((List.range ((table.length : Int)).toNat).map (fun zc1 : Nat => (m_rotated table ((0 : Int) + (zc1 : Int))))))), none], []⟩ _
  generalize zg_rotations : ((List.range ((table.length : Int)).toNat).map (fun zc1 : Nat => (m_rotated table ((0 : Int) + (zc1 : Int))))) = rotations
  show Exs _ _ _ ⟨[some (.fr ((eL D.int) table)), some (.fr ((eL (eL D.int)) rotations)), none], []⟩ _
  have hrl : rotations ≠ [] := by (rw [← zg_rotations]; intro q; have q2 := congrArg List.length q; simp only [List.length_map, List.length_range, List.length_nil] at q2; omega)
  refine exs_one (ex_ret (ev_indexD (ca := .fr ((eL (eL D.int)) rotations)) (ns := rotations) (i := (minB (ltList ltI) rotations)) zhr.units66 (ee_L ee_int) lay_I (by walk_at "mem") (by exact rfl) (ev_var 1 rfl (.inl rfl) rfl) (ev_callB (ds := [(eL (eL D.int)) rotations]) (c_minD (xs := rotations) rfl zhr.units66 (oe_L oe_int) (by walk_at "ne")) (ea_cons (ev_var 1 rfl (.inl rfl) rfl) ea_nil) (by exact rfl) T.n_min (by decide +kernel))) ?_)
  have efin : m_least_rotation table = ((rotations.idxOf (minB (ltList ltI) rotations) : Nat) : Int) := by subst zg_rotations; simp only [m_least_rotation, not_true_eq_false, not_false_eq_true, ↓reduceIte]
  rw [efin] at zk
  exact zk _
def m_first_rotation (table : List Int) : List Int :=
  (m_rotated table (m_least_rotation table))
theorem sc_first_rotation : FnScope ["table"] ["table"] (defScope s_first_rotation) := ⟨rfl, rfl, rfl, by decide +kernel, rfl, by decide +kernel, by decide +kernel⟩
def sp_first_rotation : SpN := fun zcs zL zKc => ∃ table : List Int, zcs = [.fr ((eL D.int) table)] ∧ zL = [] ∧ (0 < table.length ∧ table.length ≤ 600) ∧ ∀ zL', zKc (.fr ((eL D.int) (m_first_rotation table))) zL'
theorem ok_first_rotation (T : TX P K mg) : FnOk P w K mg base CX0 3 T.a_first_rotation T.d_first_rotation ["table"] (SpOf K mg sp_first_rotation) := by
  have O_least_rotation := ok_least_rotation (P := P) (w := w) (base := base) T
  have O_rotated := ok_rotated (P := P) (w := w) (base := base) T
  refine T.F_first_rotation.okN sc_first_rotation (fun zcs zL zKc zh => by obtain ⟨table, rfl, _⟩ := zh; rfl) fun zcdv zA zout zst zH zE zB zcs zL zKc zhr zh => ?_
  obtain ⟨table, rfl, rfl, hpre, zk⟩ := zh
  have nd := sc_first_rotation.nd
  have hSL := sizeLine_eq
  show Exs _ _ _ ⟨[some (.fr ((eL D.int) table))], []⟩ _
  refine exs_one (ex_ret (ev_call (ds := [(eL D.int) table, D.int (m_least_rotation table)]) (ds' := []) (dvs := []) (dfs := []) O_rotated (zhr.mono (by decide)) T.m_rotated T.k_rotated T.b_rotated .nil (fun _ => .nil) (ea_cons (ev_var 0 rfl (.inl rfl) rfl) (ea_cons (ev_call (ds := [(eL D.int) table]) (ds' := []) (dvs := []) (dfs := []) O_least_rotation (zhr.mono (by decide)) T.m_least_rotation T.k_least_rotation T.b_least_rotation .nil (fun _ => .nil) (ea_cons (ev_var 0 rfl (.inl rfl) rfl) ea_nil) (fun _ zkk => ⟨table, rfl, rfl, (by walk_at "pre"), zkk⟩) (by exact rfl)) ea_nil)) (fun _ zkk => ⟨table, (m_least_rotation table), rfl, rfl, (by walk_at "pre"), zkk⟩) (by exact rfl)) ?_)
  have efin : m_first_rotation table = (m_rotated table (m_least_rotation table)) := by simp only [m_first_rotation, not_true_eq_false, not_false_eq_true, ↓reduceIte]
  rw [efin] at zk
  exact zk _
def m_are_rotations (one : List Int) (other : List Int) : Bool :=
  (decide ((m_first_rotation (m_shortest one)) = (m_first_rotation (m_shortest other))))
set_option hygiene false in
local macro_rules | `(tactic| walk_at "pre") => `(tactic| first | exact ⟨by omega, by omega⟩ | (have q9 := short_len hpre.1; exact ⟨q9.1, by omega⟩) | (have q9 := short_len hpre.2.2.1; exact ⟨q9.1, by omega⟩) | fail)
theorem sc_are_rotations : FnScope ["one", "other"] ["one", "other"] (defScope s_are_rotations) := ⟨rfl, rfl, rfl, by decide +kernel, rfl, by decide +kernel, by decide +kernel⟩
def sp_are_rotations : SpN := fun zcs zL zKc => ∃ one : List Int, ∃ other : List Int, zcs = [.fr ((eL D.int) one), .fr ((eL D.int) other)] ∧ zL = [] ∧ (0 < one.length ∧ one.length ≤ 600 ∧ 0 < other.length ∧ other.length ≤ 600) ∧ ∀ zL', zKc (.fr (D.bl (m_are_rotations one other))) zL'
theorem ok_are_rotations (T : TX P K mg) : FnOk P w K mg base CX0 4 T.a_are_rotations T.d_are_rotations ["one", "other"] (SpOf K mg sp_are_rotations) := by
  have O_first_rotation := ok_first_rotation (P := P) (w := w) (base := base) T
  have O_shortest := ok_shortest (P := P) (w := w) (base := base) T
  refine T.F_are_rotations.okN sc_are_rotations (fun zcs zL zKc zh => by obtain ⟨one, other, rfl, _⟩ := zh; rfl) fun zcdv zA zout zst zH zE zB zcs zL zKc zhr zh => ?_
  obtain ⟨one, other, rfl, rfl, hpre, zk⟩ := zh
  have nd := sc_are_rotations.nd
  have hSL := sizeLine_eq
  show Exs _ _ _ ⟨[some (.fr ((eL D.int) one)), some (.fr ((eL D.int) other))], []⟩ _
  refine exs_one (ex_ret (ev_cmp (o_eqD (e := (eL D.int)) (x := (m_first_rotation (m_shortest one))) (y := (m_first_rotation (m_shortest other))) zhr.units (ee_L ee_int)) (ev_call (ds := [(eL D.int) (m_shortest one)]) (ds' := []) (dvs := []) (dfs := []) O_first_rotation (zhr.mono (by decide)) T.m_first_rotation T.k_first_rotation T.b_first_rotation .nil (fun _ => .nil) (ea_cons (ev_call (ds := [(eL D.int) one]) (ds' := []) (dvs := []) (dfs := []) O_shortest (zhr.mono (by decide)) T.m_shortest T.k_shortest T.b_shortest .nil (fun _ => .nil) (ea_cons (ev_var 0 rfl (.inl rfl) rfl) ea_nil) (fun _ zkk => ⟨one, rfl, rfl, (by walk_at "pre"), zkk⟩) (by exact rfl)) ea_nil) (fun _ zkk => ⟨(m_shortest one), rfl, rfl, (by walk_at "pre"), zkk⟩) (by exact rfl)) (ev_call (ds := [(eL D.int) (m_shortest other)]) (ds' := []) (dvs := []) (dfs := []) O_first_rotation (zhr.mono (by decide)) T.m_first_rotation T.k_first_rotation T.b_first_rotation .nil (fun _ => .nil) (ea_cons (ev_call (ds := [(eL D.int) other]) (ds' := []) (dvs := []) (dfs := []) O_shortest (zhr.mono (by decide)) T.m_shortest T.k_shortest T.b_shortest .nil (fun _ => .nil) (ea_cons (ev_var 1 rfl (.inl rfl) rfl) ea_nil) (fun _ zkk => ⟨other, rfl, rfl, (by walk_at "pre"), zkk⟩) (by exact rfl)) ea_nil) (fun _ zkk => ⟨(m_shortest other), rfl, rfl, (by walk_at "pre"), zkk⟩) (by exact rfl)) (nomark _)) ?_)
  have efin : m_are_rotations one other = (decide ((m_first_rotation (m_shortest one)) = (m_first_rotation (m_shortest other)))) := by simp only [m_are_rotations, not_true_eq_false, not_false_eq_true, ↓reduceIte]
  rw [efin] at zk
  exact zk _
def m_law_slot (table : List Int) (slot : Int) : Int :=
  (table.getD ((slot % (table.length : Int))).toNat default)
theorem sc_law_slot : FnScope ["table", "slot"] ["table", "slot"] (defScope s_law_slot) := ⟨rfl, rfl, rfl, by decide +kernel, rfl, by decide +kernel, by decide +kernel⟩
def sp_law_slot : SpN := fun zcs zL zKc => ∃ table : List Int, ∃ slot : Int, zcs = [.fr ((eL D.int) table), .fr (D.int slot)] ∧ zL = [] ∧ (0 < table.length ∧ table.length ≤ 1001) ∧ ∀ zL', zKc (.fr (D.int (m_law_slot table slot))) zL'
theorem ok_law_slot (T : TX P K mg) : FnOk P w K mg base CX0 1 T.a_law_slot T.d_law_slot ["table", "slot"] (SpOf K mg sp_law_slot) := by
  refine T.F_law_slot.okN sc_law_slot (fun zcs zL zKc zh => by obtain ⟨table, slot, rfl, _⟩ := zh; rfl) fun zcdv zA zout zst zH zE zB zcs zL zKc zhr zh => ?_
  obtain ⟨table, slot, rfl, rfl, hpre, zk⟩ := zh
  have nd := sc_law_slot.nd
  have hSL := sizeLine_eq
  have hT : (0 : Int) < (table.length : Int) := by omega
  have hm1 := Int.emod_nonneg slot (show (table.length : Int) ≠ 0 by omega)
  have hm2 := Int.emod_lt_of_pos slot hT
  show Exs _ _ _ ⟨[some (.fr ((eL D.int) table)), some (.fr (D.int slot))], []⟩ _
  refine exs_one (ex_ret (ev_ix (ix_L (xs := table) (enc := D.int) (by exact rfl) (by walk_at "sd") (by walk_at "sd")) (ev_var 0 rfl (.inl rfl) rfl) (ev_bin (o_mod (by walk_at "sd")) (ev_var 1 rfl (.inl rfl) rfl) (ev_len (ln_L (xs := table) (enc := D.int) (by exact rfl)) (ev_var 0 rfl (.inl rfl) rfl) (by exact rfl) T.n_len))) ?_)
  have efin : m_law_slot table slot = (table.getD ((slot % (table.length : Int))).toNat default) := by simp only [m_law_slot, not_true_eq_false, not_false_eq_true, ↓reduceIte]
  rw [efin] at zk
  exact zk _
def m_law_is_table_l0 (actual : List Int) (due : List Int) (zs0 : Unit) (zy0 : Nat) : Except Bool (Unit) :=
  if ((¬ (true = true)) ∨ ((false = true) ∨ (¬ ((actual.getD (((0 : Int) + (zy0 : Int))).toNat default) = (due.getD (((0 : Int) + (zy0 : Int))).toNat default))))) then .error false else .ok ()
def m_law_is_table (actual : List Int) (due : List Int) : Bool :=
  if ((¬ (true = true)) ∨ (¬ ((actual.length : Int) = (due.length : Int)))) then false else match (runE (m_law_is_table_l0 actual due) (List.range ((due.length : Int)).toNat) ()) with | .error r => r | .ok zs0 => true
theorem sc_law_is_table : FnScope ["actual", "due", "k"] ["actual", "due"] (defScope s_law_is_table) := ⟨rfl, rfl, rfl, by decide +kernel, rfl, by decide +kernel, by decide +kernel⟩
def sp_law_is_table : SpN := fun zcs zL zKc => ∃ actual : List Int, ∃ due : List Int, zcs = [.fr ((eL D.int) actual), .fr ((eL D.int) due)] ∧ zL = [] ∧ (actual.length ≤ 30000 ∧ due.length ≤ 30000) ∧ ∀ zL', zKc (.fr (D.bl (m_law_is_table actual due))) zL'
theorem ok_law_is_table (T : TX P K mg) : FnOk P w K mg base CX0 1 T.a_law_is_table T.d_law_is_table ["actual", "due"] (SpOf K mg sp_law_is_table) := by
  refine T.F_law_is_table.okN sc_law_is_table (fun zcs zL zKc zh => by obtain ⟨actual, due, rfl, _⟩ := zh; rfl) fun zcdv zA zout zst zH zE zB zcs zL zKc zhr zh => ?_
  obtain ⟨actual, due, rfl, rfl, hpre, zk⟩ := zh
  have nd := sc_law_is_table.nd
  have hSL := sizeLine_eq
  show Exs _ _ _ ⟨[some (.fr ((eL D.int) actual)), some (.fr ((eL D.int) due)), none], []⟩ _
  refine exs_cons (ex_ifP (bd_or (bd_not Iff.rfl) bd_n) (Ew.et (ew_orP (bd_not Iff.rfl) (et_not (et_val (ev_isi (T := "list") (b := true) (ev_var 0 rfl (.inl rfl) rfl) rfl (by decide) (by exact rfl) T.n_isinstance (by exact rfl) T.n_list (by decide +kernel)))) (fun zhp => (ew_or1 (et_cmp o_nei (ev_len (ln_L (xs := actual) (enc := D.int) (by exact rfl)) (ev_var 0 rfl (.inl rfl) rfl) (by exact rfl) T.n_len) (ev_len (ln_L (xs := due) (enc := D.int) (by exact rfl)) (ev_var 1 rfl (.inl rfl) rfl) (by exact rfl) T.n_len) (nomark _)))))) (fun (zh1 : ((¬ (true = true)) ∨ (¬ ((actual.length : Int) = (due.length : Int))))) => ?_) (fun (zh1 : ¬ ((¬ (true = true)) ∨ (¬ ((actual.length : Int) = (due.length : Int))))) => ?_))
  · skip
    refine exs_one (ex_ret ev_bl ?_)
    have efin : m_law_is_table actual due = false := by simp only [m_law_is_table, not_true_eq_false, not_false_eq_true, ↓reduceIte, ↓if_pos zh1]
    rw [efin] at zk
    exact zk _
  · skip
    refine exs_nil ?_
    show Exs _ _ _ ⟨[some (.fr ((eL D.int) actual)), some (.fr ((eL D.int) due)), none], []⟩ _
    refine exs_cons (ex_forE (enc := (fun i : Nat => D.int ((0 : Int) + (i : Int)))) (fun (zs0 : Unit) => (⟨[some (.fr ((eL D.int) actual)), some (.fr ((eL D.int) due)), none], []⟩ : Nz.S)) (m_law_is_table_l0 actual due) () (fun (zi0 : Nat) (zs0 : Unit) => True) (fun r c S' => c = .fr (D.bl r) ∧ True) (src_range1 (ea_cons (ev_len (ln_L (xs := due) (enc := D.int) (by exact rfl)) (ev_var 1 rfl (.inl rfl) rfl) (by exact rfl) T.n_len) ea_nil) (by exact rfl) T.n_range (by walk_at "sd") (by walk_at "sd")) ⟨⟨.inr rfl, .inr rfl, .inl rfl, trivial⟩, rfl⟩ trivial ?_ ?_ ?_ PassesOwn.never rfl)
    · intro zi0 zy0 zs0 zhy0 zrun0 zq0
      skip
      refine ⟨⟨[some (.fr ((eL D.int) actual)), some (.fr ((eL D.int) due)), some (.fr (D.int ((0 : Int) + (zy0 : Int))))], []⟩, (eg_name 2 nd rfl (.inl rfl)), ?_⟩
      refine exs_one (ex_ifP (bd_or (bd_not Iff.rfl) (bd_or Iff.rfl bd_n)) (Ew.et (ew_orP (bd_not Iff.rfl) (et_not (et_val (ev_isi (T := "int") (b := true) (ev_ix (ix_L (xs := actual) (enc := D.int) (by exact rfl) (by walk_at "sd") (by walk_at "sd")) (ev_var 0 rfl (.inl rfl) rfl) (ev_var 2 rfl (.inl rfl) rfl)) rfl (by decide) (by exact rfl) T.n_isinstance (by exact rfl) T.n_int (by decide +kernel)))) (fun zhp => (ew_orP Iff.rfl (et_val (ev_isi (T := "bool") (b := false) (ev_ix (ix_L (xs := actual) (enc := D.int) (by exact rfl) (by walk_at "sd") (by walk_at "sd")) (ev_var 0 rfl (.inl rfl) rfl) (ev_var 2 rfl (.inl rfl) rfl)) rfl (by decide) (by exact rfl) T.n_isinstance (by exact rfl) T.n_bool (by decide +kernel))) (fun zhp => (ew_or1 (et_cmp o_nei (ev_ix (ix_L (xs := actual) (enc := D.int) (by exact rfl) (by walk_at "sd") (by walk_at "sd")) (ev_var 0 rfl (.inl rfl) rfl) (ev_var 2 rfl (.inl rfl) rfl)) (ev_ix (ix_L (xs := due) (enc := D.int) (by exact rfl) (by walk_at "sd") (by walk_at "sd")) (ev_var 1 rfl (.inl rfl) rfl) (ev_var 2 rfl (.inl rfl) rfl)) (nomark _)))))))) (fun (zh2 : ((¬ (true = true)) ∨ ((false = true) ∨ (¬ ((actual.getD (((0 : Int) + (zy0 : Int))).toNat default) = (due.getD (((0 : Int) + (zy0 : Int))).toNat default)))))) => ?_) (fun (zh2 : ¬ ((¬ (true = true)) ∨ ((false = true) ∨ (¬ ((actual.getD (((0 : Int) + (zy0 : Int))).toNat default) = (due.getD (((0 : Int) + (zy0 : Int))).toNat default)))))) => ?_))
      · skip
        refine exs_one (ex_ret ev_bl ?_)
        have est : (m_law_is_table_l0 actual due) zs0 zy0 = .error false := by simp only [m_law_is_table_l0, not_true_eq_false, not_false_eq_true, ↓reduceIte, ↓if_pos zh2]
        exact ⟨_, est, rfl, trivial⟩
      · skip
        refine exs_nil ?_
        have est : (m_law_is_table_l0 actual due) zs0 zy0 = .ok () := by simp only [m_law_is_table_l0, not_true_eq_false, not_false_eq_true, ↓reduceIte, ↓if_neg zh2]
        exact ⟨_, est, ⟨⟨.inr rfl, .inr rfl, .inl rfl, trivial⟩, rfl⟩, trivial⟩
    · rintro zr zc zS zrun0 ⟨rfl, zhL⟩
      skip
      have zh3 := zrun0
      have efin : m_law_is_table actual due = zr := by simp only [m_law_is_table, not_true_eq_false, not_false_eq_true, ↓reduceIte, ↓if_neg zh1, ↓zh3]
      rw [efin] at zk
      exact zk _
    · intro zs0 zrun0 zq0
      have zh4 := zrun0
      show Exs _ _ _ ⟨[some (.fr ((eL D.int) actual)), some (.fr ((eL D.int) due)), none], []⟩ _
      refine exs_one (ex_ret ev_bl ?_)
      have efin : m_law_is_table actual due = true := by simp only [m_law_is_table, not_true_eq_false, not_false_eq_true, ↓reduceIte, ↓if_neg zh1, ↓zh4]
      rw [efin] at zk
      exact zk _
def m_law_alike_l0 (one : List Int) (other : List Int) (by_ : Int) (zs0 : Unit) (zy0 : Nat) : Except Bool (Unit) :=
  if (¬ ((m_law_slot one (((0 : Int) + (zy0 : Int)) + by_)) = (m_law_slot other ((0 : Int) + (zy0 : Int))))) then .error false else .ok ()
def m_law_alike (one : List Int) (other : List Int) (by_ : Int) : Bool :=
  match (runE (m_law_alike_l0 one other by_) (List.range ((150 : Int)).toNat) ()) with | .error r => r | .ok zs0 => true
theorem sc_law_alike : FnScope ["one", "other", "by", "slot"] ["one", "other", "by"] (defScope s_law_alike) := ⟨rfl, rfl, rfl, by decide +kernel, rfl, by decide +kernel, by decide +kernel⟩
def sp_law_alike : SpN := fun zcs zL zKc => ∃ one : List Int, ∃ other : List Int, ∃ by_ : Int, zcs = [.fr ((eL D.int) one), .fr ((eL D.int) other), .fr (D.int by_)] ∧ zL = [] ∧ (0 < one.length ∧ one.length ≤ 600 ∧ 0 < other.length ∧ other.length ≤ 600) ∧ ∀ zL', zKc (.fr (D.bl (m_law_alike one other by_))) zL'
theorem ok_law_alike (T : TX P K mg) : FnOk P w K mg base CX0 2 T.a_law_alike T.d_law_alike ["one", "other", "by"] (SpOf K mg sp_law_alike) := by
  have O_law_slot := ok_law_slot (P := P) (w := w) (base := base) T
  refine T.F_law_alike.okN sc_law_alike (fun zcs zL zKc zh => by obtain ⟨one, other, by_, rfl, _⟩ := zh; rfl) fun zcdv zA zout zst zH zE zB zcs zL zKc zhr zh => ?_
  obtain ⟨one, other, by_, rfl, rfl, hpre, zk⟩ := zh
  have nd := sc_law_alike.nd
  have hSL := sizeLine_eq
  show Exs _ _ _ ⟨[some (.fr ((eL D.int) one)), some (.fr ((eL D.int) other)), some (.fr (D.int by_)), none], []⟩ _
  refine exs_cons (ex_forE (enc := (fun i : Nat => D.int ((0 : Int) + (i : Int)))) (fun (zs0 : Unit) => (⟨[some (.fr ((eL D.int) one)), some (.fr ((eL D.int) other)), some (.fr (D.int by_)), none], []⟩ : Nz.S)) (m_law_alike_l0 one other by_) () (fun (zi0 : Nat) (zs0 : Unit) => True) (fun r c S' => c = .fr (D.bl r) ∧ True) (src_range1 (ea_cons ev_int ea_nil) (by exact rfl) T.n_range (by walk_at "sd") (by walk_at "sd")) ⟨⟨.inr rfl, .inr rfl, .inr rfl, .inl rfl, trivial⟩, rfl⟩ trivial ?_ ?_ ?_ PassesOwn.never rfl)
  · intro zi0 zy0 zs0 zhy0 zrun0 zq0
    skip
    refine ⟨⟨[some (.fr ((eL D.int) one)), some (.fr ((eL D.int) other)), some (.fr (D.int by_)), some (.fr (D.int ((0 : Int) + (zy0 : Int))))], []⟩, (eg_name 3 nd rfl (.inl rfl)), ?_⟩
    refine exs_one (ex_ifP bd_n (et_cmp o_nei (ev_call (ds := [(eL D.int) one, D.int (((0 : Int) + (zy0 : Int)) + by_)]) (ds' := []) (dvs := []) (dfs := []) O_law_slot (zhr.mono (by decide)) T.m_law_slot T.k_law_slot T.b_law_slot .nil (fun _ => .nil) (ea_cons (ev_var 0 rfl (.inl rfl) rfl) (ea_cons (ev_bin o_add (ev_var 3 rfl (.inl rfl) rfl) (ev_var 2 rfl (.inl rfl) rfl)) ea_nil)) (fun _ zkk => ⟨one, (((0 : Int) + (zy0 : Int)) + by_), rfl, rfl, (by walk_at "pre"), zkk⟩) (by exact rfl)) (ev_call (ds := [(eL D.int) other, D.int ((0 : Int) + (zy0 : Int))]) (ds' := []) (dvs := []) (dfs := []) O_law_slot (zhr.mono (by decide)) T.m_law_slot T.k_law_slot T.b_law_slot .nil (fun _ => .nil) (ea_cons (ev_var 1 rfl (.inl rfl) rfl) (ea_cons (ev_var 3 rfl (.inl rfl) rfl) ea_nil)) (fun _ zkk => ⟨other, ((0 : Int) + (zy0 : Int)), rfl, rfl, (by walk_at "pre"), zkk⟩) (by exact rfl)) (nomark _)) (fun (zh1 : (¬ ((m_law_slot one (((0 : Int) + (zy0 : Int)) + by_)) = (m_law_slot other ((0 : Int) + (zy0 : Int)))))) => ?_) (fun (zh1 : ¬ (¬ ((m_law_slot one (((0 : Int) + (zy0 : Int)) + by_)) = (m_law_slot other ((0 : Int) + (zy0 : Int)))))) => ?_))
    · skip
      refine exs_one (ex_ret ev_bl ?_)
      have est : (m_law_alike_l0 one other by_) zs0 zy0 = .error false := by simp only [m_law_alike_l0, not_true_eq_false, not_false_eq_true, ↓reduceIte, ↓if_pos zh1]
      exact ⟨_, est, rfl, trivial⟩
    · skip
      refine exs_nil ?_
      have est : (m_law_alike_l0 one other by_) zs0 zy0 = .ok () := by simp only [m_law_alike_l0, not_true_eq_false, not_false_eq_true, ↓reduceIte, ↓if_neg zh1]
      exact ⟨_, est, ⟨⟨.inr rfl, .inr rfl, .inr rfl, .inl rfl, trivial⟩, rfl⟩, trivial⟩
  · rintro zr zc zS zrun0 ⟨rfl, zhL⟩
    skip
    have zh2 := zrun0
    have efin : m_law_alike one other by_ = zr := by simp only [m_law_alike, not_true_eq_false, not_false_eq_true, ↓reduceIte, ↓zh2]
    rw [efin] at zk
    exact zk _
  · intro zs0 zrun0 zq0
    have zh3 := zrun0
    show Exs _ _ _ ⟨[some (.fr ((eL D.int) one)), some (.fr ((eL D.int) other)), some (.fr (D.int by_)), none], []⟩ _
    refine exs_one (ex_ret ev_bl ?_)
    have efin : m_law_alike one other by_ = true := by simp only [m_law_alike, not_true_eq_false, not_false_eq_true, ↓reduceIte, ↓zh3]
    rw [efin] at zk
    exact zk _
def m_law_tables (numbers : List Int) : (List Int) × (List Int) :=
  let one3 : List Int := ((List.range (((1 : Int) + ((numbers.getD ((0 : Int)).toNat default) % (6 : Int)))).toNat).map (fun zc7 : Nat => ((numbers.getD (((1 : Int) + ((0 : Int) + (zc7 : Int)))).toNat default) % (4 : Int))))
  let one3 : List Int := (if ((((numbers.getD ((0 : Int)).toNat default) / (6 : Int)) % (8 : Int)) = (1 : Int)) then ((List.range ((12 : Int)).toNat).map (fun zc8 : Nat => ((numbers.getD (((1 : Int) + ((0 : Int) + (zc8 : Int)))).toNat default) * (991 : Int)))) else one3)
  let one3 : List Int := (if ((((numbers.getD ((0 : Int)).toNat default) / (6 : Int)) % (8 : Int)) = (2 : Int)) then ((List.range ((12 : Int)).toNat).map (fun zc9 : Nat => ((numbers.getD ((2 : Int)).toNat default) + (if (decide (((0 : Int) + (zc9 : Int)) = ((numbers.getD ((1 : Int)).toNat default) % (12 : Int)))) = true then (1 : Int) else 0)))) else one3)
  let other3 : List Int := ((List.range (((1 : Int) + ((numbers.getD ((13 : Int)).toNat default) % (6 : Int)))).toNat).map (fun zc10 : Nat => ((numbers.getD (((14 : Int) + ((0 : Int) + (zc10 : Int)))).toNat default) % (4 : Int))))
  let choice1 : Int := ((numbers.getD ((20 : Int)).toNat default) % (6 : Int))
  let other3 : List Int := (if ((choice1 = (1 : Int)) ∨ (choice1 = (2 : Int))) then (List.flatten (List.replicate (((1 : Int) + ((numbers.getD ((22 : Int)).toNat default) % (2 : Int)))).toNat ((slcD one3 (some ((numbers.getD ((21 : Int)).toNat default) % (one3.length : Int))) none) ++ (slcD one3 none (some ((numbers.getD ((21 : Int)).toNat default) % (one3.length : Int))))))) else other3)
  let other3 : List Int := (if (choice1 = (3 : Int)) then (slcD one3 none (some ((1 : Int) + ((numbers.getD ((21 : Int)).toNat default) % (one3.length : Int))))) else other3)
  (one3, other3)
set_option hygiene false in
local macro_rules | `(tactic| walk_at "sd") => `(tactic| first | omega | exact Nat.le_trans (Nat.add_le_add slc_len slc_len) (by omega) | exact Nat.le_trans slc_len (by omega) | fail)
set_option hygiene false in
local macro_rules | `(tactic| walk_at "rep") => `(tactic| first | (refine Nat.le_trans (Nat.mul_le_mul (show _ ≤ 24 from (by rw [List.length_append]; exact Nat.le_trans (Nat.add_le_add slc_len slc_len) (by omega))) (show _ ≤ 2 by omega)) (by omega)) | fail)
theorem sc_law_tables : FnScope ["numbers", "one", "other", "choice", "by", "k"] ["numbers"] (defScope s_law_tables) := ⟨rfl, rfl, rfl, by decide +kernel, rfl, by decide +kernel, by decide +kernel⟩
def sp_law_tables : SpN := fun zcs zL zKc => ∃ numbers : List Int, zcs = [.fr ((eL D.int) numbers)] ∧ zL = [] ∧ (numbers.length = 26 ∧ ∀ x ∈ numbers, 0 ≤ x ∧ x ≤ 1008) ∧ ∀ zL', zKc (.fr ((eT2 (eL D.int) (eL D.int)) (m_law_tables numbers))) zL'
theorem ok_law_tables (T : TX P K mg) : FnOk P w K mg base CX0 1 T.a_law_tables T.d_law_tables ["numbers"] (SpOf K mg sp_law_tables) := by
  refine T.F_law_tables.okN sc_law_tables (fun zcs zL zKc zh => by obtain ⟨numbers, rfl, _⟩ := zh; rfl) fun zcdv zA zout zst zH zE zB zcs zL zKc zhr zh => ?_
  obtain ⟨numbers, rfl, rfl, hpre, zk⟩ := zh
  have nd := sc_law_tables.nd
  have hSL := sizeLine_eq
  show Exs _ _ _ ⟨[some (.fr ((eL D.int) numbers)), none, none, none, none, none], []⟩ _
  refine exs_cons (ex_setLcM 1 (enc2 := D.int) 199 (fun zc1 : Nat => ((numbers.getD (((1 : Int) + ((0 : Int) + (zc1 : Int)))).toNat default) % (4 : Int))) _ rfl nd rfl rfl (sw_true rfl rfl rfl (by decide +kernel)) (blkOk_by (N := ["numbers", "one", "other", "choice", "by", "k"]) (sc := defScope s_law_tables) (own := [(("k" : Str), 5)]) (by decide +kernel)) (src_range1 (ea_cons (ev_bin o_add ev_int (ev_bin (o_mod (by walk_at "sd")) (ev_ix (ix_L (xs := numbers) (enc := D.int) (by exact rfl) (by walk_at "sd") (by walk_at "sd")) (ev_var 0 rfl (.inr (.inl rfl)) rfl) ev_int) ev_int)) ea_nil) (by exact rfl) T.n_range (by walk_at "sd") (by walk_at "sd")) (by simp [names]) (by decide) (by walk_at "sd") (fun _ zc1 _ zhyzc1 _ _ _ _ _ => (eg_nameC 5 nd rfl (.inl rfl) (by decide) (.inr rfl))) (fun _ zc1 _ zhyzc1 _ _ _ _ _ => (ev_bin (o_mod (by walk_at "sd")) (ev_ix (ix_L (xs := numbers) (enc := D.int) (by exact rfl) (by walk_at "sd") (by walk_at "sd")) (ev_var 0 rfl (.inr (.inl rfl)) rfl) (ev_bin o_add ev_int (ev_var 5 rfl (.inl rfl) rfl))) ev_int)) ?_)
  show Exs _ _ _ ⟨[some (.fr ((eL D.int) numbers)), some (.fr ((eL D.int) ((List.range (((1 : Int) + ((numbers.getD ((0 : Int)).toNat default) % (6 : Int)))).toNat).map (fun zc1 : Nat => ((numbers.getD (((1 : Int) + ((0 : Int) + (zc1 : Int)))).toNat default) % (4 : Int)))))), none, none, none, none], []⟩ _
  generalize zg_one : ((List.range (((1 : Int) + ((numbers.getD ((0 : Int)).toNat default) % (6 : Int)))).toNat).map (fun zc1 : Nat => ((numbers.getD (((1 : Int) + ((0 : Int) + (zc1 : Int)))).toNat default) % (4 : Int)))) = one
  show Exs _ _ _ ⟨[some (.fr ((eL D.int) numbers)), some (.fr ((eL D.int) one)), none, none, none, none], []⟩ _
  have hl1 : 1 ≤ one.length ∧ one.length ≤ 12 := by (rw [← zg_one]; simp only [List.length_map, List.length_range]; omega)
  refine exs_cons (ex_join ⟨[some (.fr ((eL D.int) numbers)), some (.fr ((eL D.int) (if ((((numbers.getD ((0 : Int)).toNat default) / (6 : Int)) % (8 : Int)) = (1 : Int)) then ((List.range ((12 : Int)).toNat).map (fun zc2 : Nat => ((numbers.getD (((1 : Int) + ((0 : Int) + (zc2 : Int)))).toNat default) * (991 : Int)))) else one))), none, none, none, none], []⟩ (ex_ifP bd_d (et_cmp o_eqi (ev_bin (o_mod (by walk_at "sd")) (ev_bin (o_div (by walk_at "sd") (by walk_at "sd")) (ev_ix (ix_L (xs := numbers) (enc := D.int) (by exact rfl) (by walk_at "sd") (by walk_at "sd")) (ev_var 0 rfl (.inr (.inl rfl)) rfl) ev_int) ev_int) ev_int) ev_int (nomark _)) (fun (zh1 : ((((numbers.getD ((0 : Int)).toNat default) / (6 : Int)) % (8 : Int)) = (1 : Int))) => ?_) (fun (zh1 : ¬ ((((numbers.getD ((0 : Int)).toNat default) / (6 : Int)) % (8 : Int)) = (1 : Int))) => ?_)) ?_)
  · skip
    refine exs_one (ex_setLcM 1 (enc2 := D.int) 199 (fun zc3 : Nat => ((numbers.getD (((1 : Int) + ((0 : Int) + (zc3 : Int)))).toNat default) * (991 : Int))) _ rfl nd rfl rfl (sw_true rfl rfl rfl (by decide +kernel)) (blkOk_by (N := ["numbers", "one", "other", "choice", "by", "k"]) (sc := defScope s_law_tables) (own := [(("k" : Str), 5)]) (by decide +kernel)) (src_range1 (ea_cons ev_int ea_nil) (by exact rfl) T.n_range (by walk_at "sd") (by walk_at "sd")) (by simp [names]) (by decide) (by walk_at "sd") (fun _ zc3 _ zhyzc3 _ _ _ _ _ => (eg_nameC 5 nd rfl (.inl rfl) (by decide) (.inr rfl))) (fun _ zc3 _ zhyzc3 _ _ _ _ _ => (ev_bin (o_mul (by walk_at "mul")) (ev_ix (ix_L (xs := numbers) (enc := D.int) (by exact rfl) (by walk_at "sd") (by walk_at "sd")) (ev_var 0 rfl (.inr (.inl rfl)) rfl) (ev_bin o_add ev_int (ev_var 5 rfl (.inl rfl) rfl))) ev_int)) ?_)
    exact ⟨_, rfl, by simp only [if_pos zh1]; exact ⟨⟨.inr rfl, .inr rfl, .inl rfl, .inl rfl, .inl rfl, .inl rfl, trivial⟩, rfl⟩⟩
  · skip
    refine exs_nil ?_
    exact ⟨_, rfl, by simp only [if_neg zh1]; exact ⟨⟨.inr rfl, .inr rfl, .inl rfl, .inl rfl, .inl rfl, .inl rfl, trivial⟩, rfl⟩⟩
  · skip
    show Exs _ _ _ ⟨[some (.fr ((eL D.int) numbers)), some (.fr ((eL D.int) (if ((((numbers.getD ((0 : Int)).toNat default) / (6 : Int)) % (8 : Int)) = (1 : Int)) then ((List.range ((12 : Int)).toNat).map (fun zc2 : Nat => ((numbers.getD (((1 : Int) + ((0 : Int) + (zc2 : Int)))).toNat default) * (991 : Int)))) else one))), none, none, none, none], []⟩ _
    generalize zg_one1 : (if ((((numbers.getD ((0 : Int)).toNat default) / (6 : Int)) % (8 : Int)) = (1 : Int)) then ((List.range ((12 : Int)).toNat).map (fun zc2 : Nat => ((numbers.getD (((1 : Int) + ((0 : Int) + (zc2 : Int)))).toNat default) * (991 : Int)))) else one) = one1
    show Exs _ _ _ ⟨[some (.fr ((eL D.int) numbers)), some (.fr ((eL D.int) one1)), none, none, none, none], []⟩ _
    have hl2 : 1 ≤ one1.length ∧ one1.length ≤ 12 := by (rw [← zg_one1]; split <;> first | exact hl1 | (simp only [List.length_map, List.length_range]; omega))
    show Exs _ _ _ ⟨[some (.fr ((eL D.int) numbers)), some (.fr ((eL D.int) one1)), none, none, none, none], []⟩ _
    refine exs_cons (ex_join ⟨[some (.fr ((eL D.int) numbers)), some (.fr ((eL D.int) (if ((((numbers.getD ((0 : Int)).toNat default) / (6 : Int)) % (8 : Int)) = (2 : Int)) then ((List.range ((12 : Int)).toNat).map (fun zc4 : Nat => ((numbers.getD ((2 : Int)).toNat default) + (if (decide (((0 : Int) + (zc4 : Int)) = ((numbers.getD ((1 : Int)).toNat default) % (12 : Int)))) = true then (1 : Int) else 0)))) else one1))), none, none, none, none], []⟩ (ex_ifP bd_d (et_cmp o_eqi (ev_bin (o_mod (by walk_at "sd")) (ev_bin (o_div (by walk_at "sd") (by walk_at "sd")) (ev_ix (ix_L (xs := numbers) (enc := D.int) (by exact rfl) (by walk_at "sd") (by walk_at "sd")) (ev_var 0 rfl (.inr (.inl rfl)) rfl) ev_int) ev_int) ev_int) ev_int (nomark _)) (fun (zh2 : ((((numbers.getD ((0 : Int)).toNat default) / (6 : Int)) % (8 : Int)) = (2 : Int))) => ?_) (fun (zh2 : ¬ ((((numbers.getD ((0 : Int)).toNat default) / (6 : Int)) % (8 : Int)) = (2 : Int))) => ?_)) ?_)
    · skip
      refine exs_one (ex_setLcM 1 (enc2 := D.int) 199 (fun zc5 : Nat => ((numbers.getD ((2 : Int)).toNat default) + (if (decide (((0 : Int) + (zc5 : Int)) = ((numbers.getD ((1 : Int)).toNat default) % (12 : Int)))) = true then (1 : Int) else 0))) _ rfl nd rfl rfl (sw_true rfl rfl rfl (by decide +kernel)) (blkOk_by (N := ["numbers", "one", "other", "choice", "by", "k"]) (sc := defScope s_law_tables) (own := [(("k" : Str), 5)]) (by decide +kernel)) (src_range1 (ea_cons ev_int ea_nil) (by exact rfl) T.n_range (by walk_at "sd") (by walk_at "sd")) (by simp [names]) (by decide) (by walk_at "sd") (fun _ zc5 _ zhyzc5 _ _ _ _ _ => (eg_nameC 5 nd rfl (.inl rfl) (by decide) (.inr rfl))) (fun _ zc5 _ zhyzc5 _ _ _ _ _ => (ev_bin o_add (ev_ix (ix_L (xs := numbers) (enc := D.int) (by exact rfl) (by walk_at "sd") (by walk_at "sd")) (ev_var 0 rfl (.inr (.inl rfl)) rfl) ev_int) (ev_callTy (ds := [D.bl (decide (((0 : Int) + (zc5 : Int)) = ((numbers.getD ((1 : Int)).toNat default) % (12 : Int))))]) c_intB (ea_cons (ev_cmp o_eqi (ev_var 5 rfl (.inl rfl) rfl) (ev_bin (o_mod (by walk_at "sd")) (ev_ix (ix_L (xs := numbers) (enc := D.int) (by exact rfl) (by walk_at "sd") (by walk_at "sd")) (ev_var 0 rfl (.inr (.inl rfl)) rfl) ev_int) ev_int) (nomark _)) ea_nil) (by exact rfl) T.n_int (by decide +kernel)))) ?_)
      exact ⟨_, rfl, by simp only [if_pos zh2]; exact ⟨⟨.inr rfl, .inr rfl, .inl rfl, .inl rfl, .inl rfl, .inl rfl, trivial⟩, rfl⟩⟩
    · skip
      refine exs_nil ?_
      exact ⟨_, rfl, by simp only [if_neg zh2]; exact ⟨⟨.inr rfl, .inr rfl, .inl rfl, .inl rfl, .inl rfl, .inl rfl, trivial⟩, rfl⟩⟩
    · skip
      show Exs _ _ _ ⟨[some (.fr ((eL D.int) numbers)), some (.fr ((eL D.int) (if ((((numbers.getD ((0 : Int)).toNat default) / (6 : Int)) % (8 : Int)) = (2 : Int)) then ((List.range ((12 : Int)).toNat).map (fun zc4 : Nat => ((numbers.getD ((2 : Int)).toNat default) + (if (decide (((0 : Int) + (zc4 : Int)) = ((numbers.getD ((1 : Int)).toNat default) % (12 : Int)))) = true then (1 : Int) else 0)))) else one1))), none, none, none, none], []⟩ _
      generalize zg_one2 : (if ((((numbers.getD ((0 : Int)).toNat default) / (6 : Int)) % (8 : Int)) = (2 : Int)) then ((List.range ((12 : Int)).toNat).map (fun zc4 : Nat => ((numbers.getD ((2 : Int)).toNat default) + (if (decide (((0 : Int) + (zc4 : Int)) = ((numbers.getD ((1 : Int)).toNat default) % (12 : Int)))) = true then (1 : Int) else 0)))) else one1) = one2
      show Exs _ _ _ ⟨[some (.fr ((eL D.int) numbers)), some (.fr ((eL D.int) one2)), none, none, none, none], []⟩ _
      have hl3 : 1 ≤ one2.length ∧ one2.length ≤ 12 := by (rw [← zg_one2]; split <;> first | exact hl2 | (simp only [List.length_map, List.length_range]; omega))
      show Exs _ _ _ ⟨[some (.fr ((eL D.int) numbers)), some (.fr ((eL D.int) one2)), none, none, none, none], []⟩ _
      refine exs_cons (ex_setLcM 2 (enc2 := D.int) 199 (fun zc6 : Nat => ((numbers.getD (((14 : Int) + ((0 : Int) + (zc6 : Int)))).toNat default) % (4 : Int))) _ rfl nd rfl rfl (sw_true rfl rfl rfl (by decide +kernel)) (blkOk_by (N := ["numbers", "one", "other", "choice", "by", "k"]) (sc := defScope s_law_tables) (own := [(("k" : Str), 5)]) (by decide +kernel)) (src_range1 (ea_cons (ev_bin o_add ev_int (ev_bin (o_mod (by walk_at "sd")) (ev_ix (ix_L (xs := numbers) (enc := D.int) (by exact rfl) (by walk_at "sd") (by walk_at "sd")) (ev_var 0 rfl (.inr (.inl rfl)) rfl) ev_int) ev_int)) ea_nil) (by exact rfl) T.n_range (by walk_at "sd") (by walk_at "sd")) (by simp [names]) (by decide) (by walk_at "sd") (fun _ zc6 _ zhyzc6 _ _ _ _ _ => (eg_nameC 5 nd rfl (.inl rfl) (by decide) (.inr rfl))) (fun _ zc6 _ zhyzc6 _ _ _ _ _ => (ev_bin (o_mod (by walk_at "sd")) (ev_ix (ix_L (xs := numbers) (enc := D.int) (by exact rfl) (by walk_at "sd") (by walk_at "sd")) (ev_var 0 rfl (.inr (.inl rfl)) rfl) (ev_bin o_add ev_int (ev_var 5 rfl (.inl rfl) rfl))) ev_int)) ?_)
      show Exs _ _ _ ⟨[some (.fr ((eL D.int) numbers)), some (.fr ((eL D.int) one2)), some (.fr ((eL D.int) ((List.range (((1 : Int) + ((numbers.getD ((13 : Int)).toNat default) % (6 : Int)))).toNat).map (fun zc6 : Nat => ((numbers.getD (((14 : Int) + ((0 : Int) + (zc6 : Int)))).toNat default) % (4 : Int)))))), none, none, none], []⟩ _
      generalize zg_other : ((List.range (((1 : Int) + ((numbers.getD ((13 : Int)).toNat default) % (6 : Int)))).toNat).map (fun zc6 : Nat => ((numbers.getD (((14 : Int) + ((0 : Int) + (zc6 : Int)))).toNat default) % (4 : Int)))) = other
      show Exs _ _ _ ⟨[some (.fr ((eL D.int) numbers)), some (.fr ((eL D.int) one2)), some (.fr ((eL D.int) other)), none, none, none], []⟩ _
      refine exs_cons (ex_set 3 (ev_bin (o_mod (by walk_at "sd")) (ev_ix (ix_L (xs := numbers) (enc := D.int) (by exact rfl) (by walk_at "sd") (by walk_at "sd")) (ev_var 0 rfl (.inr (.inl rfl)) rfl) ev_int) ev_int) ?_ nd rfl (.inl rfl))
      show Exs _ _ _ ⟨[some (.fr ((eL D.int) numbers)), some (.fr ((eL D.int) one2)), some (.fr ((eL D.int) other)), some (.fr (D.int ((numbers.getD ((20 : Int)).toNat default) % (6 : Int)))), none, none], []⟩ _
      generalize zg_choice : ((numbers.getD ((20 : Int)).toNat default) % (6 : Int)) = choice
      show Exs _ _ _ ⟨[some (.fr ((eL D.int) numbers)), some (.fr ((eL D.int) one2)), some (.fr ((eL D.int) other)), some (.fr (D.int choice)), none, none], []⟩ _
      refine exs_cons (ex_join ⟨[some (.fr ((eL D.int) numbers)), some (.fr ((eL D.int) one2)), some (.fr ((eL D.int) (if ((choice = (1 : Int)) ∨ (choice = (2 : Int))) then (List.flatten (List.replicate (((1 : Int) + ((numbers.getD ((22 : Int)).toNat default) % (2 : Int)))).toNat ((slcD one2 (some ((numbers.getD ((21 : Int)).toNat default) % (one2.length : Int))) none) ++ (slcD one2 none (some ((numbers.getD ((21 : Int)).toNat default) % (one2.length : Int))))))) else other))), some (.fr (D.int choice)), none, none], []⟩ (ex_ifP (bd_or bd_d bd_d) (Ew.et (ew_orP bd_d (et_cmp o_eqi (ev_var 3 rfl (.inl rfl) rfl) ev_int (nomark _)) (fun zhp => (ew_or1 (et_cmp o_eqi (ev_var 3 rfl (.inl rfl) rfl) ev_int (nomark _)))))) (fun (zh3 : ((choice = (1 : Int)) ∨ (choice = (2 : Int)))) => ?_) (fun (zh3 : ¬ ((choice = (1 : Int)) ∨ (choice = (2 : Int)))) => ?_)) ?_)
      · skip
        refine exs_cons (ex_set 4 (ev_bin (o_mod (by walk_at "sd")) (ev_ix (ix_L (xs := numbers) (enc := D.int) (by exact rfl) (by walk_at "sd") (by walk_at "sd")) (ev_var 0 rfl (.inr (.inl rfl)) rfl) ev_int) (ev_len (ln_L (xs := one2) (enc := D.int) (by exact rfl)) (ev_var 1 rfl (.inl rfl) rfl) (by exact rfl) T.n_len)) ?_ nd rfl (.inl rfl))
        show Exs _ _ _ ⟨[some (.fr ((eL D.int) numbers)), some (.fr ((eL D.int) one2)), some (.fr ((eL D.int) other)), some (.fr (D.int choice)), some (.fr (D.int ((numbers.getD ((21 : Int)).toNat default) % (one2.length : Int)))), none], []⟩ _
        refine exs_one (ex_set 2 (ev_bin (o_repL (enc := D.int) (xs := ((slcD one2 (some ((numbers.getD ((21 : Int)).toNat default) % (one2.length : Int))) none) ++ (slcD one2 none (some ((numbers.getD ((21 : Int)).toNat default) % (one2.length : Int)))))) (by walk_at "sd") (by walk_at "sd") (by walk_at "rep")) (ev_bin (o_catT (enc := D.int) (xs := (slcD one2 (some ((numbers.getD ((21 : Int)).toNat default) % (one2.length : Int))) none)) (ys := (slcD one2 none (some ((numbers.getD ((21 : Int)).toNat default) % (one2.length : Int))))) (by walk_at "sd")) (ev_sliceT (enc := D.int) (xs := one2) (by exact rfl) (ev_var 1 rfl (.inl rfl) rfl) (eo_some (ev_var 4 rfl (.inl rfl) rfl)) eo_none) (ev_sliceT (enc := D.int) (xs := one2) (by exact rfl) (ev_var 1 rfl (.inl rfl) rfl) eo_none (eo_some (ev_var 4 rfl (.inl rfl) rfl)))) (ev_bin o_add ev_int (ev_bin (o_mod (by walk_at "sd")) (ev_ix (ix_L (xs := numbers) (enc := D.int) (by exact rfl) (by walk_at "sd") (by walk_at "sd")) (ev_var 0 rfl (.inr (.inl rfl)) rfl) ev_int) ev_int))) ?_ nd rfl (.inl rfl))
        exact ⟨_, rfl, by simp only [if_pos zh3]; exact ⟨⟨.inr rfl, .inr rfl, .inr rfl, .inr rfl, .inl rfl, .inl rfl, trivial⟩, rfl⟩⟩
      · skip
        refine exs_nil ?_
        exact ⟨_, rfl, by simp only [if_neg zh3]; exact ⟨⟨.inr rfl, .inr rfl, .inr rfl, .inr rfl, .inl rfl, .inl rfl, trivial⟩, rfl⟩⟩
      · skip
        show Exs _ _ _ ⟨[some (.fr ((eL D.int) numbers)), some (.fr ((eL D.int) one2)), some (.fr ((eL D.int) (if ((choice = (1 : Int)) ∨ (choice = (2 : Int))) then (List.flatten (List.replicate (((1 : Int) + ((numbers.getD ((22 : Int)).toNat default) % (2 : Int)))).toNat ((slcD one2 (some ((numbers.getD ((21 : Int)).toNat default) % (one2.length : Int))) none) ++ (slcD one2 none (some ((numbers.getD ((21 : Int)).toNat default) % (one2.length : Int))))))) else other))), some (.fr (D.int choice)), none, none], []⟩ _
        generalize zg_other1 : (if ((choice = (1 : Int)) ∨ (choice = (2 : Int))) then (List.flatten (List.replicate (((1 : Int) + ((numbers.getD ((22 : Int)).toNat default) % (2 : Int)))).toNat ((slcD one2 (some ((numbers.getD ((21 : Int)).toNat default) % (one2.length : Int))) none) ++ (slcD one2 none (some ((numbers.getD ((21 : Int)).toNat default) % (one2.length : Int))))))) else other) = other1
        show Exs _ _ _ ⟨[some (.fr ((eL D.int) numbers)), some (.fr ((eL D.int) one2)), some (.fr ((eL D.int) other1)), some (.fr (D.int choice)), none, none], []⟩ _
        show Exs _ _ _ ⟨[some (.fr ((eL D.int) numbers)), some (.fr ((eL D.int) one2)), some (.fr ((eL D.int) other1)), some (.fr (D.int choice)), none, none], []⟩ _
        refine exs_cons (ex_join ⟨[some (.fr ((eL D.int) numbers)), some (.fr ((eL D.int) one2)), some (.fr ((eL D.int) (if (choice = (3 : Int)) then (slcD one2 none (some ((1 : Int) + ((numbers.getD ((21 : Int)).toNat default) % (one2.length : Int))))) else other1))), some (.fr (D.int choice)), none, none], []⟩ (ex_ifP bd_d (et_cmp o_eqi (ev_var 3 rfl (.inl rfl) rfl) ev_int (nomark _)) (fun (zh4 : (choice = (3 : Int))) => ?_) (fun (zh4 : ¬ (choice = (3 : Int))) => ?_)) ?_)
        · skip
          refine exs_one (ex_set 2 (ev_sliceT (enc := D.int) (xs := one2) (by exact rfl) (ev_var 1 rfl (.inl rfl) rfl) eo_none (eo_some (ev_bin o_add ev_int (ev_bin (o_mod (by walk_at "sd")) (ev_ix (ix_L (xs := numbers) (enc := D.int) (by exact rfl) (by walk_at "sd") (by walk_at "sd")) (ev_var 0 rfl (.inr (.inl rfl)) rfl) ev_int) (ev_len (ln_L (xs := one2) (enc := D.int) (by exact rfl)) (ev_var 1 rfl (.inl rfl) rfl) (by exact rfl) T.n_len))))) ?_ nd rfl (.inl rfl))
          exact ⟨_, rfl, by simp only [if_pos zh4]; exact ⟨⟨.inr rfl, .inr rfl, .inr rfl, .inr rfl, .inl rfl, .inl rfl, trivial⟩, rfl⟩⟩
        · skip
          refine exs_nil ?_
          exact ⟨_, rfl, by simp only [if_neg zh4]; exact ⟨⟨.inr rfl, .inr rfl, .inr rfl, .inr rfl, .inl rfl, .inl rfl, trivial⟩, rfl⟩⟩
        · skip
          show Exs _ _ _ ⟨[some (.fr ((eL D.int) numbers)), some (.fr ((eL D.int) one2)), some (.fr ((eL D.int) (if (choice = (3 : Int)) then (slcD one2 none (some ((1 : Int) + ((numbers.getD ((21 : Int)).toNat default) % (one2.length : Int))))) else other1))), some (.fr (D.int choice)), none, none], []⟩ _
          generalize zg_other2 : (if (choice = (3 : Int)) then (slcD one2 none (some ((1 : Int) + ((numbers.getD ((21 : Int)).toNat default) % (one2.length : Int))))) else other1) = other2
          show Exs _ _ _ ⟨[some (.fr ((eL D.int) numbers)), some (.fr ((eL D.int) one2)), some (.fr ((eL D.int) other2)), some (.fr (D.int choice)), none, none], []⟩ _
          show Exs _ _ _ ⟨[some (.fr ((eL D.int) numbers)), some (.fr ((eL D.int) one2)), some (.fr ((eL D.int) other2)), some (.fr (D.int choice)), none, none], []⟩ _
          refine exs_one (ex_ret (ev_tup (ds := [(eL D.int) one2, (eL D.int) other2]) (ea_cons (ev_var 1 rfl (.inl rfl) rfl) (ea_cons (ev_var 2 rfl (.inl rfl) rfl) ea_nil)) (by simp only [List.length_cons, List.length_nil]; decide)) ?_)
          have efin : m_law_tables numbers = (one2, other2) := by subst zg_other2; subst zg_other1; subst zg_choice; subst zg_other; subst zg_one2; subst zg_one1; subst zg_one; simp only [m_law_tables, not_true_eq_false, not_false_eq_true, ↓reduceIte]
          rw [efin] at zk
          exact zk _
def m_law_shortest_l0 (table : List Int) (lo0 : Int) (zs0 : Unit) (zy0 : Nat) : Except Bool (Unit) :=
  if ((m_law_alike (slcD table none (some (lo0 + (zy0 : Int)))) table (0 : Int)) = true) then .error false else .ok ()
def m_law_shortest (table : List Int) : Bool :=
  if ((¬ (true = true)) ∨ ((((m_shortest table).length : Int) = (0 : Int)) ∨ ((table.length : Int) < ((m_shortest table).length : Int)))) then false else if ((¬ ((m_law_is_table (m_shortest table) (slcD table none (some ((m_shortest table).length : Int)))) = true)) ∨ (¬ ((m_law_alike (m_shortest table) table (0 : Int)) = true))) then false else match (runE (m_law_shortest_l0 table (1 : Int)) (List.range (((m_shortest table).length : Int) - (1 : Int)).toNat) ()) with | .error r => r | .ok zs0 => true
set_option hygiene false in
local macro_rules | `(tactic| walk_at "pre") => `(tactic| first | exact ⟨by omega, by omega⟩ | (have q9 := short_len hpre.1; exact ⟨by omega, Nat.le_trans slc_len (by omega)⟩) | (have q9 := short_len hpre.1; exact ⟨by omega, by omega, hpre.1, by omega⟩) | exact ⟨by rw [slc_take _ (by omega), List.length_take]; omega, Nat.le_trans slc_len (by omega), hpre.1, by omega⟩ | fail)
theorem sc_law_shortest : FnScope ["table", "actual", "size"] ["table"] (defScope s_law_shortest) := ⟨rfl, rfl, rfl, by decide +kernel, rfl, by decide +kernel, by decide +kernel⟩
def sp_law_shortest : SpN := fun zcs zL zKc => ∃ table : List Int, zcs = [.fr ((eL D.int) table)] ∧ zL = [] ∧ (0 < table.length ∧ table.length ≤ 24) ∧ ∀ zL', zKc (.fr (D.bl (m_law_shortest table))) zL'
theorem ok_law_shortest (T : TX P K mg) : FnOk P w K mg base CX0 3 T.a_law_shortest T.d_law_shortest ["table"] (SpOf K mg sp_law_shortest) := by
  have O_law_alike := ok_law_alike (P := P) (w := w) (base := base) T
  have O_law_is_table := ok_law_is_table (P := P) (w := w) (base := base) T
  have O_shortest := ok_shortest (P := P) (w := w) (base := base) T
  refine T.F_law_shortest.okN sc_law_shortest (fun zcs zL zKc zh => by obtain ⟨table, rfl, _⟩ := zh; rfl) fun zcdv zA zout zst zH zE zB zcs zL zKc zhr zh => ?_
  obtain ⟨table, rfl, rfl, hpre, zk⟩ := zh
  have nd := sc_law_shortest.nd
  have hSL := sizeLine_eq
  show Exs _ _ _ ⟨[some (.fr ((eL D.int) table)), none, none], []⟩ _
  refine exs_cons (ex_set 1 (ev_call (ds := [(eL D.int) table]) (ds' := []) (dvs := []) (dfs := []) O_shortest (zhr.mono (by decide)) T.m_shortest T.k_shortest T.b_shortest .nil (fun _ => .nil) (ea_cons (ev_callTy (ds := [(eL D.int) table]) c_listL (ea_cons (ev_var 0 rfl (.inl rfl) rfl) ea_nil) (by exact rfl) T.n_list (by decide +kernel)) ea_nil) (fun _ zkk => ⟨table, rfl, rfl, (by walk_at "pre"), zkk⟩) (by exact rfl)) ?_ nd rfl (.inl rfl))
  show Exs _ _ _ ⟨[some (.fr ((eL D.int) table)), some (.fr ((eL D.int) (m_shortest table))), none], []⟩ _
  refine exs_cons (ex_ifP (bd_or (bd_not Iff.rfl) (bd_or bd_d bd_d)) (Ew.et (ew_orP (bd_not Iff.rfl) (et_not (et_val (ev_isi (T := "list") (b := true) (ev_var 1 rfl (.inl rfl) rfl) rfl (by decide) (by exact rfl) T.n_isinstance (by exact rfl) T.n_list (by decide +kernel)))) (fun zhp => (ew_orP bd_d (et_cmp o_eqi (ev_len (ln_L (xs := (m_shortest table)) (enc := D.int) (by exact rfl)) (ev_var 1 rfl (.inl rfl) rfl) (by exact rfl) T.n_len) ev_int (nomark _)) (fun zhp => (ew_or1 (et_cmp o_gt (ev_len (ln_L (xs := (m_shortest table)) (enc := D.int) (by exact rfl)) (ev_var 1 rfl (.inl rfl) rfl) (by exact rfl) T.n_len) (ev_len (ln_L (xs := table) (enc := D.int) (by exact rfl)) (ev_var 0 rfl (.inl rfl) rfl) (by exact rfl) T.n_len) (nomark _)))))))) (fun (zh1 : ((¬ (true = true)) ∨ ((((m_shortest table).length : Int) = (0 : Int)) ∨ ((table.length : Int) < ((m_shortest table).length : Int))))) => ?_) (fun (zh1 : ¬ ((¬ (true = true)) ∨ ((((m_shortest table).length : Int) = (0 : Int)) ∨ ((table.length : Int) < ((m_shortest table).length : Int))))) => ?_))
  · skip
    refine exs_one (ex_ret ev_bl ?_)
    have efin : m_law_shortest table = false := by simp only [m_law_shortest, not_true_eq_false, not_false_eq_true, ↓reduceIte, ↓if_pos zh1]
    rw [efin] at zk
    exact zk _
  · skip
    refine exs_nil ?_
    show Exs _ _ _ ⟨[some (.fr ((eL D.int) table)), some (.fr ((eL D.int) (m_shortest table))), none], []⟩ _
    refine exs_cons (ex_ifP (bd_or (bd_not Iff.rfl) (bd_not Iff.rfl)) (Ew.et (ew_orP (bd_not Iff.rfl) (et_not (et_val (ev_call (ds := [(eL D.int) (m_shortest table), (eL D.int) (slcD table none (some ((m_shortest table).length : Int)))]) (ds' := []) (dvs := []) (dfs := []) O_law_is_table (zhr.mono (by decide)) T.m_law_is_table T.k_law_is_table T.b_law_is_table .nil (fun _ => .nil) (ea_cons (ev_var 1 rfl (.inl rfl) rfl) (ea_cons (ev_sliceT (enc := D.int) (xs := table) (by exact rfl) (ev_var 0 rfl (.inl rfl) rfl) eo_none (eo_some (ev_len (ln_L (xs := (m_shortest table)) (enc := D.int) (by exact rfl)) (ev_var 1 rfl (.inl rfl) rfl) (by exact rfl) T.n_len))) ea_nil)) (fun _ zkk => ⟨(m_shortest table), (slcD table none (some ((m_shortest table).length : Int))), rfl, rfl, (by walk_at "pre"), zkk⟩) (by exact rfl)))) (fun zhp => (ew_or1 (et_not (et_val (ev_call (ds := [(eL D.int) (m_shortest table), (eL D.int) table, D.int (0 : Int)]) (ds' := []) (dvs := []) (dfs := []) O_law_alike (zhr.mono (by decide)) T.m_law_alike T.k_law_alike T.b_law_alike .nil (fun _ => .nil) (ea_cons (ev_var 1 rfl (.inl rfl) rfl) (ea_cons (ev_var 0 rfl (.inl rfl) rfl) (ea_cons ev_int ea_nil))) (fun _ zkk => ⟨(m_shortest table), table, (0 : Int), rfl, rfl, (by walk_at "pre"), zkk⟩) (by exact rfl)))))))) (fun (zh2 : ((¬ ((m_law_is_table (m_shortest table) (slcD table none (some ((m_shortest table).length : Int)))) = true)) ∨ (¬ ((m_law_alike (m_shortest table) table (0 : Int)) = true)))) => ?_) (fun (zh2 : ¬ ((¬ ((m_law_is_table (m_shortest table) (slcD table none (some ((m_shortest table).length : Int)))) = true)) ∨ (¬ ((m_law_alike (m_shortest table) table (0 : Int)) = true)))) => ?_))
    · skip
      refine exs_one (ex_ret ev_bl ?_)
      have efin : m_law_shortest table = false := by simp only [m_law_shortest, not_true_eq_false, not_false_eq_true, ↓reduceIte, ↓if_neg zh1, ↓if_pos zh2]
      rw [efin] at zk
      exact zk _
    · skip
      refine exs_nil ?_
      show Exs _ _ _ ⟨[some (.fr ((eL D.int) table)), some (.fr ((eL D.int) (m_shortest table))), none], []⟩ _
      refine exs_cons (ex_forE (enc := (fun i : Nat => D.int ((1 : Int) + (i : Int)))) (fun (zs0 : Unit) => (⟨[some (.fr ((eL D.int) table)), some (.fr ((eL D.int) (m_shortest table))), none], []⟩ : Nz.S)) (m_law_shortest_l0 table (1 : Int)) () (fun (zi0 : Nat) (zs0 : Unit) => True) (fun r c S' => c = .fr (D.bl r) ∧ True) (src_range2 (ea_cons ev_int (ea_cons (ev_len (ln_L (xs := (m_shortest table)) (enc := D.int) (by exact rfl)) (ev_var 1 rfl (.inl rfl) rfl) (by exact rfl) T.n_len) ea_nil)) (by exact rfl) T.n_range (by walk_at "sd") (by walk_at "sd") (by walk_at "sd") (by walk_at "sd")) ⟨⟨.inr rfl, .inr rfl, .inl rfl, trivial⟩, rfl⟩ trivial ?_ ?_ ?_ PassesOwn.never rfl)
      · intro zi0 zy0 zs0 zhy0 zrun0 zq0
        skip
        refine ⟨⟨[some (.fr ((eL D.int) table)), some (.fr ((eL D.int) (m_shortest table))), some (.fr (D.int ((1 : Int) + (zy0 : Int))))], []⟩, (eg_name 2 nd rfl (.inl rfl)), ?_⟩
        refine exs_one (ex_ifP Iff.rfl (et_val (ev_call (ds := [(eL D.int) (slcD table none (some ((1 : Int) + (zy0 : Int)))), (eL D.int) table, D.int (0 : Int)]) (ds' := []) (dvs := []) (dfs := []) O_law_alike (zhr.mono (by decide)) T.m_law_alike T.k_law_alike T.b_law_alike .nil (fun _ => .nil) (ea_cons (ev_sliceT (enc := D.int) (xs := table) (by exact rfl) (ev_var 0 rfl (.inl rfl) rfl) eo_none (eo_some (ev_var 2 rfl (.inl rfl) rfl))) (ea_cons (ev_var 0 rfl (.inl rfl) rfl) (ea_cons ev_int ea_nil))) (fun _ zkk => ⟨(slcD table none (some ((1 : Int) + (zy0 : Int)))), table, (0 : Int), rfl, rfl, (by walk_at "pre"), zkk⟩) (by exact rfl))) (fun (zh3 : ((m_law_alike (slcD table none (some ((1 : Int) + (zy0 : Int)))) table (0 : Int)) = true)) => ?_) (fun (zh3 : ¬ ((m_law_alike (slcD table none (some ((1 : Int) + (zy0 : Int)))) table (0 : Int)) = true)) => ?_))
        · skip
          refine exs_one (ex_ret ev_bl ?_)
          have est : (m_law_shortest_l0 table (1 : Int)) zs0 zy0 = .error false := by simp only [m_law_shortest_l0, not_true_eq_false, not_false_eq_true, ↓reduceIte, ↓if_pos zh3]
          exact ⟨_, est, rfl, trivial⟩
        · skip
          refine exs_nil ?_
          have est : (m_law_shortest_l0 table (1 : Int)) zs0 zy0 = .ok () := by simp only [m_law_shortest_l0, not_true_eq_false, not_false_eq_true, ↓reduceIte, ↓if_neg zh3]
          exact ⟨_, est, ⟨⟨.inr rfl, .inr rfl, .inl rfl, trivial⟩, rfl⟩, trivial⟩
      · rintro zr zc zS zrun0 ⟨rfl, zhL⟩
        skip
        have zh4 := zrun0
        have efin : m_law_shortest table = zr := by simp only [m_law_shortest, not_true_eq_false, not_false_eq_true, ↓reduceIte, ↓if_neg zh1, ↓if_neg zh2, ↓zh4]
        rw [efin] at zk
        exact zk _
      · intro zs0 zrun0 zq0
        have zh5 := zrun0
        show Exs _ _ _ ⟨[some (.fr ((eL D.int) table)), some (.fr ((eL D.int) (m_shortest table))), none], []⟩ _
        refine exs_one (ex_ret ev_bl ?_)
        have efin : m_law_shortest table = true := by simp only [m_law_shortest, not_true_eq_false, not_false_eq_true, ↓reduceIte, ↓if_neg zh1, ↓if_neg zh2, ↓zh5]
        rw [efin] at zk
        exact zk _
def m_law_least_rotation_l0 (table : List Int) (actual : Int) (best : List Int) (zs0 : Unit) (zy0 : Nat) : Except Bool (Unit) :=
  let turned : List Int := ((slcD table (some ((0 : Int) + (zy0 : Int))) none) ++ (slcD table none (some ((0 : Int) + (zy0 : Int)))))
  if (((ltList ltI) turned best = true) ∨ ((((0 : Int) + (zy0 : Int)) < actual) ∧ (turned = best))) then .error false else .ok ()
def m_law_least_rotation (table : List Int) : Bool :=
  if ((¬ (true = true)) ∨ ((false = true) ∨ (¬ (((0 : Int) ≤ (m_least_rotation table)) ∧ ((m_least_rotation table) < (table.length : Int)))))) then false else let best1 : List Int := ((slcD table (some (m_least_rotation table)) none) ++ (slcD table none (some (m_least_rotation table))))
  match (runE (m_law_least_rotation_l0 table (m_least_rotation table) best1) (List.range ((table.length : Int)).toNat) ()) with | .error r => r | .ok zs0 => true
set_option hygiene false in
local macro_rules | `(tactic| walk_at "sd") => `(tactic| first | omega | exact Nat.le_trans (Nat.add_le_add slc_len slc_len) (by omega) | exact Nat.le_trans slc_len (by omega) | fail)
theorem sc_law_least_rotation : FnScope ["table", "actual", "best", "by", "turned"] ["table"] (defScope s_law_least_rotation) := ⟨rfl, rfl, rfl, by decide +kernel, rfl, by decide +kernel, by decide +kernel⟩
def sp_law_least_rotation : SpN := fun zcs zL zKc => ∃ table : List Int, zcs = [.fr ((eL D.int) table)] ∧ zL = [] ∧ (0 < table.length ∧ table.length ≤ 24) ∧ ∀ zL', zKc (.fr (D.bl (m_law_least_rotation table))) zL'
theorem ok_law_least_rotation (T : TX P K mg) : FnOk P w K mg base CX0 3 T.a_law_least_rotation T.d_law_least_rotation ["table"] (SpOf K mg sp_law_least_rotation) := by
  have O_least_rotation := ok_least_rotation (P := P) (w := w) (base := base) T
  refine T.F_law_least_rotation.okN sc_law_least_rotation (fun zcs zL zKc zh => by obtain ⟨table, rfl, _⟩ := zh; rfl) fun zcdv zA zout zst zH zE zB zcs zL zKc zhr zh => ?_
  obtain ⟨table, rfl, rfl, hpre, zk⟩ := zh
  have nd := sc_law_least_rotation.nd
  have hSL := sizeLine_eq
  show Exs _ _ _ ⟨[some (.fr ((eL D.int) table)), none, none, none, none], []⟩ _
  refine exs_cons (ex_set 1 (ev_call (ds := [(eL D.int) table]) (ds' := []) (dvs := []) (dfs := []) O_least_rotation (zhr.mono (by decide)) T.m_least_rotation T.k_least_rotation T.b_least_rotation .nil (fun _ => .nil) (ea_cons (ev_callTy (ds := [(eL D.int) table]) c_listL (ea_cons (ev_var 0 rfl (.inl rfl) rfl) ea_nil) (by exact rfl) T.n_list (by decide +kernel)) ea_nil) (fun _ zkk => ⟨table, rfl, rfl, (by walk_at "pre"), zkk⟩) (by exact rfl)) ?_ nd rfl (.inl rfl))
  show Exs _ _ _ ⟨[some (.fr ((eL D.int) table)), some (.fr (D.int (m_least_rotation table))), none, none, none], []⟩ _
  refine exs_cons (ex_ifP (bd_or (bd_not Iff.rfl) (bd_or Iff.rfl (bd_not (bd_and bd_d bd_d)))) (Ew.et (ew_orP (bd_not Iff.rfl) (et_not (et_val (ev_isi (T := "int") (b := true) (ev_var 1 rfl (.inl rfl) rfl) rfl (by decide) (by exact rfl) T.n_isinstance (by exact rfl) T.n_int (by decide +kernel)))) (fun zhp => (ew_orP Iff.rfl (et_val (ev_isi (T := "bool") (b := false) (ev_var 1 rfl (.inl rfl) rfl) rfl (by decide) (by exact rfl) T.n_isinstance (by exact rfl) T.n_bool (by decide +kernel))) (fun zhp => (ew_or1 (et_not (et_chain bd_d o_le o_lt ev_int (ev_var 1 rfl (.inl rfl) rfl) (fun zhp => (ev_len (ln_L (xs := table) (enc := D.int) (by exact rfl)) (ev_var 0 rfl (.inl rfl) rfl) (by exact rfl) T.n_len)))))))))) (fun (zh1 : ((¬ (true = true)) ∨ ((false = true) ∨ (¬ (((0 : Int) ≤ (m_least_rotation table)) ∧ ((m_least_rotation table) < (table.length : Int))))))) => ?_) (fun (zh1 : ¬ ((¬ (true = true)) ∨ ((false = true) ∨ (¬ (((0 : Int) ≤ (m_least_rotation table)) ∧ ((m_least_rotation table) < (table.length : Int))))))) => ?_))
  · skip
    refine exs_one (ex_ret ev_bl ?_)
    have efin : m_law_least_rotation table = false := by simp only [m_law_least_rotation, not_true_eq_false, not_false_eq_true, ↓reduceIte, ↓if_pos zh1]
    rw [efin] at zk
    exact zk _
  · skip
    refine exs_nil ?_
    show Exs _ _ _ ⟨[some (.fr ((eL D.int) table)), some (.fr (D.int (m_least_rotation table))), none, none, none], []⟩ _
    refine exs_cons (ex_set 2 (ev_bin (o_catT (enc := D.int) (xs := (slcD table (some (m_least_rotation table)) none)) (ys := (slcD table none (some (m_least_rotation table)))) (by walk_at "sd")) (ev_sliceT (enc := D.int) (xs := table) (by exact rfl) (ev_var 0 rfl (.inl rfl) rfl) (eo_some (ev_var 1 rfl (.inl rfl) rfl)) eo_none) (ev_sliceT (enc := D.int) (xs := table) (by exact rfl) (ev_var 0 rfl (.inl rfl) rfl) eo_none (eo_some (ev_var 1 rfl (.inl rfl) rfl)))) ?_ nd rfl (.inl rfl))
    show Exs _ _ _ ⟨[some (.fr ((eL D.int) table)), some (.fr (D.int (m_least_rotation table))), some (.fr ((eL D.int) ((slcD table (some (m_least_rotation table)) none) ++ (slcD table none (some (m_least_rotation table)))))), none, none], []⟩ _
    generalize zg_best : ((slcD table (some (m_least_rotation table)) none) ++ (slcD table none (some (m_least_rotation table)))) = best
    show Exs _ _ _ ⟨[some (.fr ((eL D.int) table)), some (.fr (D.int (m_least_rotation table))), some (.fr ((eL D.int) best)), none, none], []⟩ _
    refine exs_cons (ex_forE (enc := (fun i : Nat => D.int ((0 : Int) + (i : Int)))) (fun (zs0 : Unit) => (⟨[some (.fr ((eL D.int) table)), some (.fr (D.int (m_least_rotation table))), some (.fr ((eL D.int) best)), none, none], []⟩ : Nz.S)) (m_law_least_rotation_l0 table (m_least_rotation table) best) () (fun (zi0 : Nat) (zs0 : Unit) => True) (fun r c S' => c = .fr (D.bl r) ∧ True) (src_range1 (ea_cons (ev_len (ln_L (xs := table) (enc := D.int) (by exact rfl)) (ev_var 0 rfl (.inl rfl) rfl) (by exact rfl) T.n_len) ea_nil) (by exact rfl) T.n_range (by walk_at "sd") (by walk_at "sd")) ⟨⟨.inr rfl, .inr rfl, .inr rfl, .inl rfl, .inl rfl, trivial⟩, rfl⟩ trivial ?_ ?_ ?_ PassesOwn.never rfl)
    · intro zi0 zy0 zs0 zhy0 zrun0 zq0
      skip
      refine ⟨⟨[some (.fr ((eL D.int) table)), some (.fr (D.int (m_least_rotation table))), some (.fr ((eL D.int) best)), some (.fr (D.int ((0 : Int) + (zy0 : Int)))), none], []⟩, (eg_name 3 nd rfl (.inl rfl)), ?_⟩
      refine exs_cons (ex_set 4 (ev_bin (o_catT (enc := D.int) (xs := (slcD table (some ((0 : Int) + (zy0 : Int))) none)) (ys := (slcD table none (some ((0 : Int) + (zy0 : Int))))) (by walk_at "sd")) (ev_sliceT (enc := D.int) (xs := table) (by exact rfl) (ev_var 0 rfl (.inl rfl) rfl) (eo_some (ev_var 3 rfl (.inl rfl) rfl)) eo_none) (ev_sliceT (enc := D.int) (xs := table) (by exact rfl) (ev_var 0 rfl (.inl rfl) rfl) eo_none (eo_some (ev_var 3 rfl (.inl rfl) rfl)))) ?_ nd rfl (.inl rfl))
      show Exs _ _ _ ⟨[some (.fr ((eL D.int) table)), some (.fr (D.int (m_least_rotation table))), some (.fr ((eL D.int) best)), some (.fr (D.int ((0 : Int) + (zy0 : Int)))), some (.fr ((eL D.int) ((slcD table (some ((0 : Int) + (zy0 : Int))) none) ++ (slcD table none (some ((0 : Int) + (zy0 : Int)))))))], []⟩ _
      generalize zg_turned : ((slcD table (some ((0 : Int) + (zy0 : Int))) none) ++ (slcD table none (some ((0 : Int) + (zy0 : Int))))) = turned
      show Exs _ _ _ ⟨[some (.fr ((eL D.int) table)), some (.fr (D.int (m_least_rotation table))), some (.fr ((eL D.int) best)), some (.fr (D.int ((0 : Int) + (zy0 : Int)))), some (.fr ((eL D.int) turned))], []⟩ _
      refine exs_one (ex_ifP (bd_or Iff.rfl (bd_and bd_d bd_d)) (Ew.et (ew_orP Iff.rfl (et_cmp (o_ltD zhr.units (oe_L oe_int) (x := turned) (y := best)) (ev_var 4 rfl (.inl rfl) rfl) (ev_var 2 rfl (.inl rfl) rfl) (nomark _)) (fun zhp => (ew_or1 (Ew.et (ew_andP bd_d (et_cmp o_lt (ev_var 3 rfl (.inl rfl) rfl) (ev_var 1 rfl (.inl rfl) rfl) (nomark _)) (fun zhp => (ew_and1 (et_cmp (o_eqD (e := (eL D.int)) (x := turned) (y := best) zhr.units (ee_L ee_int)) (ev_var 4 rfl (.inl rfl) rfl) (ev_var 2 rfl (.inl rfl) rfl) (nomark _)))))))))) (fun (zh2 : (((ltList ltI) turned best = true) ∨ ((((0 : Int) + (zy0 : Int)) < (m_least_rotation table)) ∧ (turned = best)))) => ?_) (fun (zh2 : ¬ (((ltList ltI) turned best = true) ∨ ((((0 : Int) + (zy0 : Int)) < (m_least_rotation table)) ∧ (turned = best)))) => ?_))
      · skip
        refine exs_one (ex_ret ev_bl ?_)
        have est : (m_law_least_rotation_l0 table (m_least_rotation table) best) zs0 zy0 = .error false := by subst zg_turned; simp only [m_law_least_rotation_l0, not_true_eq_false, not_false_eq_true, ↓reduceIte, ↓if_pos zh2]
        exact ⟨_, est, rfl, trivial⟩
      · skip
        refine exs_nil ?_
        have est : (m_law_least_rotation_l0 table (m_least_rotation table) best) zs0 zy0 = .ok () := by subst zg_turned; simp only [m_law_least_rotation_l0, not_true_eq_false, not_false_eq_true, ↓reduceIte, ↓if_neg zh2]
        exact ⟨_, est, ⟨⟨.inr rfl, .inr rfl, .inr rfl, .inl rfl, .inl rfl, trivial⟩, rfl⟩, trivial⟩
    · rintro zr zc zS zrun0 ⟨rfl, zhL⟩
      skip
      have zh3 := zrun0
      have efin : m_law_least_rotation table = zr := by subst zg_best; simp only [m_law_least_rotation, not_true_eq_false, not_false_eq_true, ↓reduceIte, ↓if_neg zh1, ↓zh3]
      rw [efin] at zk
      exact zk _
    · intro zs0 zrun0 zq0
      have zh4 := zrun0
      show Exs _ _ _ ⟨[some (.fr ((eL D.int) table)), some (.fr (D.int (m_least_rotation table))), some (.fr ((eL D.int) best)), none, none], []⟩ _
      refine exs_one (ex_ret ev_bl ?_)
      have efin : m_law_least_rotation table = true := by subst zg_best; simp only [m_law_least_rotation, not_true_eq_false, not_false_eq_true, ↓reduceIte, ↓if_neg zh1, ↓zh4]
      rw [efin] at zk
      exact zk _
def m_law_new_lists_l0 (zy0 : List Int) : List Int :=
  (zy0 ++ [(7 : Int)])
def m_law_new_lists (one : List Int) (other : List Int) : Bool :=
  if ((¬ (one = one)) ∨ (¬ ((m_law_is_table (m_repeated one (1 : Int)) one) = true))) then false else if ((¬ ((m_law_is_table (m_repeatedu one (2 : Int)) (one ++ one)) = true)) ∨ (¬ ((m_law_is_table (m_rotatedu one (0 : Int)) one) = true))) then false else if ((¬ (true = true)) ∨ ((¬ (true = true)) ∨ (¬ ((m_are_alikeu one one) = true)))) then false else (true && (m_law_is_table (m_reducedu one [(0 : Int)]) one))
theorem rep_len1 (t : List Int) : (m_repeated t (1 : Int)).length = t.length := by rw [rep_len]; exact Nat.one_mul _
theorem rep_len2 (t : List Int) : (m_repeated t (2 : Int)).length = 2 * t.length := by rw [rep_len]; rfl
theorem com_one {one : List Int} (h1 : 0 < one.length) (h2 : one.length ≤ 24) : (m_common one [(0 : Int)]).1.length ≤ 30000 := by
  show (m_repeated one (m_common_length one [(0 : Int)] / (one.length : Int))).length ≤ 30000
  rw [cl_eq, show Nat.lcm one.length ([(0 : Int)] : List Int).length = one.length from Nat.lcm_one_right _, Int.ediv_self (by omega), rep_len1]
  omega
theorem rot_len (t : List Int) (b : Int) : (m_rotated t b).length ≤ 2 * t.length := by
  unfold m_rotated
  dsimp only
  rw [List.length_append]
  exact Nat.le_trans (Nat.add_le_add slc_len slc_len) (by omega)
theorem new_len {one : List Int} (h1 : 0 < one.length) (h2 : one.length ≤ 24) {b : Int} : ∀ x ∈ [m_repeated one (1 : Int), m_rotated one (0 : Int), m_rotated one b, m_shortest one, m_joined one [(0 : Int)]], x.length ≤ 20000 := by
  intro x hx
  simp only [List.mem_cons, List.not_mem_nil, or_false] at hx
  rcases hx with rfl | rfl | rfl | rfl | rfl
  · rw [rep_len1]; omega
  · have := rot_len one 0; omega
  · have := rot_len one b; omega
  · have := short_len h1; omega
  · unfold m_joined
    rw [List.length_map, List.length_zip]
    exact Nat.le_trans (Nat.min_le_left _ _) (com_len h1 h2 (by decide) (by decide))
set_option hygiene false in
local macro_rules | `(tactic| walk_at "pre") => `(tactic| first | exact ⟨by omega, by omega⟩ | exact ⟨by omega, by omega, by omega⟩ | exact ⟨by omega, by omega, by omega, by omega⟩ | exact ⟨by omega, by omega, by decide, by decide⟩ | exact ⟨(show (m_repeated one (2 : Int)).length ≤ 30000 by omega), by rw [List.length_append]; omega⟩ | exact ⟨Nat.le_trans hr3 (by omega), by omega⟩ | (refine ⟨?_, by omega⟩; show (m_reduced one [(0 : Int)]).length ≤ 30000; unfold m_reduced; rw [List.length_map, List.length_zip]; exact Nat.le_trans (Nat.min_le_left _ _) (com_one hpre.1 hpre.2.1)) | fail)
theorem sc_law_new_lists : FnScope ["one", "other", "first", "answers", "answer", "kept", "pair"] ["one", "other"] (defScope s_law_new_lists) := ⟨rfl, rfl, rfl, by decide +kernel, rfl, by decide +kernel, by decide +kernel⟩
def sp_law_new_lists : SpN := fun zcs zL zKc => ∃ one : List Int, ∃ other : List Int, zcs = [.fr ((eL D.int) one), .fr ((eL D.int) other)] ∧ zL = [] ∧ (0 < one.length ∧ one.length ≤ 24 ∧ 0 < other.length ∧ other.length ≤ 24) ∧ ∀ zL', zKc (.fr (D.bl (m_law_new_lists one other))) zL'
theorem ok_law_new_lists (T : TX P K mg) : FnOk P w K mg base CX0 4 T.a_law_new_lists T.d_law_new_lists ["one", "other"] (SpOf K mg sp_law_new_lists) := by
  have O_law_is_table := ok_law_is_table (P := P) (w := w) (base := base) T
  have O_are_alikeu := ok_are_alikeu (P := P) (w := w) (base := base) T
  have O_commonu := ok_commonu (P := P) (w := w) (base := base) T
  have O_joinedn := ok_joinedn (P := P) (w := w) (base := base) T
  have O_reducedu := ok_reducedu (P := P) (w := w) (base := base) T
  have O_repeated := ok_repeated (P := P) (w := w) (base := base) T
  have O_repeatedn := ok_repeatedn (P := P) (w := w) (base := base) T
  have O_repeatedu := ok_repeatedu (P := P) (w := w) (base := base) T
  have O_rotatedn := ok_rotatedn (P := P) (w := w) (base := base) T
  have O_rotatedu := ok_rotatedu (P := P) (w := w) (base := base) T
  have O_shortestn := ok_shortestn (P := P) (w := w) (base := base) T
  have O_shortestu := ok_shortestu (P := P) (w := w) (base := base) T
  refine T.F_law_new_lists.okN sc_law_new_lists (fun zcs zL zKc zh => by obtain ⟨one, other, rfl, _⟩ := zh; rfl) fun zcdv zA zout zst zH zE zB zcs zL zKc zhr zh => ?_
  obtain ⟨one, other, rfl, rfl, hpre, zk⟩ := zh
  have nd := sc_law_new_lists.nd
  have hSL := sizeLine_eq
  have hnl := new_len hpre.1 hpre.2.1 (b := (one.length : Int))
  have hr1 := rep_len1 one
  have hr2 := rep_len2 one
  have hr3 := rot_len one 0
  show Exs _ _ _ ⟨[some (.fr ((eL D.int) one)), some (.fr ((eL D.int) other)), none, none, none, none, none], []⟩ _
  refine exs_cons (ex_set 2 (ev_callTy (ds := [(eL D.int) one]) c_listL (ea_cons (ev_var 0 rfl (.inl rfl) rfl) ea_nil) (by exact rfl) T.n_list (by decide +kernel)) ?_ nd rfl (.inl rfl))
  show Exs _ _ _ ⟨[some (.fr ((eL D.int) one)), some (.fr ((eL D.int) other)), some (.fr ((eL D.int) one)), none, none, none, none], []⟩ _
  refine exs_cons (ex_set 3 (ev_lstC 300 (cs := [.ad 400, .ad 401, .ad 402, .ad 403, .ad 404]) (ea_cons (ev_callNew 400 (ds := [(eL D.int) one, D.int (1 : Int)]) (xs := ((m_repeatedn one (1 : Int))).map D.int) O_repeatedn (zhr.mono (by decide)) T.m_repeatedn T.k_repeatedn T.b_repeatedn (ea_cons (ev_var 2 rfl (.inl rfl) rfl) (ea_cons ev_int ea_nil)) (by simp [names]) (by decide) (fun _ zkk => ⟨one, (1 : Int), rfl, rfl, (by walk_at "pre"), zkk⟩) (by exact rfl)) (ea_cons (ev_callNew 401 (ds := [(eL D.int) one, D.int (0 : Int)]) (xs := ((m_rotatedn one (0 : Int))).map D.int) O_rotatedn (zhr.mono (by decide)) T.m_rotatedn T.k_rotatedn T.b_rotatedn (ea_cons (ev_var 2 rfl (.inl rfl) rfl) (ea_cons ev_int ea_nil)) (by simp [names]) (by decide) (fun _ zkk => ⟨one, (0 : Int), rfl, rfl, (by walk_at "pre"), zkk⟩) (by exact rfl)) (ea_cons (ev_callNew 402 (ds := [(eL D.int) one, D.int (one.length : Int)]) (xs := ((m_rotatedn one (one.length : Int))).map D.int) O_rotatedn (zhr.mono (by decide)) T.m_rotatedn T.k_rotatedn T.b_rotatedn (ea_cons (ev_var 2 rfl (.inl rfl) rfl) (ea_cons (ev_len (ln_L (xs := one) (enc := D.int) (by exact rfl)) (ev_var 0 rfl (.inl rfl) rfl) (by exact rfl) T.n_len) ea_nil)) (by simp [names]) (by decide) (fun _ zkk => ⟨one, (one.length : Int), rfl, rfl, (by walk_at "pre"), zkk⟩) (by exact rfl)) (ea_cons (ev_callNew 403 (ds := [(eL D.int) one]) (xs := ((m_shortestn one)).map D.int) O_shortestn (zhr.mono (by decide)) T.m_shortestn T.k_shortestn T.b_shortestn (ea_cons (ev_var 2 rfl (.inl rfl) rfl) ea_nil) (by simp [names]) (by decide) (fun _ zkk => ⟨one, rfl, rfl, (by walk_at "pre"), zkk⟩) (by exact rfl)) (ea_cons (ev_callNew 404 (ds := [(eL D.int) one, (eL D.int) [(0 : Int)]]) (xs := ((m_joinedn one [(0 : Int)])).map D.int) O_joinedn (zhr.mono (by decide)) T.m_joinedn T.k_joinedn T.b_joinedn (ea_cons (ev_var 2 rfl (.inl rfl) rfl) (ea_cons (ev_lstF (enc := D.int) [(0 : Int)] (ea_cons ev_int ea_nil) rfl (by simp only [List.length_cons, List.length_nil]; decide)) ea_nil)) (by simp [names]) (by decide) (fun _ zkk => ⟨one, [(0 : Int)], rfl, rfl, (by walk_at "pre"), zkk⟩) (by exact rfl)) ea_nil (h1 := sub_of rfl) (h2 := sub_of rfl)) (h1 := sub_of rfl) (h2 := sub_of rfl)) (h1 := sub_of rfl) (h2 := sub_of rfl)) (h1 := sub_of rfl) (h2 := sub_of rfl)) (h1 := sub_of rfl) (h2 := sub_of rfl)) (by decide) (by simp [names]) (by decide) (h1 := sub_of rfl)) ?_ nd rfl (.inl rfl)) 
  refine exs_perm (L' := [] ++ nest 300 400 D.int [(m_repeatedn one (1 : Int)), (m_rotatedn one (0 : Int)), (m_rotatedn one (one.length : Int)), (m_shortestn one), (m_joinedn one [(0 : Int)])]) (by exact List.perm_append_singleton _ _) ?_
  show Exs _ _ _ ⟨[some (.fr ((eL D.int) one)), some (.fr ((eL D.int) other)), some (.fr ((eL D.int) one)), some (.ad 300), none, none, none], [] ++ nest 300 400 D.int [(m_repeatedn one (1 : Int)), (m_rotatedn one (0 : Int)), (m_rotatedn one (one.length : Int)), (m_shortestn one), (m_joinedn one [(0 : Int)])]⟩ _
  refine exs_cons (ex_forNest (m_law_new_lists_l0) (fun _ => True) trivial PassesOwn.never rfl (ev_var 3 rfl (.inl rfl) rfl) (by decide) (by decide) rfl ?_ ?_)
  · intro zB9 za0 zi0 zy0 zhy0 zrun0
    have hz := hnl zy0 (List.mem_of_getElem? zhy0)
    refine ⟨⟨[some (.fr ((eL D.int) one)), some (.fr ((eL D.int) other)), some (.fr ((eL D.int) one)), some (.xv (.ref za0)), some (.ad 99), none, none], [(99, .fl ((zy0).map D.int))]⟩, eg_name 4 nd rfl (.inl rfl), ?_⟩
    refine exs_one (ex_expr (ev_appendT (n := 99) (enc := D.int) (xs := zy0) (xs0 := zy0) (7 : Int) rfl rfl rfl (by walk_at "sd") (ev_var 4 rfl (.inl rfl) rfl) ev_int) ?_)
    have est : (m_law_new_lists_l0) zy0 = (zy0 ++ [(7 : Int)]) := by simp only [m_law_new_lists_l0, not_true_eq_false, not_false_eq_true, ↓reduceIte]
    show Le _ _ ∧ _
    try rw [est]
    exact ⟨⟨⟨.inr rfl, .inr rfl, .inr rfl, .inr rfl, .inl rfl, .inl rfl, .inl rfl, trivial⟩, rfl⟩, trivial⟩
  · intro _
    show Exs _ _ _ ⟨[some (.fr ((eL D.int) one)), some (.fr ((eL D.int) other)), some (.fr ((eL D.int) one)), some (.ad 300), none, none, none], [] ++ nest 300 400 D.int ([(m_repeatedn one (1 : Int)), (m_rotatedn one (0 : Int)), (m_rotatedn one (one.length : Int)), (m_shortestn one), (m_joinedn one [(0 : Int)])].map (m_law_new_lists_l0))⟩ _
    refine exs_freezeAll (ρ' := [some (.fr ((eL D.int) one)), some (.fr ((eL D.int) other)), some (.fr ((eL D.int) one)), some (.fr ((eL (eL D.int)) ([(m_repeatedn one (1 : Int)), (m_rotatedn one (0 : Int)), (m_rotatedn one (one.length : Int)), (m_shortestn one), (m_joinedn one [(0 : Int)])].map (m_law_new_lists_l0)))), none, none, none]) (.cons .fr (.cons .fr (.cons .fr (.cons (.cl rfl (boOf_nest rfl (by decide))) (.cons .no (.cons .no (.cons .no .nil))))))) ?_
    show Exs _ _ _ ⟨[some (.fr ((eL D.int) one)), some (.fr ((eL D.int) other)), some (.fr ((eL D.int) one)), some (.fr ((eL (eL D.int)) ([(m_repeatedn one (1 : Int)), (m_rotatedn one (0 : Int)), (m_rotatedn one (one.length : Int)), (m_shortestn one), (m_joinedn one [(0 : Int)])].map (m_law_new_lists_l0)))), none, none, none], []⟩ _
    refine exs_cons (ex_ifP (bd_or bd_n (bd_not Iff.rfl)) (Ew.et (ew_orP bd_n (et_cmp (o_neD (e := (eL D.int)) (x := one) (y := one) zhr.units (ee_L ee_int)) (ev_var 2 rfl (.inl rfl) rfl) (ev_var 0 rfl (.inl rfl) rfl) (nomark _)) (fun zhp => (ew_or1 (et_not (et_val (ev_call (ds := [(eL D.int) (m_repeated one (1 : Int)), (eL D.int) one]) (ds' := []) (dvs := []) (dfs := []) O_law_is_table (zhr.mono (by decide)) T.m_law_is_table T.k_law_is_table T.b_law_is_table .nil (fun _ => .nil) (ea_cons (ev_call (ds := [(eL D.int) one, D.int (1 : Int)]) (ds' := []) (dvs := []) (dfs := []) O_repeated (zhr.mono (by decide)) T.m_repeated T.k_repeated T.b_repeated .nil (fun _ => .nil) (ea_cons (ev_var 2 rfl (.inl rfl) rfl) (ea_cons ev_int ea_nil)) (fun _ zkk => ⟨one, (1 : Int), rfl, rfl, (by walk_at "pre"), zkk⟩) (by exact rfl)) (ea_cons (ev_var 0 rfl (.inl rfl) rfl) ea_nil)) (fun _ zkk => ⟨(m_repeated one (1 : Int)), one, rfl, rfl, (by walk_at "pre"), zkk⟩) (by exact rfl)))))))) (fun (zh1 : ((¬ (one = one)) ∨ (¬ ((m_law_is_table (m_repeated one (1 : Int)) one) = true)))) => ?_) (fun (zh1 : ¬ ((¬ (one = one)) ∨ (¬ ((m_law_is_table (m_repeated one (1 : Int)) one) = true)))) => ?_))
    · skip
      refine exs_one (ex_ret ev_bl ?_)
      have efin : m_law_new_lists one other = false := by simp only [m_law_new_lists, not_true_eq_false, not_false_eq_true, ↓reduceIte, ↓if_pos zh1]
      rw [efin] at zk
      exact zk _
    · skip
      refine exs_nil ?_
      show Exs _ _ _ ⟨[some (.fr ((eL D.int) one)), some (.fr ((eL D.int) other)), some (.fr ((eL D.int) one)), some (.fr ((eL (eL D.int)) ([(m_repeatedn one (1 : Int)), (m_rotatedn one (0 : Int)), (m_rotatedn one (one.length : Int)), (m_shortestn one), (m_joinedn one [(0 : Int)])].map (m_law_new_lists_l0)))), none, none, none], []⟩ _
      refine exs_cons (ex_set 5 (ev_callTy (ds := [(eL D.int) one]) c_tuple (ea_cons (ev_var 0 rfl (.inl rfl) rfl) ea_nil) (by exact rfl) T.n_tuple (by decide +kernel)) ?_ nd rfl (.inl rfl))
      show Exs _ _ _ ⟨[some (.fr ((eL D.int) one)), some (.fr ((eL D.int) other)), some (.fr ((eL D.int) one)), some (.fr ((eL (eL D.int)) ([(m_repeatedn one (1 : Int)), (m_rotatedn one (0 : Int)), (m_rotatedn one (one.length : Int)), (m_shortestn one), (m_joinedn one [(0 : Int)])].map (m_law_new_lists_l0)))), none, some (.fr ((eU D.int) one)), none], []⟩ _
      refine exs_cons (ex_ifP (bd_or (bd_not Iff.rfl) (bd_not Iff.rfl)) (Ew.et (ew_orP (bd_not Iff.rfl) (et_not (et_val (ev_call (ds := [(eL D.int) (m_repeatedu one (2 : Int)), (eL D.int) (one ++ one)]) (ds' := []) (dvs := []) (dfs := []) O_law_is_table (zhr.mono (by decide)) T.m_law_is_table T.k_law_is_table T.b_law_is_table .nil (fun _ => .nil) (ea_cons (ev_call (ds := [(eU D.int) one, D.int (2 : Int)]) (ds' := []) (dvs := []) (dfs := []) O_repeatedu (zhr.mono (by decide)) T.m_repeatedu T.k_repeatedu T.b_repeatedu .nil (fun _ => .nil) (ea_cons (ev_var 5 rfl (.inl rfl) rfl) (ea_cons ev_int ea_nil)) (fun _ zkk => ⟨one, (2 : Int), rfl, rfl, (by walk_at "pre"), zkk⟩) (by exact rfl)) (ea_cons (ev_bin (o_catT (enc := D.int) (xs := one) (ys := one) (by walk_at "sd")) (ev_var 0 rfl (.inl rfl) rfl) (ev_var 0 rfl (.inl rfl) rfl)) ea_nil)) (fun _ zkk => ⟨(m_repeatedu one (2 : Int)), (one ++ one), rfl, rfl, (by walk_at "pre"), zkk⟩) (by exact rfl)))) (fun zhp => (ew_or1 (et_not (et_val (ev_call (ds := [(eL D.int) (m_rotatedu one (0 : Int)), (eL D.int) one]) (ds' := []) (dvs := []) (dfs := []) O_law_is_table (zhr.mono (by decide)) T.m_law_is_table T.k_law_is_table T.b_law_is_table .nil (fun _ => .nil) (ea_cons (ev_call (ds := [(eU D.int) one, D.int (0 : Int)]) (ds' := []) (dvs := []) (dfs := []) O_rotatedu (zhr.mono (by decide)) T.m_rotatedu T.k_rotatedu T.b_rotatedu .nil (fun _ => .nil) (ea_cons (ev_var 5 rfl (.inl rfl) rfl) (ea_cons ev_int ea_nil)) (fun _ zkk => ⟨one, (0 : Int), rfl, rfl, (by walk_at "pre"), zkk⟩) (by exact rfl)) (ea_cons (ev_var 0 rfl (.inl rfl) rfl) ea_nil)) (fun _ zkk => ⟨(m_rotatedu one (0 : Int)), one, rfl, rfl, (by walk_at "pre"), zkk⟩) (by exact rfl)))))))) (fun (zh2 : ((¬ ((m_law_is_table (m_repeatedu one (2 : Int)) (one ++ one)) = true)) ∨ (¬ ((m_law_is_table (m_rotatedu one (0 : Int)) one) = true)))) => ?_) (fun (zh2 : ¬ ((¬ ((m_law_is_table (m_repeatedu one (2 : Int)) (one ++ one)) = true)) ∨ (¬ ((m_law_is_table (m_rotatedu one (0 : Int)) one) = true)))) => ?_))
      · skip
        refine exs_one (ex_ret ev_bl ?_)
        have efin : m_law_new_lists one other = false := by simp only [m_law_new_lists, not_true_eq_false, not_false_eq_true, ↓reduceIte, ↓if_neg zh1, ↓if_pos zh2]
        rw [efin] at zk
        exact zk _
      · skip
        refine exs_nil ?_
        show Exs _ _ _ ⟨[some (.fr ((eL D.int) one)), some (.fr ((eL D.int) other)), some (.fr ((eL D.int) one)), some (.fr ((eL (eL D.int)) ([(m_repeatedn one (1 : Int)), (m_rotatedn one (0 : Int)), (m_rotatedn one (one.length : Int)), (m_shortestn one), (m_joinedn one [(0 : Int)])].map (m_law_new_lists_l0)))), none, some (.fr ((eU D.int) one)), none], []⟩ _
        refine exs_cons (ex_set 6 (ev_call (ds := [(eU D.int) one, (eU D.int) other]) (ds' := []) (dvs := []) (dfs := []) O_commonu (zhr.mono (by decide)) T.m_commonu T.k_commonu T.b_commonu .nil (fun _ => .nil) (ea_cons (ev_var 5 rfl (.inl rfl) rfl) (ea_cons (ev_callTy (ds := [(eL D.int) other]) c_tuple (ea_cons (ev_var 1 rfl (.inl rfl) rfl) ea_nil) (by exact rfl) T.n_tuple (by decide +kernel)) ea_nil)) (fun _ zkk => ⟨one, other, rfl, rfl, (by walk_at "pre"), zkk⟩) (by exact rfl)) ?_ nd rfl (.inl rfl))
        show Exs _ _ _ ⟨[some (.fr ((eL D.int) one)), some (.fr ((eL D.int) other)), some (.fr ((eL D.int) one)), some (.fr ((eL (eL D.int)) ([(m_repeatedn one (1 : Int)), (m_rotatedn one (0 : Int)), (m_rotatedn one (one.length : Int)), (m_shortestn one), (m_joinedn one [(0 : Int)])].map (m_law_new_lists_l0)))), none, some (.fr ((eU D.int) one)), some (.fr ((eT2 (eL D.int) (eL D.int)) (m_commonu one other)))], []⟩ _
        refine exs_cons (ex_ifP (bd_or (bd_not Iff.rfl) (bd_or (bd_not Iff.rfl) (bd_not Iff.rfl))) (Ew.et (ew_orP (bd_not Iff.rfl) (et_not (et_val (ev_isi (T := "list") (b := true) (ev_ix (.t (d := (eL D.int) ((m_commonu one other).1)) rfl) (ev_var 6 rfl (.inl rfl) rfl) ev_int) rfl (by decide) (by exact rfl) T.n_isinstance (by exact rfl) T.n_list (by decide +kernel)))) (fun zhp => (ew_orP (bd_not Iff.rfl) (et_not (et_val (ev_isi (T := "list") (b := true) (ev_ix (.t (d := (eL D.int) ((m_commonu one other).2)) rfl) (ev_var 6 rfl (.inl rfl) rfl) ev_int) rfl (by decide) (by exact rfl) T.n_isinstance (by exact rfl) T.n_list (by decide +kernel)))) (fun zhp => (ew_or1 (et_not (et_val (ev_call (ds := [(eU D.int) one, (eL D.int) one]) (ds' := []) (dvs := []) (dfs := []) O_are_alikeu (zhr.mono (by decide)) T.m_are_alikeu T.k_are_alikeu T.b_are_alikeu .nil (fun _ => .nil) (ea_cons (ev_var 5 rfl (.inl rfl) rfl) (ea_cons (ev_var 0 rfl (.inl rfl) rfl) ea_nil)) (fun _ zkk => ⟨one, one, rfl, rfl, (by walk_at "pre"), zkk⟩) (by exact rfl)))))))))) (fun (zh3 : ((¬ (true = true)) ∨ ((¬ (true = true)) ∨ (¬ ((m_are_alikeu one one) = true))))) => ?_) (fun (zh3 : ¬ ((¬ (true = true)) ∨ ((¬ (true = true)) ∨ (¬ ((m_are_alikeu one one) = true))))) => ?_))
        · skip
          refine exs_one (ex_ret ev_bl ?_)
          have efin : m_law_new_lists one other = false := by simp only [m_law_new_lists, not_true_eq_false, not_false_eq_true, ↓reduceIte, ↓if_neg zh1, ↓if_neg zh2, ↓if_pos zh3]
          rw [efin] at zk
          exact zk _
        · skip
          refine exs_nil ?_
          show Exs _ _ _ ⟨[some (.fr ((eL D.int) one)), some (.fr ((eL D.int) other)), some (.fr ((eL D.int) one)), some (.fr ((eL (eL D.int)) ([(m_repeatedn one (1 : Int)), (m_rotatedn one (0 : Int)), (m_rotatedn one (one.length : Int)), (m_shortestn one), (m_joinedn one [(0 : Int)])].map (m_law_new_lists_l0)))), none, some (.fr ((eU D.int) one)), some (.fr ((eT2 (eL D.int) (eL D.int)) (m_commonu one other)))], []⟩ _
          refine exs_one (ex_ret (ev_andP Iff.rfl (ev_isi (T := "list") (b := true) (ev_call (ds := [(eU D.int) one]) (ds' := []) (dvs := []) (dfs := []) O_shortestu (zhr.mono (by decide)) T.m_shortestu T.k_shortestu T.b_shortestu .nil (fun _ => .nil) (ea_cons (ev_var 5 rfl (.inl rfl) rfl) ea_nil) (fun _ zkk => ⟨one, rfl, rfl, (by walk_at "pre"), zkk⟩) (by exact rfl)) rfl (by decide) (by exact rfl) T.n_isinstance (by exact rfl) T.n_list (by decide +kernel)) (fun zhp => (ev_one (ev_call (ds := [(eL D.int) (m_reducedu one [(0 : Int)]), (eL D.int) one]) (ds' := []) (dvs := []) (dfs := []) O_law_is_table (zhr.mono (by decide)) T.m_law_is_table T.k_law_is_table T.b_law_is_table .nil (fun _ => .nil) (ea_cons (ev_call (ds := [(eU D.int) one, (eU D.int) [(0 : Int)]]) (ds' := []) (dvs := []) (dfs := []) O_reducedu (zhr.mono (by decide)) T.m_reducedu T.k_reducedu T.b_reducedu .nil (fun _ => .nil) (ea_cons (ev_var 5 rfl (.inl rfl) rfl) (ea_cons (ev_tupU (ds := [D.int (0 : Int)]) (enc := D.int) [(0 : Int)] (ea_cons ev_int ea_nil) rfl (by simp only [List.length_cons, List.length_nil]; decide)) ea_nil)) (fun _ zkk => ⟨one, [(0 : Int)], rfl, rfl, (by walk_at "pre"), zkk⟩) (by exact rfl)) (ea_cons (ev_var 0 rfl (.inl rfl) rfl) ea_nil)) (fun _ zkk => ⟨(m_reducedu one [(0 : Int)]), one, rfl, rfl, (by walk_at "pre"), zkk⟩) (by exact rfl))))) ?_)
          have efin : m_law_new_lists one other = (true && (m_law_is_table (m_reducedu one [(0 : Int)]) one)) := by simp only [m_law_new_lists, not_true_eq_false, not_false_eq_true, ↓reduceIte, ↓if_neg zh1, ↓if_neg zh2, ↓if_neg zh3]
          rw [efin] at zk
          exact zk _
def m_law_c0 (one : List Int) (other : List Int) (zs0 : Int) : Bool := ((!decide ((zs0 % (one.length : Int)) = (0 : Int))) || (!decide ((zs0 % (other.length : Int)) = (0 : Int))))
def m_law_w0 (one : List Int) (other : List Int) (zs0 : Int) : Int :=
  (zs0 + (1 : Int))
def m_law (script : List Int) : Bool :=
  let numbers1 : List Int := (m_law_numbers script (26 : Int))
  let times1 : Int := ((1 : Int) + ((numbers1.getD ((23 : Int)).toNat default) % (4 : Int)))
  let by_1 : Int := (numbers1.getD ((24 : Int)).toNat default)
  let first : List Int := (m_law_tables numbers1).1
  let second : List Int := (m_law_tables numbers1).2
  if (¬ ((m_law_is_table (m_repeated first times1) (List.flatten (List.replicate (times1).toNat ((m_law_tables numbers1).1)))) = true)) then false else if (¬ ((m_law_is_table (m_rotated first by_1) ((List.range ((((m_law_tables numbers1).1).length : Int)).toNat).map (fun zc6 : Nat => (m_law_slot ((m_law_tables numbers1).1) (by_1 + ((0 : Int) + (zc6 : Int))))))) = true)) then false else if ((¬ ((m_common_length first second) = (iterW (m_law_c0 ((m_law_tables numbers1).1) ((m_law_tables numbers1).2)) (m_law_w0 ((m_law_tables numbers1).1) ((m_law_tables numbers1).2)) 288 (1 : Int)))) ∨ ((¬ ((m_law_shortest ((m_law_tables numbers1).1)) = true)) ∨ (¬ ((m_law_least_rotation ((m_law_tables numbers1).1)) = true)))) then false else if ((¬ ((m_law_shortest ((m_law_tables numbers1).2)) = true)) ∨ ((¬ ((m_law_least_rotation ((m_law_tables numbers1).2)) = true)) ∨ (¬ ((m_law_new_lists ((m_law_tables numbers1).1) ((m_law_tables numbers1).2)) = true)))) then false else if ((¬ (true = true)) ∨ (¬ ((2 : Int) = (2 : Int)))) then false else if ((¬ ((m_law_is_table ((m_common first second).1) (List.flatten (List.replicate (((iterW (m_law_c0 ((m_law_tables numbers1).1) ((m_law_tables numbers1).2)) (m_law_w0 ((m_law_tables numbers1).1) ((m_law_tables numbers1).2)) 288 (1 : Int)) / (((m_law_tables numbers1).1).length : Int))).toNat ((m_law_tables numbers1).1)))) = true)) ∨ (¬ ((m_law_is_table ((m_common first second).2) (List.flatten (List.replicate (((iterW (m_law_c0 ((m_law_tables numbers1).1) ((m_law_tables numbers1).2)) (m_law_w0 ((m_law_tables numbers1).1) ((m_law_tables numbers1).2)) 288 (1 : Int)) / (((m_law_tables numbers1).2).length : Int))).toNat ((m_law_tables numbers1).2)))) = true))) then false else let both1 : List Int := ((List.range ((iterW (m_law_c0 ((m_law_tables numbers1).1) ((m_law_tables numbers1).2)) (m_law_w0 ((m_law_tables numbers1).1) ((m_law_tables numbers1).2)) 288 (1 : Int))).toNat).map (fun zc7 : Nat => ((m_law_slot ((m_law_tables numbers1).1) ((0 : Int) + (zc7 : Int))) + (m_law_slot ((m_law_tables numbers1).2) ((0 : Int) + (zc7 : Int))))))
  let rest1 : List Int := ((List.range ((iterW (m_law_c0 ((m_law_tables numbers1).1) ((m_law_tables numbers1).2)) (m_law_w0 ((m_law_tables numbers1).1) ((m_law_tables numbers1).2)) 288 (1 : Int))).toNat).map (fun zc8 : Nat => (if ((m_law_slot ((m_law_tables numbers1).1) ((0 : Int) + (zc8 : Int))) - (m_law_slot ((m_law_tables numbers1).2) ((0 : Int) + (zc8 : Int)))) > (0 : Int) then ((m_law_slot ((m_law_tables numbers1).1) ((0 : Int) + (zc8 : Int))) - (m_law_slot ((m_law_tables numbers1).2) ((0 : Int) + (zc8 : Int)))) else (0 : Int))))
  if ((¬ ((m_law_is_table (m_joined first second) both1) = true)) ∨ (¬ ((m_law_is_table (m_reduced first second) rest1) = true))) then false else let alike1 : Bool := (m_are_alike first second)
  let turned1 : Bool := (m_are_rotations first second)
  if ((¬ (true = true)) ∨ ((¬ (alike1 = (m_law_alike ((m_law_tables numbers1).1) ((m_law_tables numbers1).2) (0 : Int)))) ∨ (¬ (true = true)))) then false else ((decide (turned1 = (decide (true ∈ ((List.range ((((m_law_tables numbers1).1).length : Int)).toNat).map (fun zc9 : Nat => (m_law_alike ((m_law_tables numbers1).1) ((m_law_tables numbers1).2) ((0 : Int) + (zc9 : Int))))))))) && ((decide (first = (m_law_tables numbers1).1)) && (decide (second = (m_law_tables numbers1).2))))
theorem joi_len {one other : List Int} (h1 : 0 < one.length) (h2 : one.length ≤ 24) (h3 : 0 < other.length) (h4 : other.length ≤ 24) : (m_joined one other).length ≤ 30000 ∧ (m_reduced one other).length ≤ 30000 := by
  constructor
  · unfold m_joined; rw [List.length_map, List.length_zip]; exact Nat.le_trans (Nat.min_le_left _ _) (Nat.le_trans (com_len h1 h2 h3 h4) (by decide))
  · unfold m_reduced; rw [List.length_map, List.length_zip]; exact Nat.le_trans (Nat.min_le_left _ _) (Nat.le_trans (com_len h1 h2 h3 h4) (by decide))
theorem dec11 {a b : List Int} {z : Int} (h : 1 ≤ a.length ∧ a.length ≤ 12 ∧ 1 ≤ b.length ∧ b.length ≤ 24) (q : 1 ≤ z ∧ z ≤ (a.length : Int) * (b.length : Int)) (c : ((!decide (z % (a.length : Int) = (0 : Int))) || (!decide (z % (b.length : Int) = (0 : Int)))) = true) :
    (1 ≤ m_law_w0 a b z ∧ m_law_w0 a b z ≤ (a.length : Int) * (b.length : Int)) ∧ ((a.length : Int) * (b.length : Int) - m_law_w0 a b z).toNat < ((a.length : Int) * (b.length : Int) - z).toNat := by
  have ne : z ≠ (a.length : Int) * (b.length : Int) := fun e => by
    rw [e, Int.mul_emod_right, Int.mul_emod_left] at c
    simp at c
  unfold m_law_w0
  generalize (a.length : Int) * (b.length : Int) = m at *
  omega
theorem tab_one (numbers : List Int) : 1 ≤ (m_law_tables numbers).1.length ∧ (m_law_tables numbers).1.length ≤ 12 := by
  unfold m_law_tables
  dsimp only
  split
  · simp only [List.length_map, List.length_range]; decide
  · split
    · simp only [List.length_map, List.length_range]; decide
    · simp only [List.length_map, List.length_range]; omega
/-- the second table by the first -/
def tabB (numbers one : List Int) : List Int :=
  let other : List Int := ((List.range (((1 : Int) + ((numbers.getD ((13 : Int)).toNat default) % (6 : Int)))).toNat).map (fun zc10 : Nat => ((numbers.getD (((14 : Int) + ((0 : Int) + (zc10 : Int)))).toNat default) % (4 : Int))))
  let choice : Int := ((numbers.getD ((20 : Int)).toNat default) % (6 : Int))
  let other : List Int := (if ((choice = (1 : Int)) ∨ (choice = (2 : Int))) then (List.flatten (List.replicate (((1 : Int) + ((numbers.getD ((22 : Int)).toNat default) % (2 : Int)))).toNat ((slcD one (some ((numbers.getD ((21 : Int)).toNat default) % (one.length : Int))) none) ++ (slcD one none (some ((numbers.getD ((21 : Int)).toNat default) % (one.length : Int))))))) else other)
  (if (choice = (3 : Int)) then (slcD one none (some ((1 : Int) + ((numbers.getD ((21 : Int)).toNat default) % (one.length : Int))))) else other)
theorem tab_two (numbers : List Int) : (m_law_tables numbers).2 = tabB numbers (m_law_tables numbers).1 := rfl
theorem tabB_len (numbers one : List Int) (h1 : 1 ≤ one.length) (h2 : one.length ≤ 12) : 1 ≤ (tabB numbers one).length ∧ (tabB numbers one).length ≤ 24 := by
  have m0 := Int.emod_nonneg (numbers.getD ((21 : Int)).toNat default) (show (one.length : Int) ≠ 0 by omega)
  have m1 := Int.emod_lt_of_pos (numbers.getD ((21 : Int)).toNat default) (show 0 < (one.length : Int) by omega)
  unfold tabB
  dsimp only
  split
  · rw [slc_take _ (by omega), List.length_take]; omega
  · split
    · rw [frep_len, slc_take _ m0, slc_drop _ m0, List.length_append, List.length_drop, List.length_take]
      have k0 : 1 ≤ (((1 : Int) + ((numbers.getD ((22 : Int)).toNat default) % (2 : Int)))).toNat ∧ (((1 : Int) + ((numbers.getD ((22 : Int)).toNat default) % (2 : Int)))).toNat ≤ 2 := by omega
      have e : one.length - ((numbers.getD ((21 : Int)).toNat default) % (one.length : Int)).toNat + min ((numbers.getD ((21 : Int)).toNat default) % (one.length : Int)).toNat one.length = one.length := by omega
      rw [e]
      exact ⟨Nat.le_trans h1 (Nat.le_mul_of_pos_left _ k0.1), Nat.le_trans (Nat.mul_le_mul k0.2 h2) (by decide)⟩
    · simp only [List.length_map, List.length_range]; omega
theorem tab_facts (numbers : List Int) (h : numbers.length = 26) : 1 ≤ (m_law_tables numbers).1.length ∧ (m_law_tables numbers).1.length ≤ 12 ∧ 1 ≤ (m_law_tables numbers).2.length ∧ (m_law_tables numbers).2.length ≤ 24 := by
  have a := tab_one numbers
  have b := tabB_len numbers _ a.1 a.2
  rw [← tab_two] at b
  exact ⟨a.1, a.2, b.1, b.2⟩
theorem lc_facts {a b : List Int} (h : 1 ≤ a.length ∧ a.length ≤ 12 ∧ 1 ≤ b.length ∧ b.length ≤ 24) : 1 ≤ (a.length : Int) * (b.length : Int) ∧ (a.length : Int) * (b.length : Int) ≤ 288 := by
  have h1 : 1 * 1 ≤ a.length * b.length := Nat.mul_le_mul h.1 h.2.2.1
  have h2 : a.length * b.length ≤ 12 * 24 := Nat.mul_le_mul h.2.1 h.2.2.2
  constructor
  · exact_mod_cast h1
  · exact_mod_cast h2
set_option hygiene false in
local macro_rules | `(tactic| walk_at "rep") => `(tactic| first | exact Nat.le_trans (Nat.mul_le_mul htf.2.1 (show times.toNat ≤ 4 by omega)) (by omega) | exact Nat.le_trans (Nat.mul_le_mul htf.2.1 (show _ ≤ 576 from Int.toNat_le.mpr hd1.2)) (by omega) | exact Nat.le_trans (Nat.mul_le_mul htf.2.2.2 (show _ ≤ 576 from Int.toNat_le.mpr hd2.2)) (by omega) | fail)
set_option hygiene false in
local macro_rules | `(tactic| walk_at "pre") => `(tactic| first | exact ⟨hnum, hnf.2⟩ | exact ⟨hrp, hrp⟩ | exact ⟨by omega, by omega⟩ | exact ⟨by omega, by omega, by omega⟩ | exact ⟨by omega, by omega, by omega, by omega⟩ | exact ⟨by omega, by simp only [List.length_map, List.length_range]; omega⟩ | exact ⟨by omega, by rw [hc1]; omega⟩ | exact ⟨by omega, by rw [hc2]; omega⟩ | exact ⟨hjl.1, by (first | rw [← zg_both] | skip); simp only [List.length_map, List.length_range]; omega⟩ | exact ⟨hjl.2, by (first | rw [← zg_rest] | skip); simp only [List.length_map, List.length_range]; omega⟩ | fail)
theorem sc_law : FnScope ["script", "numbers", "one", "other", "times", "by", "first", "second", "length", "pair", "both", "rest", "alike", "turned", "k"] ["script"] (defScope s_law) := ⟨rfl, rfl, rfl, by decide +kernel, rfl, by decide +kernel, by decide +kernel⟩
def sp_law : SpN := fun zcs zL zKc => ∃ script : List Int, zcs = [.fr ((eL D.int) script)] ∧ zL = [] ∧ (script.length ≤ 63) ∧ ∀ zL', zKc (.fr (D.bl (m_law script))) zL'
theorem ok_law (T : TX P K mg) : FnOk P w K mg base CX0 5 T.a_law T.d_law ["script"] (SpOf K mg sp_law) := by
  have O_law_alike := ok_law_alike (P := P) (w := w) (base := base) T
  have O_law_is_table := ok_law_is_table (P := P) (w := w) (base := base) T
  have O_law_least_rotation := ok_law_least_rotation (P := P) (w := w) (base := base) T
  have O_law_new_lists := ok_law_new_lists (P := P) (w := w) (base := base) T
  have O_law_numbers := ok_law_numbers (P := P) (w := w) (base := base) T
  have O_law_shortest := ok_law_shortest (P := P) (w := w) (base := base) T
  have O_law_slot := ok_law_slot (P := P) (w := w) (base := base) T
  have O_law_tables := ok_law_tables (P := P) (w := w) (base := base) T
  have O_are_alike := ok_are_alike (P := P) (w := w) (base := base) T
  have O_are_rotations := ok_are_rotations (P := P) (w := w) (base := base) T
  have O_common := ok_common (P := P) (w := w) (base := base) T
  have O_common_length := ok_common_length (P := P) (w := w) (base := base) T
  have O_joined := ok_joined (P := P) (w := w) (base := base) T
  have O_reduced := ok_reduced (P := P) (w := w) (base := base) T
  have O_repeated := ok_repeated (P := P) (w := w) (base := base) T
  have O_rotated := ok_rotated (P := P) (w := w) (base := base) T
  refine T.F_law.okN sc_law (fun zcs zL zKc zh => by obtain ⟨script, rfl, _⟩ := zh; rfl) fun zcdv zA zout zst zH zE zB zcs zL zKc zhr zh => ?_
  obtain ⟨script, rfl, rfl, hpre, zk⟩ := zh
  have nd := sc_law.nd
  have hSL := sizeLine_eq
  show Exs _ _ _ ⟨[some (.fr ((eL D.int) script)), none, none, none, none, none, none, none, none, none, none, none, none, none, none], []⟩ _
  refine exs_cons (ex_set 1 (ev_call (ds := [(eL D.int) script, D.int (26 : Int)]) (ds' := []) (dvs := []) (dfs := []) O_law_numbers (zhr.mono (by decide)) T.m_law_numbers T.k_law_numbers T.b_law_numbers .nil (fun _ => .nil) (ea_cons (ev_var 0 rfl (.inl rfl) rfl) (ea_cons ev_int ea_nil)) (fun _ zkk => ⟨script, (26 : Int), rfl, rfl, (by walk_at "pre"), zkk⟩) (by exact rfl)) ?_ nd rfl (.inl rfl))
  show Exs _ _ _ ⟨[some (.fr ((eL D.int) script)), some (.fr ((eL D.int) (m_law_numbers script (26 : Int)))), none, none, none, none, none, none, none, none, none, none, none, none, none], []⟩ _
  generalize zg_numbers : (m_law_numbers script (26 : Int)) = numbers
  show Exs _ _ _ ⟨[some (.fr ((eL D.int) script)), some (.fr ((eL D.int) numbers)), none, none, none, none, none, none, none, none, none, none, none, none, none], []⟩ _
  have hnf := numbers_facts script (26 : Int) (by decide)
  rw [zg_numbers] at hnf
  have hnum : numbers.length = 26 := hnf.1
  have htf := tab_facts numbers hnum
  have hLC := lc_facts htf
  refine exs_cons (ex_asg (ev_call (ds := [(eL D.int) numbers]) (ds' := []) (dvs := []) (dfs := []) O_law_tables (zhr.mono (by decide)) T.m_law_tables T.k_law_tables T.b_law_tables .nil (fun _ => .nil) (ea_cons (ev_var 1 rfl (.inl rfl) rfl) ea_nil) (fun _ zkk => ⟨numbers, rfl, rfl, (by walk_at "pre"), zkk⟩) (by exact rfl)) (eg_tup rfl (egs_cons (eg_name 2 nd rfl (.inr rfl)) (egs_cons (eg_name 3 nd rfl (.inr rfl)) egs_nil))) ?_)
  show Exs _ _ _ ⟨[some (.fr ((eL D.int) script)), some (.fr ((eL D.int) numbers)), some (.fr ((eL D.int) ((m_law_tables numbers).1))), some (.fr ((eL D.int) ((m_law_tables numbers).2))), none, none, none, none, none, none, none, none, none, none, none], []⟩ _
  refine exs_cons (ex_set 4 (ev_bin o_add ev_int (ev_bin (o_mod (by walk_at "sd")) (ev_ix (ix_L (xs := numbers) (enc := D.int) (by exact rfl) (by walk_at "sd") (by walk_at "sd")) (ev_var 1 rfl (.inl rfl) rfl) ev_int) ev_int)) ?_ nd rfl (.inl rfl))
  show Exs _ _ _ ⟨[some (.fr ((eL D.int) script)), some (.fr ((eL D.int) numbers)), some (.fr ((eL D.int) ((m_law_tables numbers).1))), some (.fr ((eL D.int) ((m_law_tables numbers).2))), some (.fr (D.int ((1 : Int) + ((numbers.getD ((23 : Int)).toNat default) % (4 : Int))))), none, none, none, none, none, none, none, none, none, none], []⟩ _
  generalize zg_times : ((1 : Int) + ((numbers.getD ((23 : Int)).toNat default) % (4 : Int))) = times
  show Exs _ _ _ ⟨[some (.fr ((eL D.int) script)), some (.fr ((eL D.int) numbers)), some (.fr ((eL D.int) ((m_law_tables numbers).1))), some (.fr ((eL D.int) ((m_law_tables numbers).2))), some (.fr (D.int times)), none, none, none, none, none, none, none, none, none, none], []⟩ _
  have htm : 1 ≤ times ∧ times ≤ 4 := by (rw [← zg_times]; omega)
  have hrp : (m_repeated (m_law_tables numbers).1 times).length ≤ 30000 := by (rw [rep_len]; exact Nat.le_trans (Nat.mul_le_mul (show times.toNat ≤ 4 by omega) htf.2.1) (by decide))
  refine exs_cons (ex_set 5 (ev_ix (ix_L (xs := numbers) (enc := D.int) (by exact rfl) (by walk_at "sd") (by walk_at "sd")) (ev_var 1 rfl (.inl rfl) rfl) ev_int) ?_ nd rfl (.inr rfl))
  show Exs _ _ _ ⟨[some (.fr ((eL D.int) script)), some (.fr ((eL D.int) numbers)), some (.fr ((eL D.int) ((m_law_tables numbers).1))), some (.fr ((eL D.int) ((m_law_tables numbers).2))), some (.fr (D.int times)), some (.fr (D.int (numbers.getD ((24 : Int)).toNat default))), none, none, none, none, none, none, none, none, none], []⟩ _
  generalize zg_by_ : (numbers.getD ((24 : Int)).toNat default) = by_
  show Exs _ _ _ ⟨[some (.fr ((eL D.int) script)), some (.fr ((eL D.int) numbers)), some (.fr ((eL D.int) ((m_law_tables numbers).1))), some (.fr ((eL D.int) ((m_law_tables numbers).2))), some (.fr (D.int times)), some (.fr (D.int by_)), none, none, none, none, none, none, none, none, none], []⟩ _
  refine exs_cons (ex_set 6 (ev_callTy (ds := [(eL D.int) ((m_law_tables numbers).1)]) c_listL (ea_cons (ev_var 2 rfl (.inr (.inl rfl)) rfl) ea_nil) (by exact rfl) T.n_list (by decide +kernel)) ?_ nd rfl (.inl rfl))
  show Exs _ _ _ ⟨[some (.fr ((eL D.int) script)), some (.fr ((eL D.int) numbers)), some (.fr ((eL D.int) ((m_law_tables numbers).1))), some (.fr ((eL D.int) ((m_law_tables numbers).2))), some (.fr (D.int times)), some (.fr (D.int by_)), some (.fr ((eL D.int) ((m_law_tables numbers).1))), none, none, none, none, none, none, none, none], []⟩ _
  refine exs_cons (ex_set 7 (ev_callTy (ds := [(eL D.int) ((m_law_tables numbers).2)]) c_listL (ea_cons (ev_var 3 rfl (.inr (.inl rfl)) rfl) ea_nil) (by exact rfl) T.n_list (by decide +kernel)) ?_ nd rfl (.inl rfl))
  show Exs _ _ _ ⟨[some (.fr ((eL D.int) script)), some (.fr ((eL D.int) numbers)), some (.fr ((eL D.int) ((m_law_tables numbers).1))), some (.fr ((eL D.int) ((m_law_tables numbers).2))), some (.fr (D.int times)), some (.fr (D.int by_)), some (.fr ((eL D.int) ((m_law_tables numbers).1))), some (.fr ((eL D.int) ((m_law_tables numbers).2))), none, none, none, none, none, none, none], []⟩ _
  refine exs_cons (ex_set 8 ev_int ?_ nd rfl (.inl rfl))
  show Exs _ _ _ ⟨[some (.fr ((eL D.int) script)), some (.fr ((eL D.int) numbers)), some (.fr ((eL D.int) ((m_law_tables numbers).1))), some (.fr ((eL D.int) ((m_law_tables numbers).2))), some (.fr (D.int times)), some (.fr (D.int by_)), some (.fr ((eL D.int) ((m_law_tables numbers).1))), some (.fr ((eL D.int) ((m_law_tables numbers).2))), some (.fr (D.int (1 : Int))), none, none, none, none, none, none], []⟩ _
  refine exs_cons (ex_whileF (fun (zs0 : Int) => (⟨[some (.fr ((eL D.int) script)), some (.fr ((eL D.int) numbers)), some (.fr ((eL D.int) ((m_law_tables numbers).1))), some (.fr ((eL D.int) ((m_law_tables numbers).2))), some (.fr (D.int times)), some (.fr (D.int by_)), some (.fr ((eL D.int) ((m_law_tables numbers).1))), some (.fr ((eL D.int) ((m_law_tables numbers).2))), some (.fr (D.int zs0)), none, none, none, none, none, none], []⟩ : Nz.S)) (m_law_c0 ((m_law_tables numbers).1) ((m_law_tables numbers).2)) (m_law_w0 ((m_law_tables numbers).1) ((m_law_tables numbers).2)) (1 : Int) 288 (fun (zs0 : Int) => 1 ≤ zs0 ∧ zs0 ≤ ((((m_law_tables numbers).1).length : Int) * (((m_law_tables numbers).2).length : Int))) (fun (zs0 : Int) => (((((m_law_tables numbers).1).length : Int) * (((m_law_tables numbers).2).length : Int)) - zs0).toNat) ⟨⟨.inr rfl, .inr rfl, .inr rfl, .inr rfl, .inr rfl, .inr rfl, .inr rfl, .inr rfl, .inr rfl, .inl rfl, .inl rfl, .inl rfl, .inl rfl, .inl rfl, .inl rfl, trivial⟩, rfl⟩ ⟨by omega, by omega⟩ (by omega) ?_ ?_ ?_ ?_ PassesOwn.never)
  · intro zs0 zq0 zhc0
    simp only [m_law_c0, decide_eq_true_eq] at zhc0
    exact dec11 htf zq0 zhc0
  · intro zs0 zq0
    exact (Ew.et (ew_orP bd_n (et_cmp o_nei (ev_bin (o_mod (by walk_at "sd")) (ev_var 8 rfl (.inl rfl) rfl) (ev_len (ln_L (xs := (m_law_tables numbers).1) (enc := D.int) (by exact rfl)) (ev_var 2 rfl (.inr (.inl rfl)) rfl) (by exact rfl) T.n_len)) ev_int (nomark _)) (fun zhp => (ew_or1 (et_cmp o_nei (ev_bin (o_mod (by walk_at "sd")) (ev_var 8 rfl (.inl rfl) rfl) (ev_len (ln_L (xs := (m_law_tables numbers).2) (enc := D.int) (by exact rfl)) (ev_var 3 rfl (.inr (.inl rfl)) rfl) (by exact rfl) T.n_len)) ev_int (nomark _))))))
  · intro zs0 zq0 zhc0
    simp only [m_law_c0, decide_eq_true_eq] at zhc0
    show Exs _ _ _ ⟨[some (.fr ((eL D.int) script)), some (.fr ((eL D.int) numbers)), some (.fr ((eL D.int) ((m_law_tables numbers).1))), some (.fr ((eL D.int) ((m_law_tables numbers).2))), some (.fr (D.int times)), some (.fr (D.int by_)), some (.fr ((eL D.int) ((m_law_tables numbers).1))), some (.fr ((eL D.int) ((m_law_tables numbers).2))), some (.fr (D.int zs0)), none, none, none, none, none, none], []⟩ _
    refine exs_one (ex_set 8 (ev_bin o_add (ev_var 8 rfl (.inl rfl) rfl) ev_int) ?_ nd rfl (.inl rfl))
    have est : (m_law_w0 ((m_law_tables numbers).1) ((m_law_tables numbers).2)) zs0 = (zs0 + (1 : Int)) := by simp only [m_law_w0, ↓reduceIte]
    show Le _ _ ∧ _
    rw [est]
    exact ⟨⟨⟨.inr rfl, .inr rfl, .inr rfl, .inr rfl, .inr rfl, .inr rfl, .inr rfl, .inr rfl, .inr rfl, .inl rfl, .inl rfl, .inl rfl, .inl rfl, .inl rfl, .inl rfl, trivial⟩, rfl⟩, trivial⟩
  · intro zq0 zhc0
    show Exs _ _ _ ⟨[some (.fr ((eL D.int) script)), some (.fr ((eL D.int) numbers)), some (.fr ((eL D.int) ((m_law_tables numbers).1))), some (.fr ((eL D.int) ((m_law_tables numbers).2))), some (.fr (D.int times)), some (.fr (D.int by_)), some (.fr ((eL D.int) ((m_law_tables numbers).1))), some (.fr ((eL D.int) ((m_law_tables numbers).2))), some (.fr (D.int (iterW (m_law_c0 ((m_law_tables numbers).1) ((m_law_tables numbers).2)) (m_law_w0 ((m_law_tables numbers).1) ((m_law_tables numbers).2)) 288 (1 : Int)))), none, none, none, none, none, none], []⟩ _
    have hd1 := @div_facts _ (m_law_tables numbers).1.length (show 0 < _ from zq0.1) (Int.le_trans zq0.2 (Int.le_trans hLC.2 (by decide)))
    have hd2 := @div_facts _ (m_law_tables numbers).2.length (show 0 < _ from zq0.1) (Int.le_trans zq0.2 (Int.le_trans hLC.2 (by decide)))
    have hL2 := Int.le_trans zq0.2 hLC.2
    have hro := rot_len (m_law_tables numbers).1 by_
    have hjl := joi_len (one := (m_law_tables numbers).1) (other := (m_law_tables numbers).2) (by omega) (by omega) (by omega) (by omega)
    have hc1 := frep_len (m_law_tables numbers).1
    have hc2 := frep_len (m_law_tables numbers).2
    have hb1 := Nat.mul_le_mul (show _ ≤ 576 from Int.toNat_le.mpr hd1.2) htf.2.1
    have hb2 := Nat.mul_le_mul (show _ ≤ 576 from Int.toNat_le.mpr hd2.2) htf.2.2.2
    refine exs_cons (ex_ifP (bd_not Iff.rfl) (et_not (et_val (ev_call (ds := [(eL D.int) (m_repeated ((m_law_tables numbers).1) times), (eL D.int) (List.flatten (List.replicate (times).toNat ((m_law_tables numbers).1)))]) (ds' := []) (dvs := []) (dfs := []) O_law_is_table (zhr.mono (by decide)) T.m_law_is_table T.k_law_is_table T.b_law_is_table .nil (fun _ => .nil) (ea_cons (ev_call (ds := [(eL D.int) ((m_law_tables numbers).1), D.int times]) (ds' := []) (dvs := []) (dfs := []) O_repeated (zhr.mono (by decide)) T.m_repeated T.k_repeated T.b_repeated .nil (fun _ => .nil) (ea_cons (ev_var 6 rfl (.inl rfl) rfl) (ea_cons (ev_var 4 rfl (.inl rfl) rfl) ea_nil)) (fun _ zkk => ⟨(m_law_tables numbers).1, times, rfl, rfl, (by walk_at "pre"), zkk⟩) (by exact rfl)) (ea_cons (ev_bin (o_repL (enc := D.int) (xs := (m_law_tables numbers).1) (by walk_at "sd") (by walk_at "sd") (by walk_at "rep")) (ev_var 2 rfl (.inr (.inl rfl)) rfl) (ev_var 4 rfl (.inl rfl) rfl)) ea_nil)) (fun _ zkk => ⟨(m_repeated ((m_law_tables numbers).1) times), (List.flatten (List.replicate (times).toNat ((m_law_tables numbers).1))), rfl, rfl, (by walk_at "pre"), zkk⟩) (by exact rfl)))) (fun (zh1 : (¬ ((m_law_is_table (m_repeated ((m_law_tables numbers).1) times) (List.flatten (List.replicate (times).toNat ((m_law_tables numbers).1)))) = true))) => ?_) (fun (zh1 : ¬ (¬ ((m_law_is_table (m_repeated ((m_law_tables numbers).1) times) (List.flatten (List.replicate (times).toNat ((m_law_tables numbers).1)))) = true))) => ?_))
    · skip
      refine exs_one (ex_ret ev_bl ?_)
      have efin : m_law script = false := by first | (subst zg_by_; subst zg_times; subst zg_numbers; simp only [m_law, not_true_eq_false, not_false_eq_true, ↓reduceIte, ↓if_pos zh1]; done) | (subst zg_by_; subst zg_times; subst zg_numbers; first | exact absurd rfl zh1)
      rw [efin] at zk
      exact zk _
    · skip
      refine exs_nil ?_
      show Exs _ _ _ ⟨[some (.fr ((eL D.int) script)), some (.fr ((eL D.int) numbers)), some (.fr ((eL D.int) ((m_law_tables numbers).1))), some (.fr ((eL D.int) ((m_law_tables numbers).2))), some (.fr (D.int times)), some (.fr (D.int by_)), some (.fr ((eL D.int) ((m_law_tables numbers).1))), some (.fr ((eL D.int) ((m_law_tables numbers).2))), some (.fr (D.int (iterW (m_law_c0 ((m_law_tables numbers).1) ((m_law_tables numbers).2)) (m_law_w0 ((m_law_tables numbers).1) ((m_law_tables numbers).2)) 288 (1 : Int)))), none, none, none, none, none, none], []⟩ _
      refine exs_cons (ex_ifP (bd_not Iff.rfl) (et_not (et_val (ev_call (ds := [(eL D.int) (m_rotated ((m_law_tables numbers).1) by_), (eL D.int) ((List.range ((((m_law_tables numbers).1).length : Int)).toNat).map (fun zc1 : Nat => (m_law_slot ((m_law_tables numbers).1) (by_ + ((0 : Int) + (zc1 : Int))))))]) (ds' := []) (dvs := []) (dfs := []) O_law_is_table (zhr.mono (by decide)) T.m_law_is_table T.k_law_is_table T.b_law_is_table .nil (fun _ => .nil) (ea_cons (ev_call (ds := [(eL D.int) ((m_law_tables numbers).1), D.int by_]) (ds' := []) (dvs := []) (dfs := []) O_rotated (zhr.mono (by decide)) T.m_rotated T.k_rotated T.b_rotated .nil (fun _ => .nil) (ea_cons (ev_var 6 rfl (.inl rfl) rfl) (ea_cons (ev_var 5 rfl (.inr (.inl rfl)) rfl) ea_nil)) (fun _ zkk => ⟨(m_law_tables numbers).1, by_, rfl, rfl, (by walk_at "pre"), zkk⟩) (by exact rfl)) (ea_cons (ev_lcM (enc2 := D.int) 199 (fun zc1 : Nat => (m_law_slot ((m_law_tables numbers).1) (by_ + ((0 : Int) + (zc1 : Int))))) _ rfl nd (blkOk_by (N := ["script", "numbers", "one", "other", "times", "by", "first", "second", "length", "pair", "both", "rest", "alike", "turned", "k"]) (sc := defScope s_law) (own := [(("k" : Str), 14)]) (by decide +kernel)) (src_range1 (ea_cons (ev_len (ln_L (xs := (m_law_tables numbers).1) (enc := D.int) (by exact rfl)) (ev_var 2 rfl (.inr (.inl rfl)) rfl) (by exact rfl) T.n_len) ea_nil) (by exact rfl) T.n_range (by walk_at "sd") (by walk_at "sd")) (by simp [names]) (by decide) (by walk_at "sd") (fun _ zc1 _ zhyzc1 _ _ _ _ _ => (eg_nameC 14 nd rfl (.inl rfl) (by decide) (.inr rfl))) (fun _ zc1 _ zhyzc1 _ _ _ _ _ => (ev_call (ds := [(eL D.int) ((m_law_tables numbers).1), D.int (by_ + ((0 : Int) + (zc1 : Int)))]) (ds' := []) (dvs := []) (dfs := []) O_law_slot (zhr.mono (by decide)) T.m_law_slot T.k_law_slot T.b_law_slot .nil (fun _ => .nil) (ea_cons (ev_var 2 rfl (.inr (.inl rfl)) rfl) (ea_cons (ev_bin o_add (ev_var 5 rfl (.inr (.inl rfl)) rfl) (ev_var 14 rfl (.inl rfl) rfl)) ea_nil)) (fun _ zkk => ⟨(m_law_tables numbers).1, (by_ + ((0 : Int) + (zc1 : Int))), rfl, rfl, (by walk_at "pre"), zkk⟩) (by exact rfl)))) ea_nil)) (fun _ zkk => ⟨(m_rotated ((m_law_tables numbers).1) by_), ((List.range ((((m_law_tables numbers).1).length : Int)).toNat).map (fun zc1 : Nat => (m_law_slot ((m_law_tables numbers).1) (by_ + ((0 : Int) + (zc1 : Int)))))), rfl, rfl, (by walk_at "pre"), zkk⟩) (by exact rfl)))) (fun (zh2 : (¬ ((m_law_is_table (m_rotated ((m_law_tables numbers).1) by_) ((List.range ((((m_law_tables numbers).1).length : Int)).toNat).map (fun zc1 : Nat => (m_law_slot ((m_law_tables numbers).1) (by_ + ((0 : Int) + (zc1 : Int))))))) = true))) => ?_) (fun (zh2 : ¬ (¬ ((m_law_is_table (m_rotated ((m_law_tables numbers).1) by_) ((List.range ((((m_law_tables numbers).1).length : Int)).toNat).map (fun zc1 : Nat => (m_law_slot ((m_law_tables numbers).1) (by_ + ((0 : Int) + (zc1 : Int))))))) = true))) => ?_))
      · skip
        refine exs_one (ex_ret ev_bl ?_)
        have efin : m_law script = false := by first | (subst zg_by_; subst zg_times; subst zg_numbers; simp only [m_law, not_true_eq_false, not_false_eq_true, ↓reduceIte, ↓if_neg zh1, ↓if_pos zh2]; done) | (subst zg_by_; subst zg_times; subst zg_numbers; first | exact absurd rfl zh2)
        rw [efin] at zk
        exact zk _
      · skip
        refine exs_nil ?_
        show Exs _ _ _ ⟨[some (.fr ((eL D.int) script)), some (.fr ((eL D.int) numbers)), some (.fr ((eL D.int) ((m_law_tables numbers).1))), some (.fr ((eL D.int) ((m_law_tables numbers).2))), some (.fr (D.int times)), some (.fr (D.int by_)), some (.fr ((eL D.int) ((m_law_tables numbers).1))), some (.fr ((eL D.int) ((m_law_tables numbers).2))), some (.fr (D.int (iterW (m_law_c0 ((m_law_tables numbers).1) ((m_law_tables numbers).2)) (m_law_w0 ((m_law_tables numbers).1) ((m_law_tables numbers).2)) 288 (1 : Int)))), none, none, none, none, none, none], []⟩ _
        refine exs_cons (ex_ifP (bd_or bd_n (bd_or (bd_not Iff.rfl) (bd_not Iff.rfl))) (Ew.et (ew_orP bd_n (et_cmp o_nei (ev_call (ds := [(eL D.int) ((m_law_tables numbers).1), (eL D.int) ((m_law_tables numbers).2)]) (ds' := []) (dvs := []) (dfs := []) O_common_length (zhr.mono (by decide)) T.m_common_length T.k_common_length T.b_common_length .nil (fun _ => .nil) (ea_cons (ev_var 6 rfl (.inl rfl) rfl) (ea_cons (ev_var 7 rfl (.inl rfl) rfl) ea_nil)) (fun _ zkk => ⟨(m_law_tables numbers).1, (m_law_tables numbers).2, rfl, rfl, (by walk_at "pre"), zkk⟩) (by exact rfl)) (ev_var 8 rfl (.inl rfl) rfl) (nomark _)) (fun zhp => (ew_orP (bd_not Iff.rfl) (et_not (et_val (ev_call (ds := [(eL D.int) ((m_law_tables numbers).1)]) (ds' := []) (dvs := []) (dfs := []) O_law_shortest (zhr.mono (by decide)) T.m_law_shortest T.k_law_shortest T.b_law_shortest .nil (fun _ => .nil) (ea_cons (ev_var 2 rfl (.inr (.inl rfl)) rfl) ea_nil) (fun _ zkk => ⟨(m_law_tables numbers).1, rfl, rfl, (by walk_at "pre"), zkk⟩) (by exact rfl)))) (fun zhp => (ew_or1 (et_not (et_val (ev_call (ds := [(eL D.int) ((m_law_tables numbers).1)]) (ds' := []) (dvs := []) (dfs := []) O_law_least_rotation (zhr.mono (by decide)) T.m_law_least_rotation T.k_law_least_rotation T.b_law_least_rotation .nil (fun _ => .nil) (ea_cons (ev_var 2 rfl (.inr (.inl rfl)) rfl) ea_nil) (fun _ zkk => ⟨(m_law_tables numbers).1, rfl, rfl, (by walk_at "pre"), zkk⟩) (by exact rfl)))))))))) (fun (zh3 : ((¬ ((m_common_length ((m_law_tables numbers).1) ((m_law_tables numbers).2)) = (iterW (m_law_c0 ((m_law_tables numbers).1) ((m_law_tables numbers).2)) (m_law_w0 ((m_law_tables numbers).1) ((m_law_tables numbers).2)) 288 (1 : Int)))) ∨ ((¬ ((m_law_shortest ((m_law_tables numbers).1)) = true)) ∨ (¬ ((m_law_least_rotation ((m_law_tables numbers).1)) = true))))) => ?_) (fun (zh3 : ¬ ((¬ ((m_common_length ((m_law_tables numbers).1) ((m_law_tables numbers).2)) = (iterW (m_law_c0 ((m_law_tables numbers).1) ((m_law_tables numbers).2)) (m_law_w0 ((m_law_tables numbers).1) ((m_law_tables numbers).2)) 288 (1 : Int)))) ∨ ((¬ ((m_law_shortest ((m_law_tables numbers).1)) = true)) ∨ (¬ ((m_law_least_rotation ((m_law_tables numbers).1)) = true))))) => ?_))
        · skip
          refine exs_one (ex_ret ev_bl ?_)
          have efin : m_law script = false := by subst zg_by_; subst zg_times; subst zg_numbers; simp only [m_law, not_true_eq_false, not_false_eq_true, ↓reduceIte, ↓if_neg zh1, ↓if_neg zh2, ↓if_pos zh3]
          rw [efin] at zk
          exact zk _
        · skip
          refine exs_nil ?_
          show Exs _ _ _ ⟨[some (.fr ((eL D.int) script)), some (.fr ((eL D.int) numbers)), some (.fr ((eL D.int) ((m_law_tables numbers).1))), some (.fr ((eL D.int) ((m_law_tables numbers).2))), some (.fr (D.int times)), some (.fr (D.int by_)), some (.fr ((eL D.int) ((m_law_tables numbers).1))), some (.fr ((eL D.int) ((m_law_tables numbers).2))), some (.fr (D.int (iterW (m_law_c0 ((m_law_tables numbers).1) ((m_law_tables numbers).2)) (m_law_w0 ((m_law_tables numbers).1) ((m_law_tables numbers).2)) 288 (1 : Int)))), none, none, none, none, none, none], []⟩ _
          refine exs_cons (ex_ifP (bd_or (bd_not Iff.rfl) (bd_or (bd_not Iff.rfl) (bd_not Iff.rfl))) (Ew.et (ew_orP (bd_not Iff.rfl) (et_not (et_val (ev_call (ds := [(eL D.int) ((m_law_tables numbers).2)]) (ds' := []) (dvs := []) (dfs := []) O_law_shortest (zhr.mono (by decide)) T.m_law_shortest T.k_law_shortest T.b_law_shortest .nil (fun _ => .nil) (ea_cons (ev_var 3 rfl (.inr (.inl rfl)) rfl) ea_nil) (fun _ zkk => ⟨(m_law_tables numbers).2, rfl, rfl, (by walk_at "pre"), zkk⟩) (by exact rfl)))) (fun zhp => (ew_orP (bd_not Iff.rfl) (et_not (et_val (ev_call (ds := [(eL D.int) ((m_law_tables numbers).2)]) (ds' := []) (dvs := []) (dfs := []) O_law_least_rotation (zhr.mono (by decide)) T.m_law_least_rotation T.k_law_least_rotation T.b_law_least_rotation .nil (fun _ => .nil) (ea_cons (ev_var 3 rfl (.inr (.inl rfl)) rfl) ea_nil) (fun _ zkk => ⟨(m_law_tables numbers).2, rfl, rfl, (by walk_at "pre"), zkk⟩) (by exact rfl)))) (fun zhp => (ew_or1 (et_not (et_val (ev_call (ds := [(eL D.int) ((m_law_tables numbers).1), (eL D.int) ((m_law_tables numbers).2)]) (ds' := []) (dvs := []) (dfs := []) O_law_new_lists (zhr.mono (by decide)) T.m_law_new_lists T.k_law_new_lists T.b_law_new_lists .nil (fun _ => .nil) (ea_cons (ev_var 2 rfl (.inr (.inl rfl)) rfl) (ea_cons (ev_var 3 rfl (.inr (.inl rfl)) rfl) ea_nil)) (fun _ zkk => ⟨(m_law_tables numbers).1, (m_law_tables numbers).2, rfl, rfl, (by walk_at "pre"), zkk⟩) (by exact rfl)))))))))) (fun (zh4 : ((¬ ((m_law_shortest ((m_law_tables numbers).2)) = true)) ∨ ((¬ ((m_law_least_rotation ((m_law_tables numbers).2)) = true)) ∨ (¬ ((m_law_new_lists ((m_law_tables numbers).1) ((m_law_tables numbers).2)) = true))))) => ?_) (fun (zh4 : ¬ ((¬ ((m_law_shortest ((m_law_tables numbers).2)) = true)) ∨ ((¬ ((m_law_least_rotation ((m_law_tables numbers).2)) = true)) ∨ (¬ ((m_law_new_lists ((m_law_tables numbers).1) ((m_law_tables numbers).2)) = true))))) => ?_))
          · skip
            refine exs_one (ex_ret ev_bl ?_)
            have efin : m_law script = false := by subst zg_by_; subst zg_times; subst zg_numbers; simp only [m_law, not_true_eq_false, not_false_eq_true, ↓reduceIte, ↓if_neg zh1, ↓if_neg zh2, ↓if_neg zh3, ↓if_pos zh4]
            rw [efin] at zk
            exact zk _
          · skip
            refine exs_nil ?_
            show Exs _ _ _ ⟨[some (.fr ((eL D.int) script)), some (.fr ((eL D.int) numbers)), some (.fr ((eL D.int) ((m_law_tables numbers).1))), some (.fr ((eL D.int) ((m_law_tables numbers).2))), some (.fr (D.int times)), some (.fr (D.int by_)), some (.fr ((eL D.int) ((m_law_tables numbers).1))), some (.fr ((eL D.int) ((m_law_tables numbers).2))), some (.fr (D.int (iterW (m_law_c0 ((m_law_tables numbers).1) ((m_law_tables numbers).2)) (m_law_w0 ((m_law_tables numbers).1) ((m_law_tables numbers).2)) 288 (1 : Int)))), none, none, none, none, none, none], []⟩ _
            refine exs_cons (ex_set 9 (ev_call (ds := [(eL D.int) ((m_law_tables numbers).1), (eL D.int) ((m_law_tables numbers).2)]) (ds' := []) (dvs := []) (dfs := []) O_common (zhr.mono (by decide)) T.m_common T.k_common T.b_common .nil (fun _ => .nil) (ea_cons (ev_var 6 rfl (.inl rfl) rfl) (ea_cons (ev_var 7 rfl (.inl rfl) rfl) ea_nil)) (fun _ zkk => ⟨(m_law_tables numbers).1, (m_law_tables numbers).2, rfl, rfl, (by walk_at "pre"), zkk⟩) (by exact rfl)) ?_ nd rfl (.inl rfl))
            show Exs _ _ _ ⟨[some (.fr ((eL D.int) script)), some (.fr ((eL D.int) numbers)), some (.fr ((eL D.int) ((m_law_tables numbers).1))), some (.fr ((eL D.int) ((m_law_tables numbers).2))), some (.fr (D.int times)), some (.fr (D.int by_)), some (.fr ((eL D.int) ((m_law_tables numbers).1))), some (.fr ((eL D.int) ((m_law_tables numbers).2))), some (.fr (D.int (iterW (m_law_c0 ((m_law_tables numbers).1) ((m_law_tables numbers).2)) (m_law_w0 ((m_law_tables numbers).1) ((m_law_tables numbers).2)) 288 (1 : Int)))), some (.fr ((eT2 (eL D.int) (eL D.int)) (m_common ((m_law_tables numbers).1) ((m_law_tables numbers).2)))), none, none, none, none, none], []⟩ _
            generalize zg_pair : (m_common ((m_law_tables numbers).1) ((m_law_tables numbers).2)) = pair
            show Exs _ _ _ ⟨[some (.fr ((eL D.int) script)), some (.fr ((eL D.int) numbers)), some (.fr ((eL D.int) ((m_law_tables numbers).1))), some (.fr ((eL D.int) ((m_law_tables numbers).2))), some (.fr (D.int times)), some (.fr (D.int by_)), some (.fr ((eL D.int) ((m_law_tables numbers).1))), some (.fr ((eL D.int) ((m_law_tables numbers).2))), some (.fr (D.int (iterW (m_law_c0 ((m_law_tables numbers).1) ((m_law_tables numbers).2)) (m_law_w0 ((m_law_tables numbers).1) ((m_law_tables numbers).2)) 288 (1 : Int)))), some (.fr ((eT2 (eL D.int) (eL D.int)) pair)), none, none, none, none, none], []⟩ _
            have hpl : pair.1.length ≤ 20000 ∧ pair.2.length ≤ 20000 := by (rw [← zg_pair]; exact ⟨com_len (by omega) (by omega) (by omega) (by omega), com_len2 (by omega) (by omega) (by omega) (by omega)⟩)
            refine exs_cons (ex_ifP (bd_or (bd_not Iff.rfl) bd_n) (Ew.et (ew_orP (bd_not Iff.rfl) (et_not (et_val (ev_isi (T := "tuple") (b := true) (ev_var 9 rfl (.inl rfl) rfl) rfl (by decide) (by exact rfl) T.n_isinstance (by exact rfl) T.n_tuple (by decide +kernel)))) (fun zhp => (ew_or1 (et_cmp o_nei (ev_len .t (ev_var 9 rfl (.inl rfl) rfl) (by exact rfl) T.n_len) ev_int (nomark _)))))) (fun (zh5 : ((¬ (true = true)) ∨ (¬ ((2 : Int) = (2 : Int))))) => ?_) (fun (zh5 : ¬ ((¬ (true = true)) ∨ (¬ ((2 : Int) = (2 : Int))))) => ?_))
            · skip
              refine exs_one (ex_ret ev_bl ?_)
              have efin : m_law script = false := by subst zg_pair; subst zg_by_; subst zg_times; subst zg_numbers; simp only [m_law, not_true_eq_false, not_false_eq_true, ↓reduceIte, ↓if_neg zh1, ↓if_neg zh2, ↓if_neg zh3, ↓if_neg zh4, ↓if_pos zh5]
              rw [efin] at zk
              exact zk _
            · skip
              refine exs_nil ?_
              show Exs _ _ _ ⟨[some (.fr ((eL D.int) script)), some (.fr ((eL D.int) numbers)), some (.fr ((eL D.int) ((m_law_tables numbers).1))), some (.fr ((eL D.int) ((m_law_tables numbers).2))), some (.fr (D.int times)), some (.fr (D.int by_)), some (.fr ((eL D.int) ((m_law_tables numbers).1))), some (.fr ((eL D.int) ((m_law_tables numbers).2))), some (.fr (D.int (iterW (m_law_c0 ((m_law_tables numbers).1) ((m_law_tables numbers).2)) (m_law_w0 ((m_law_tables numbers).1) ((m_law_tables numbers).2)) 288 (1 : Int)))), some (.fr ((eT2 (eL D.int) (eL D.int)) pair)), none, none, none, none, none], []⟩ _
              refine exs_cons (ex_ifP (bd_or (bd_not Iff.rfl) (bd_not Iff.rfl)) (Ew.et (ew_orP (bd_not Iff.rfl) (et_not (et_val (ev_call (ds := [(eL D.int) pair.1, (eL D.int) (List.flatten (List.replicate (((iterW (m_law_c0 ((m_law_tables numbers).1) ((m_law_tables numbers).2)) (m_law_w0 ((m_law_tables numbers).1) ((m_law_tables numbers).2)) 288 (1 : Int)) / (((m_law_tables numbers).1).length : Int))).toNat ((m_law_tables numbers).1)))]) (ds' := []) (dvs := []) (dfs := []) O_law_is_table (zhr.mono (by decide)) T.m_law_is_table T.k_law_is_table T.b_law_is_table .nil (fun _ => .nil) (ea_cons (ev_ix (.t (d := (eL D.int) pair.1) rfl) (ev_var 9 rfl (.inl rfl) rfl) ev_int) (ea_cons (ev_bin (o_repL (enc := D.int) (xs := (m_law_tables numbers).1) (by walk_at "sd") (by walk_at "sd") (by walk_at "rep")) (ev_var 2 rfl (.inr (.inl rfl)) rfl) (ev_bin (o_div (by walk_at "sd") (by walk_at "sd")) (ev_var 8 rfl (.inl rfl) rfl) (ev_len (ln_L (xs := (m_law_tables numbers).1) (enc := D.int) (by exact rfl)) (ev_var 2 rfl (.inr (.inl rfl)) rfl) (by exact rfl) T.n_len))) ea_nil)) (fun _ zkk => ⟨pair.1, (List.flatten (List.replicate (((iterW (m_law_c0 ((m_law_tables numbers).1) ((m_law_tables numbers).2)) (m_law_w0 ((m_law_tables numbers).1) ((m_law_tables numbers).2)) 288 (1 : Int)) / (((m_law_tables numbers).1).length : Int))).toNat ((m_law_tables numbers).1))), rfl, rfl, (by walk_at "pre"), zkk⟩) (by exact rfl)))) (fun zhp => (ew_or1 (et_not (et_val (ev_call (ds := [(eL D.int) pair.2, (eL D.int) (List.flatten (List.replicate (((iterW (m_law_c0 ((m_law_tables numbers).1) ((m_law_tables numbers).2)) (m_law_w0 ((m_law_tables numbers).1) ((m_law_tables numbers).2)) 288 (1 : Int)) / (((m_law_tables numbers).2).length : Int))).toNat ((m_law_tables numbers).2)))]) (ds' := []) (dvs := []) (dfs := []) O_law_is_table (zhr.mono (by decide)) T.m_law_is_table T.k_law_is_table T.b_law_is_table .nil (fun _ => .nil) (ea_cons (ev_ix (.t (d := (eL D.int) pair.2) rfl) (ev_var 9 rfl (.inl rfl) rfl) ev_int) (ea_cons (ev_bin (o_repL (enc := D.int) (xs := (m_law_tables numbers).2) (by walk_at "sd") (by walk_at "sd") (by walk_at "rep")) (ev_var 3 rfl (.inr (.inl rfl)) rfl) (ev_bin (o_div (by walk_at "sd") (by walk_at "sd")) (ev_var 8 rfl (.inl rfl) rfl) (ev_len (ln_L (xs := (m_law_tables numbers).2) (enc := D.int) (by exact rfl)) (ev_var 3 rfl (.inr (.inl rfl)) rfl) (by exact rfl) T.n_len))) ea_nil)) (fun _ zkk => ⟨pair.2, (List.flatten (List.replicate (((iterW (m_law_c0 ((m_law_tables numbers).1) ((m_law_tables numbers).2)) (m_law_w0 ((m_law_tables numbers).1) ((m_law_tables numbers).2)) 288 (1 : Int)) / (((m_law_tables numbers).2).length : Int))).toNat ((m_law_tables numbers).2))), rfl, rfl, (by walk_at "pre"), zkk⟩) (by exact rfl)))))))) (fun (zh6 : ((¬ ((m_law_is_table pair.1 (List.flatten (List.replicate (((iterW (m_law_c0 ((m_law_tables numbers).1) ((m_law_tables numbers).2)) (m_law_w0 ((m_law_tables numbers).1) ((m_law_tables numbers).2)) 288 (1 : Int)) / (((m_law_tables numbers).1).length : Int))).toNat ((m_law_tables numbers).1)))) = true)) ∨ (¬ ((m_law_is_table pair.2 (List.flatten (List.replicate (((iterW (m_law_c0 ((m_law_tables numbers).1) ((m_law_tables numbers).2)) (m_law_w0 ((m_law_tables numbers).1) ((m_law_tables numbers).2)) 288 (1 : Int)) / (((m_law_tables numbers).2).length : Int))).toNat ((m_law_tables numbers).2)))) = true)))) => ?_) (fun (zh6 : ¬ ((¬ ((m_law_is_table pair.1 (List.flatten (List.replicate (((iterW (m_law_c0 ((m_law_tables numbers).1) ((m_law_tables numbers).2)) (m_law_w0 ((m_law_tables numbers).1) ((m_law_tables numbers).2)) 288 (1 : Int)) / (((m_law_tables numbers).1).length : Int))).toNat ((m_law_tables numbers).1)))) = true)) ∨ (¬ ((m_law_is_table pair.2 (List.flatten (List.replicate (((iterW (m_law_c0 ((m_law_tables numbers).1) ((m_law_tables numbers).2)) (m_law_w0 ((m_law_tables numbers).1) ((m_law_tables numbers).2)) 288 (1 : Int)) / (((m_law_tables numbers).2).length : Int))).toNat ((m_law_tables numbers).2)))) = true)))) => ?_))
              · skip
                refine exs_one (ex_ret ev_bl ?_)
                have efin : m_law script = false := by subst zg_pair; subst zg_by_; subst zg_times; subst zg_numbers; simp only [m_law, not_true_eq_false, not_false_eq_true, ↓reduceIte, ↓if_neg zh1, ↓if_neg zh2, ↓if_neg zh3, ↓if_neg zh4, ↓if_neg zh5, ↓if_pos zh6]
                rw [efin] at zk
                exact zk _
              · skip
                refine exs_nil ?_
                show Exs _ _ _ ⟨[some (.fr ((eL D.int) script)), some (.fr ((eL D.int) numbers)), some (.fr ((eL D.int) ((m_law_tables numbers).1))), some (.fr ((eL D.int) ((m_law_tables numbers).2))), some (.fr (D.int times)), some (.fr (D.int by_)), some (.fr ((eL D.int) ((m_law_tables numbers).1))), some (.fr ((eL D.int) ((m_law_tables numbers).2))), some (.fr (D.int (iterW (m_law_c0 ((m_law_tables numbers).1) ((m_law_tables numbers).2)) (m_law_w0 ((m_law_tables numbers).1) ((m_law_tables numbers).2)) 288 (1 : Int)))), some (.fr ((eT2 (eL D.int) (eL D.int)) pair)), none, none, none, none, none], []⟩ _
                refine exs_cons (ex_setLcM 10 (enc2 := D.int) 199 (fun zc2 : Nat => ((m_law_slot ((m_law_tables numbers).1) ((0 : Int) + (zc2 : Int))) + (m_law_slot ((m_law_tables numbers).2) ((0 : Int) + (zc2 : Int))))) _ rfl nd rfl rfl (sw_true rfl rfl rfl (by decide +kernel)) (blkOk_by (N := ["script", "numbers", "one", "other", "times", "by", "first", "second", "length", "pair", "both", "rest", "alike", "turned", "k"]) (sc := defScope s_law) (own := [(("k" : Str), 14)]) (by decide +kernel)) (src_range1 (ea_cons (ev_var 8 rfl (.inl rfl) rfl) ea_nil) (by exact rfl) T.n_range (by walk_at "sd") (by walk_at "sd")) (by simp [names]) (by decide) (by walk_at "sd") (fun _ zc2 _ zhyzc2 _ _ _ _ _ => (eg_nameC 14 nd rfl (.inl rfl) (by decide) (.inr rfl))) (fun _ zc2 _ zhyzc2 _ _ _ _ _ => (ev_bin o_add (ev_call (ds := [(eL D.int) ((m_law_tables numbers).1), D.int ((0 : Int) + (zc2 : Int))]) (ds' := []) (dvs := []) (dfs := []) O_law_slot (zhr.mono (by decide)) T.m_law_slot T.k_law_slot T.b_law_slot .nil (fun _ => .nil) (ea_cons (ev_var 2 rfl (.inr (.inl rfl)) rfl) (ea_cons (ev_var 14 rfl (.inl rfl) rfl) ea_nil)) (fun _ zkk => ⟨(m_law_tables numbers).1, ((0 : Int) + (zc2 : Int)), rfl, rfl, (by walk_at "pre"), zkk⟩) (by exact rfl)) (ev_call (ds := [(eL D.int) ((m_law_tables numbers).2), D.int ((0 : Int) + (zc2 : Int))]) (ds' := []) (dvs := []) (dfs := []) O_law_slot (zhr.mono (by decide)) T.m_law_slot T.k_law_slot T.b_law_slot .nil (fun _ => .nil) (ea_cons (ev_var 3 rfl (.inr (.inl rfl)) rfl) (ea_cons (ev_var 14 rfl (.inl rfl) rfl) ea_nil)) (fun _ zkk => ⟨(m_law_tables numbers).2, ((0 : Int) + (zc2 : Int)), rfl, rfl, (by walk_at "pre"), zkk⟩) (by exact rfl)))) ?_)
                show Exs _ _ _ ⟨[some (.fr ((eL D.int) script)), some (.fr ((eL D.int) numbers)), some (.fr ((eL D.int) ((m_law_tables numbers).1))), some (.fr ((eL D.int) ((m_law_tables numbers).2))), some (.fr (D.int times)), some (.fr (D.int by_)), some (.fr ((eL D.int) ((m_law_tables numbers).1))), some (.fr ((eL D.int) ((m_law_tables numbers).2))), some (.fr (D.int (iterW (m_law_c0 ((m_law_tables numbers).1) ((m_law_tables numbers).2)) (m_law_w0 ((m_law_tables numbers).1) ((m_law_tables numbers).2)) 288 (1 : Int)))), some (.fr ((eT2 (eL D.int) (eL D.int)) pair)), some (.fr ((eL D.int) ((List.range ((iterW (m_law_c0 ((m_law_tables numbers).1) ((m_law_tables numbers).2)) (m_law_w0 ((m_law_tables numbers).1) ((m_law_tables numbers).2)) 288 (1 : Int))).toNat).map (fun zc2 : Nat => ((m_law_slot ((m_law_tables numbers).1) ((0 : Int) + (zc2 : Int))) + (m_law_slot ((m_law_tables numbers).2) ((0 : Int) + (zc2 : Int)))))))), none, none, none, none], []⟩ _
                generalize zg_both : ((List.range ((iterW (m_law_c0 ((m_law_tables numbers).1) ((m_law_tables numbers).2)) (m_law_w0 ((m_law_tables numbers).1) ((m_law_tables numbers).2)) 288 (1 : Int))).toNat).map (fun zc2 : Nat => ((m_law_slot ((m_law_tables numbers).1) ((0 : Int) + (zc2 : Int))) + (m_law_slot ((m_law_tables numbers).2) ((0 : Int) + (zc2 : Int)))))) = both
                show Exs _ _ _ ⟨[some (.fr ((eL D.int) script)), some (.fr ((eL D.int) numbers)), some (.fr ((eL D.int) ((m_law_tables numbers).1))), some (.fr ((eL D.int) ((m_law_tables numbers).2))), some (.fr (D.int times)), some (.fr (D.int by_)), some (.fr ((eL D.int) ((m_law_tables numbers).1))), some (.fr ((eL D.int) ((m_law_tables numbers).2))), some (.fr (D.int (iterW (m_law_c0 ((m_law_tables numbers).1) ((m_law_tables numbers).2)) (m_law_w0 ((m_law_tables numbers).1) ((m_law_tables numbers).2)) 288 (1 : Int)))), some (.fr ((eT2 (eL D.int) (eL D.int)) pair)), some (.fr ((eL D.int) both)), none, none, none, none], []⟩ _
                refine exs_cons (ex_setLcM 11 (enc2 := D.int) 199 (fun zc3 : Nat => (if ((m_law_slot ((m_law_tables numbers).1) ((0 : Int) + (zc3 : Int))) - (m_law_slot ((m_law_tables numbers).2) ((0 : Int) + (zc3 : Int)))) > (0 : Int) then ((m_law_slot ((m_law_tables numbers).1) ((0 : Int) + (zc3 : Int))) - (m_law_slot ((m_law_tables numbers).2) ((0 : Int) + (zc3 : Int)))) else (0 : Int))) _ rfl nd rfl rfl (sw_true rfl rfl rfl (by decide +kernel)) (blkOk_by (N := ["script", "numbers", "one", "other", "times", "by", "first", "second", "length", "pair", "both", "rest", "alike", "turned", "k"]) (sc := defScope s_law) (own := [(("k" : Str), 14)]) (by decide +kernel)) (src_range1 (ea_cons (ev_var 8 rfl (.inl rfl) rfl) ea_nil) (by exact rfl) T.n_range (by walk_at "sd") (by walk_at "sd")) (by simp [names]) (by decide) (by walk_at "sd") (fun _ zc3 _ zhyzc3 _ _ _ _ _ => (eg_nameC 14 nd rfl (.inl rfl) (by decide) (.inr rfl))) (fun _ zc3 _ zhyzc3 _ _ _ _ _ => (ev_callB (ds := [D.int (0 : Int), D.int ((m_law_slot ((m_law_tables numbers).1) ((0 : Int) + (zc3 : Int))) - (m_law_slot ((m_law_tables numbers).2) ((0 : Int) + (zc3 : Int))))]) (c_max2 rfl) (ea_cons ev_int (ea_cons (ev_bin o_sub (ev_call (ds := [(eL D.int) ((m_law_tables numbers).1), D.int ((0 : Int) + (zc3 : Int))]) (ds' := []) (dvs := []) (dfs := []) O_law_slot (zhr.mono (by decide)) T.m_law_slot T.k_law_slot T.b_law_slot .nil (fun _ => .nil) (ea_cons (ev_var 2 rfl (.inr (.inl rfl)) rfl) (ea_cons (ev_var 14 rfl (.inl rfl) rfl) ea_nil)) (fun _ zkk => ⟨(m_law_tables numbers).1, ((0 : Int) + (zc3 : Int)), rfl, rfl, (by walk_at "pre"), zkk⟩) (by exact rfl)) (ev_call (ds := [(eL D.int) ((m_law_tables numbers).2), D.int ((0 : Int) + (zc3 : Int))]) (ds' := []) (dvs := []) (dfs := []) O_law_slot (zhr.mono (by decide)) T.m_law_slot T.k_law_slot T.b_law_slot .nil (fun _ => .nil) (ea_cons (ev_var 3 rfl (.inr (.inl rfl)) rfl) (ea_cons (ev_var 14 rfl (.inl rfl) rfl) ea_nil)) (fun _ zkk => ⟨(m_law_tables numbers).2, ((0 : Int) + (zc3 : Int)), rfl, rfl, (by walk_at "pre"), zkk⟩) (by exact rfl))) ea_nil)) (by exact rfl) T.n_max (by decide +kernel))) ?_)
                show Exs _ _ _ ⟨[some (.fr ((eL D.int) script)), some (.fr ((eL D.int) numbers)), some (.fr ((eL D.int) ((m_law_tables numbers).1))), some (.fr ((eL D.int) ((m_law_tables numbers).2))), some (.fr (D.int times)), some (.fr (D.int by_)), some (.fr ((eL D.int) ((m_law_tables numbers).1))), some (.fr ((eL D.int) ((m_law_tables numbers).2))), some (.fr (D.int (iterW (m_law_c0 ((m_law_tables numbers).1) ((m_law_tables numbers).2)) (m_law_w0 ((m_law_tables numbers).1) ((m_law_tables numbers).2)) 288 (1 : Int)))), some (.fr ((eT2 (eL D.int) (eL D.int)) pair)), some (.fr ((eL D.int) both)), some (.fr ((eL D.int) ((List.range ((iterW (m_law_c0 ((m_law_tables numbers).1) ((m_law_tables numbers).2)) (m_law_w0 ((m_law_tables numbers).1) ((m_law_tables numbers).2)) 288 (1 : Int))).toNat).map (fun zc3 : Nat => (if ((m_law_slot ((m_law_tables numbers).1) ((0 : Int) + (zc3 : Int))) - (m_law_slot ((m_law_tables numbers).2) ((0 : Int) + (zc3 : Int)))) > (0 : Int) then ((m_law_slot ((m_law_tables numbers).1) ((0 : Int) + (zc3 : Int))) - (m_law_slot ((m_law_tables numbers).2) ((0 : Int) + (zc3 : Int)))) else (0 : Int)))))), none, none, none], []⟩ _
                generalize zg_rest : ((List.range ((iterW (m_law_c0 ((m_law_tables numbers).1) ((m_law_tables numbers).2)) (m_law_w0 ((m_law_tables numbers).1) ((m_law_tables numbers).2)) 288 (1 : Int))).toNat).map (fun zc3 : Nat => (if ((m_law_slot ((m_law_tables numbers).1) ((0 : Int) + (zc3 : Int))) - (m_law_slot ((m_law_tables numbers).2) ((0 : Int) + (zc3 : Int)))) > (0 : Int) then ((m_law_slot ((m_law_tables numbers).1) ((0 : Int) + (zc3 : Int))) - (m_law_slot ((m_law_tables numbers).2) ((0 : Int) + (zc3 : Int)))) else (0 : Int)))) = rest
                show Exs _ _ _ ⟨[some (.fr ((eL D.int) script)), some (.fr ((eL D.int) numbers)), some (.fr ((eL D.int) ((m_law_tables numbers).1))), some (.fr ((eL D.int) ((m_law_tables numbers).2))), some (.fr (D.int times)), some (.fr (D.int by_)), some (.fr ((eL D.int) ((m_law_tables numbers).1))), some (.fr ((eL D.int) ((m_law_tables numbers).2))), some (.fr (D.int (iterW (m_law_c0 ((m_law_tables numbers).1) ((m_law_tables numbers).2)) (m_law_w0 ((m_law_tables numbers).1) ((m_law_tables numbers).2)) 288 (1 : Int)))), some (.fr ((eT2 (eL D.int) (eL D.int)) pair)), some (.fr ((eL D.int) both)), some (.fr ((eL D.int) rest)), none, none, none], []⟩ _
                refine exs_cons (ex_ifP (bd_or (bd_not Iff.rfl) (bd_not Iff.rfl)) (Ew.et (ew_orP (bd_not Iff.rfl) (et_not (et_val (ev_call (ds := [(eL D.int) (m_joined ((m_law_tables numbers).1) ((m_law_tables numbers).2)), (eL D.int) both]) (ds' := []) (dvs := []) (dfs := []) O_law_is_table (zhr.mono (by decide)) T.m_law_is_table T.k_law_is_table T.b_law_is_table .nil (fun _ => .nil) (ea_cons (ev_call (ds := [(eL D.int) ((m_law_tables numbers).1), (eL D.int) ((m_law_tables numbers).2)]) (ds' := []) (dvs := []) (dfs := []) O_joined (zhr.mono (by decide)) T.m_joined T.k_joined T.b_joined .nil (fun _ => .nil) (ea_cons (ev_var 6 rfl (.inl rfl) rfl) (ea_cons (ev_var 7 rfl (.inl rfl) rfl) ea_nil)) (fun _ zkk => ⟨(m_law_tables numbers).1, (m_law_tables numbers).2, rfl, rfl, (by walk_at "pre"), zkk⟩) (by exact rfl)) (ea_cons (ev_var 10 rfl (.inl rfl) rfl) ea_nil)) (fun _ zkk => ⟨(m_joined ((m_law_tables numbers).1) ((m_law_tables numbers).2)), both, rfl, rfl, (by walk_at "pre"), zkk⟩) (by exact rfl)))) (fun zhp => (ew_or1 (et_not (et_val (ev_call (ds := [(eL D.int) (m_reduced ((m_law_tables numbers).1) ((m_law_tables numbers).2)), (eL D.int) rest]) (ds' := []) (dvs := []) (dfs := []) O_law_is_table (zhr.mono (by decide)) T.m_law_is_table T.k_law_is_table T.b_law_is_table .nil (fun _ => .nil) (ea_cons (ev_call (ds := [(eL D.int) ((m_law_tables numbers).1), (eL D.int) ((m_law_tables numbers).2)]) (ds' := []) (dvs := []) (dfs := []) O_reduced (zhr.mono (by decide)) T.m_reduced T.k_reduced T.b_reduced .nil (fun _ => .nil) (ea_cons (ev_var 6 rfl (.inl rfl) rfl) (ea_cons (ev_var 7 rfl (.inl rfl) rfl) ea_nil)) (fun _ zkk => ⟨(m_law_tables numbers).1, (m_law_tables numbers).2, rfl, rfl, (by walk_at "pre"), zkk⟩) (by exact rfl)) (ea_cons (ev_var 11 rfl (.inl rfl) rfl) ea_nil)) (fun _ zkk => ⟨(m_reduced ((m_law_tables numbers).1) ((m_law_tables numbers).2)), rest, rfl, rfl, (by walk_at "pre"), zkk⟩) (by exact rfl)))))))) (fun (zh7 : ((¬ ((m_law_is_table (m_joined ((m_law_tables numbers).1) ((m_law_tables numbers).2)) both) = true)) ∨ (¬ ((m_law_is_table (m_reduced ((m_law_tables numbers).1) ((m_law_tables numbers).2)) rest) = true)))) => ?_) (fun (zh7 : ¬ ((¬ ((m_law_is_table (m_joined ((m_law_tables numbers).1) ((m_law_tables numbers).2)) both) = true)) ∨ (¬ ((m_law_is_table (m_reduced ((m_law_tables numbers).1) ((m_law_tables numbers).2)) rest) = true)))) => ?_))
                · skip
                  refine exs_one (ex_ret ev_bl ?_)
                  have efin : m_law script = false := by subst zg_rest; subst zg_both; subst zg_pair; subst zg_by_; subst zg_times; subst zg_numbers; simp only [m_law, not_true_eq_false, not_false_eq_true, ↓reduceIte, ↓if_neg zh1, ↓if_neg zh2, ↓if_neg zh3, ↓if_neg zh4, ↓if_neg zh5, ↓if_neg zh6, ↓if_pos zh7]
                  rw [efin] at zk
                  exact zk _
                · skip
                  refine exs_nil ?_
                  show Exs _ _ _ ⟨[some (.fr ((eL D.int) script)), some (.fr ((eL D.int) numbers)), some (.fr ((eL D.int) ((m_law_tables numbers).1))), some (.fr ((eL D.int) ((m_law_tables numbers).2))), some (.fr (D.int times)), some (.fr (D.int by_)), some (.fr ((eL D.int) ((m_law_tables numbers).1))), some (.fr ((eL D.int) ((m_law_tables numbers).2))), some (.fr (D.int (iterW (m_law_c0 ((m_law_tables numbers).1) ((m_law_tables numbers).2)) (m_law_w0 ((m_law_tables numbers).1) ((m_law_tables numbers).2)) 288 (1 : Int)))), some (.fr ((eT2 (eL D.int) (eL D.int)) pair)), some (.fr ((eL D.int) both)), some (.fr ((eL D.int) rest)), none, none, none], []⟩ _
                  refine exs_cons (ex_set 12 (ev_call (ds := [(eL D.int) ((m_law_tables numbers).1), (eL D.int) ((m_law_tables numbers).2)]) (ds' := []) (dvs := []) (dfs := []) O_are_alike (zhr.mono (by decide)) T.m_are_alike T.k_are_alike T.b_are_alike .nil (fun _ => .nil) (ea_cons (ev_var 6 rfl (.inl rfl) rfl) (ea_cons (ev_var 7 rfl (.inl rfl) rfl) ea_nil)) (fun _ zkk => ⟨(m_law_tables numbers).1, (m_law_tables numbers).2, rfl, rfl, (by walk_at "pre"), zkk⟩) (by exact rfl)) ?_ nd rfl (.inl rfl))
                  show Exs _ _ _ ⟨[some (.fr ((eL D.int) script)), some (.fr ((eL D.int) numbers)), some (.fr ((eL D.int) ((m_law_tables numbers).1))), some (.fr ((eL D.int) ((m_law_tables numbers).2))), some (.fr (D.int times)), some (.fr (D.int by_)), some (.fr ((eL D.int) ((m_law_tables numbers).1))), some (.fr ((eL D.int) ((m_law_tables numbers).2))), some (.fr (D.int (iterW (m_law_c0 ((m_law_tables numbers).1) ((m_law_tables numbers).2)) (m_law_w0 ((m_law_tables numbers).1) ((m_law_tables numbers).2)) 288 (1 : Int)))), some (.fr ((eT2 (eL D.int) (eL D.int)) pair)), some (.fr ((eL D.int) both)), some (.fr ((eL D.int) rest)), some (.fr (D.bl (m_are_alike ((m_law_tables numbers).1) ((m_law_tables numbers).2)))), none, none], []⟩ _
                  generalize zg_alike : (m_are_alike ((m_law_tables numbers).1) ((m_law_tables numbers).2)) = alike
                  show Exs _ _ _ ⟨[some (.fr ((eL D.int) script)), some (.fr ((eL D.int) numbers)), some (.fr ((eL D.int) ((m_law_tables numbers).1))), some (.fr ((eL D.int) ((m_law_tables numbers).2))), some (.fr (D.int times)), some (.fr (D.int by_)), some (.fr ((eL D.int) ((m_law_tables numbers).1))), some (.fr ((eL D.int) ((m_law_tables numbers).2))), some (.fr (D.int (iterW (m_law_c0 ((m_law_tables numbers).1) ((m_law_tables numbers).2)) (m_law_w0 ((m_law_tables numbers).1) ((m_law_tables numbers).2)) 288 (1 : Int)))), some (.fr ((eT2 (eL D.int) (eL D.int)) pair)), some (.fr ((eL D.int) both)), some (.fr ((eL D.int) rest)), some (.fr (D.bl alike)), none, none], []⟩ _
                  refine exs_cons (ex_set 13 (ev_call (ds := [(eL D.int) ((m_law_tables numbers).1), (eL D.int) ((m_law_tables numbers).2)]) (ds' := []) (dvs := []) (dfs := []) O_are_rotations (zhr.mono (by decide)) T.m_are_rotations T.k_are_rotations T.b_are_rotations .nil (fun _ => .nil) (ea_cons (ev_var 6 rfl (.inl rfl) rfl) (ea_cons (ev_var 7 rfl (.inl rfl) rfl) ea_nil)) (fun _ zkk => ⟨(m_law_tables numbers).1, (m_law_tables numbers).2, rfl, rfl, (by walk_at "pre"), zkk⟩) (by exact rfl)) ?_ nd rfl (.inl rfl))
                  show Exs _ _ _ ⟨[some (.fr ((eL D.int) script)), some (.fr ((eL D.int) numbers)), some (.fr ((eL D.int) ((m_law_tables numbers).1))), some (.fr ((eL D.int) ((m_law_tables numbers).2))), some (.fr (D.int times)), some (.fr (D.int by_)), some (.fr ((eL D.int) ((m_law_tables numbers).1))), some (.fr ((eL D.int) ((m_law_tables numbers).2))), some (.fr (D.int (iterW (m_law_c0 ((m_law_tables numbers).1) ((m_law_tables numbers).2)) (m_law_w0 ((m_law_tables numbers).1) ((m_law_tables numbers).2)) 288 (1 : Int)))), some (.fr ((eT2 (eL D.int) (eL D.int)) pair)), some (.fr ((eL D.int) both)), some (.fr ((eL D.int) rest)), some (.fr (D.bl alike)), some (.fr (D.bl (m_are_rotations ((m_law_tables numbers).1) ((m_law_tables numbers).2)))), none], []⟩ _
                  generalize zg_turned : (m_are_rotations ((m_law_tables numbers).1) ((m_law_tables numbers).2)) = turned
                  show Exs _ _ _ ⟨[some (.fr ((eL D.int) script)), some (.fr ((eL D.int) numbers)), some (.fr ((eL D.int) ((m_law_tables numbers).1))), some (.fr ((eL D.int) ((m_law_tables numbers).2))), some (.fr (D.int times)), some (.fr (D.int by_)), some (.fr ((eL D.int) ((m_law_tables numbers).1))), some (.fr ((eL D.int) ((m_law_tables numbers).2))), some (.fr (D.int (iterW (m_law_c0 ((m_law_tables numbers).1) ((m_law_tables numbers).2)) (m_law_w0 ((m_law_tables numbers).1) ((m_law_tables numbers).2)) 288 (1 : Int)))), some (.fr ((eT2 (eL D.int) (eL D.int)) pair)), some (.fr ((eL D.int) both)), some (.fr ((eL D.int) rest)), some (.fr (D.bl alike)), some (.fr (D.bl turned)), none], []⟩ _
                  refine exs_cons (ex_ifP (bd_or (bd_not Iff.rfl) (bd_or bd_n (bd_not Iff.rfl))) (Ew.et (ew_orP (bd_not Iff.rfl) (et_not (et_val (ev_isi (T := "bool") (b := true) (ev_var 12 rfl (.inl rfl) rfl) rfl (by decide) (by exact rfl) T.n_isinstance (by exact rfl) T.n_bool (by decide +kernel)))) (fun zhp => (ew_orP bd_n (et_cmp o_neb (ev_var 12 rfl (.inl rfl) rfl) (ev_call (ds := [(eL D.int) ((m_law_tables numbers).1), (eL D.int) ((m_law_tables numbers).2), D.int (0 : Int)]) (ds' := []) (dvs := []) (dfs := []) O_law_alike (zhr.mono (by decide)) T.m_law_alike T.k_law_alike T.b_law_alike .nil (fun _ => .nil) (ea_cons (ev_var 2 rfl (.inr (.inl rfl)) rfl) (ea_cons (ev_var 3 rfl (.inr (.inl rfl)) rfl) (ea_cons ev_int ea_nil))) (fun _ zkk => ⟨(m_law_tables numbers).1, (m_law_tables numbers).2, (0 : Int), rfl, rfl, (by walk_at "pre"), zkk⟩) (by exact rfl)) (nomark _)) (fun zhp => (ew_or1 (et_not (et_val (ev_isi (T := "bool") (b := true) (ev_var 13 rfl (.inl rfl) rfl) rfl (by decide) (by exact rfl) T.n_isinstance (by exact rfl) T.n_bool (by decide +kernel)))))))))) (fun (zh8 : ((¬ (true = true)) ∨ ((¬ (alike = (m_law_alike ((m_law_tables numbers).1) ((m_law_tables numbers).2) (0 : Int)))) ∨ (¬ (true = true))))) => ?_) (fun (zh8 : ¬ ((¬ (true = true)) ∨ ((¬ (alike = (m_law_alike ((m_law_tables numbers).1) ((m_law_tables numbers).2) (0 : Int)))) ∨ (¬ (true = true))))) => ?_))
                  · skip
                    refine exs_one (ex_ret ev_bl ?_)
                    have efin : m_law script = false := by subst zg_turned; subst zg_alike; subst zg_rest; subst zg_both; subst zg_pair; subst zg_by_; subst zg_times; subst zg_numbers; simp only [m_law, not_true_eq_false, not_false_eq_true, ↓reduceIte, ↓if_neg zh1, ↓if_neg zh2, ↓if_neg zh3, ↓if_neg zh4, ↓if_neg zh5, ↓if_neg zh6, ↓if_neg zh7, ↓if_pos zh8]
                    rw [efin] at zk
                    exact zk _
                  · skip
                    refine exs_nil ?_
                    show Exs _ _ _ ⟨[some (.fr ((eL D.int) script)), some (.fr ((eL D.int) numbers)), some (.fr ((eL D.int) ((m_law_tables numbers).1))), some (.fr ((eL D.int) ((m_law_tables numbers).2))), some (.fr (D.int times)), some (.fr (D.int by_)), some (.fr ((eL D.int) ((m_law_tables numbers).1))), some (.fr ((eL D.int) ((m_law_tables numbers).2))), some (.fr (D.int (iterW (m_law_c0 ((m_law_tables numbers).1) ((m_law_tables numbers).2)) (m_law_w0 ((m_law_tables numbers).1) ((m_law_tables numbers).2)) 288 (1 : Int)))), some (.fr ((eT2 (eL D.int) (eL D.int)) pair)), some (.fr ((eL D.int) both)), some (.fr ((eL D.int) rest)), some (.fr (D.bl alike)), some (.fr (D.bl turned)), none], []⟩ _
                    refine exs_one (ex_ret (ev_andP bd_d (ev_cmp o_eqb (ev_var 13 rfl (.inl rfl) rfl) (ev_cmp (o_inL (e := D.bl) (x := true) (ys := ((List.range ((((m_law_tables numbers).1).length : Int)).toNat).map (fun zc4 : Nat => (m_law_alike ((m_law_tables numbers).1) ((m_law_tables numbers).2) ((0 : Int) + (zc4 : Int)))))) zhr.units ee_bool) ev_bl (ev_lcM (enc2 := D.bl) 199 (fun zc4 : Nat => (m_law_alike ((m_law_tables numbers).1) ((m_law_tables numbers).2) ((0 : Int) + (zc4 : Int)))) _ rfl nd (blkOk_by (N := ["script", "numbers", "one", "other", "times", "by", "first", "second", "length", "pair", "both", "rest", "alike", "turned", "k"]) (sc := defScope s_law) (own := [(("k" : Str), 14)]) (by decide +kernel)) (src_range1 (ea_cons (ev_len (ln_L (xs := (m_law_tables numbers).1) (enc := D.int) (by exact rfl)) (ev_var 2 rfl (.inr (.inl rfl)) rfl) (by exact rfl) T.n_len) ea_nil) (by exact rfl) T.n_range (by walk_at "sd") (by walk_at "sd")) (by simp [names]) (by decide) (by walk_at "sd") (fun _ zc4 _ zhyzc4 _ _ _ _ _ => (eg_nameC 14 nd rfl (.inl rfl) (by decide) (.inr rfl))) (fun _ zc4 _ zhyzc4 _ _ _ _ _ => (ev_call (ds := [(eL D.int) ((m_law_tables numbers).1), (eL D.int) ((m_law_tables numbers).2), D.int ((0 : Int) + (zc4 : Int))]) (ds' := []) (dvs := []) (dfs := []) O_law_alike (zhr.mono (by decide)) T.m_law_alike T.k_law_alike T.b_law_alike .nil (fun _ => .nil) (ea_cons (ev_var 2 rfl (.inr (.inl rfl)) rfl) (ea_cons (ev_var 3 rfl (.inr (.inl rfl)) rfl) (ea_cons (ev_var 14 rfl (.inl rfl) rfl) ea_nil))) (fun _ zkk => ⟨(m_law_tables numbers).1, (m_law_tables numbers).2, ((0 : Int) + (zc4 : Int)), rfl, rfl, (by walk_at "pre"), zkk⟩) (by exact rfl)))) (by rfl)) (nomark _)) (fun zhp => (ev_andP bd_d (ev_cmp (o_eqD (e := (eL D.int)) (x := (m_law_tables numbers).1) (y := (m_law_tables numbers).1) zhr.units (ee_L ee_int)) (ev_var 6 rfl (.inl rfl) rfl) (ev_var 2 rfl (.inr (.inl rfl)) rfl) (nomark _)) (fun zhp => (ev_one (ev_cmp (o_eqD (e := (eL D.int)) (x := (m_law_tables numbers).2) (y := (m_law_tables numbers).2) zhr.units (ee_L ee_int)) (ev_var 7 rfl (.inl rfl) rfl) (ev_var 3 rfl (.inr (.inl rfl)) rfl) (nomark _))))))) ?_)
                    have efin : m_law script = ((decide (turned = (decide (true ∈ ((List.range ((((m_law_tables numbers).1).length : Int)).toNat).map (fun zc4 : Nat => (m_law_alike ((m_law_tables numbers).1) ((m_law_tables numbers).2) ((0 : Int) + (zc4 : Int))))))))) && ((decide ((m_law_tables numbers).1 = (m_law_tables numbers).1)) && (decide ((m_law_tables numbers).2 = (m_law_tables numbers).2)))) := by subst zg_turned; subst zg_alike; subst zg_rest; subst zg_both; subst zg_pair; subst zg_by_; subst zg_times; subst zg_numbers; simp only [m_law, not_true_eq_false, not_false_eq_true, ↓reduceIte, ↓if_neg zh1, ↓if_neg zh2, ↓if_neg zh3, ↓if_neg zh4, ↓if_neg zh5, ↓if_neg zh6, ↓if_neg zh7, ↓if_neg zh8]
                    rw [efin] at zk
                    exact zk _
def per (t : List Int) (k : Nat) : Int := t.getD (k % t.length) default
theorem per_add (t : List Int) (k : Nat) : per t (k + t.length) = per t k := by unfold per; rw [Nat.add_mod_right]
theorem per_lt {t : List Int} {k : Nat} (h : k < t.length) : per t k = t.getD k default := by unfold per; rw [Nat.mod_eq_of_lt h]
def Pd (f : Nat → Int) (p : Nat) : Prop := ∀ k, f (k + p) = f k
theorem Pd.mul {f : Nat → Int} {p : Nat} (h : Pd f p) : ∀ n k, f (k + n * p) = f k
  | 0, k => by rw [Nat.zero_mul, Nat.add_zero]
  | n + 1, k => by rw [Nat.succ_mul, ← Nat.add_assoc, h, Pd.mul h n k]
theorem Pd.mod {f : Nat → Int} {p : Nat} (h : Pd f p) (k : Nat) : f (k % p) = f k := by
  have := h.mul (k / p) (k % p)
  rw [Nat.mul_comm, Nat.mod_add_div] at this
  exact this.symm
theorem pd_self (t : List Int) : Pd (per t) t.length := per_add t
theorem pd_gcd {f : Nat → Int} : ∀ (a b : Nat), Pd f a → Pd f b → Pd f (Nat.gcd a b) := by
  intro a b
  induction a, b using Nat.gcd.induction with
  | H0 n => intro _ h; rw [Nat.gcd_zero_left]; exact h
  | H1 a b ha ih =>
    intro h1 h2
    rw [Nat.gcd_rec]
    refine ih (fun k => ?_) h1
    have := h1.mul (b / a) (k + b % a)
    rw [Nat.add_assoc, Nat.mul_comm, Nat.mod_add_div] at this
    rw [← this]
    exact h2 k
/-- agreeing on as many slots as both periods multiplied is agreeing -/
theorem agree {f g : Nat → Int} {p q N : Nat} (hp : 0 < p) (hq : 0 < q) (h1 : Pd f p) (h2 : Pd g q) (hN : p * q ≤ N) (h : ∀ s, s < N → f s = g s) (k : Nat) : f k = g k := by
  have a1 : Pd f (p * q) := fun k => by have := h1.mul q k; rw [Nat.mul_comm] at this; exact this
  have a2 : Pd g (p * q) := fun k => h2.mul p k
  rw [← a1.mod k, ← a2.mod k]
  exact h _ (Nat.lt_of_lt_of_le (Nat.mod_lt _ (Nat.mul_pos hp hq)) hN)
theorem ext_per {s t : List Int} (hl : s.length = t.length) (h : ∀ k, k < t.length → per s k = per t k) : s = t := by
  refine List.ext_getElem hl fun i h1 h2 => ?_
  have := h i h2
  rw [per_lt h1, per_lt h2, List.getD_eq_getElem?_getD, List.getD_eq_getElem?_getD, List.getElem?_eq_getElem h1, List.getElem?_eq_getElem h2] at this
  exact this
theorem per_of {L : Nat} {f : Nat → Int} {k : Nat} (h : k < L) : per ((List.range L).map f) k = f k := by
  rw [per_lt (by rw [List.length_map, List.length_range]; exact h), List.getD_eq_getElem?_getD, List.getElem?_map, List.getElem?_range h]; rfl
theorem map_per (t : List Int) : (List.range t.length).map (per t) = t :=
  ext_per (by rw [List.length_map, List.length_range]) fun k hk => per_of hk
/-- a list n times -/
theorem frep_per (t : List Int) (ht : 0 < t.length) : ∀ n : Nat, (List.flatten (List.replicate n t)) = (List.range (n * t.length)).map (per t)
  | 0 => by simp
  | n + 1 => by
    rw [List.replicate_succ', List.flatten_append, frep_per t ht n, Nat.succ_mul, List.range_add, List.map_append]
    congr 1
    rw [List.flatten_cons, List.flatten_nil, List.append_nil, List.map_map]
    have : (per t ∘ fun x => n * t.length + x) = per t := by
      funext k
      show per t (n * t.length + k) = per t k
      rw [Nat.add_comm]
      exact (pd_self t).mul n k
    rw [this, map_per]
theorem repeated_eq {t : List Int} (ht : 0 < t.length) (n : Int) : m_repeated t n = (List.range (n.toNat * t.length)).map (per t) := frep_per t ht _
theorem slot_eq {t : List Int} (k : Nat) : m_law_slot t (k : Int) = per t k := by
  unfold m_law_slot per
  rw [← Int.natCast_emod, Int.toNat_natCast]
theorem rot_eq {t : List Int} {n : Nat} (hn : n ≤ t.length) : t.drop n ++ t.take n = (List.range t.length).map fun i => per t (i + n) := by
  have hl : (t.drop n ++ t.take n).length = t.length := by rw [List.length_append, List.length_drop, List.length_take]; omega
  refine List.ext_getElem? fun k => ?_
  by_cases hk : k < t.length
  · rw [List.getElem?_map, List.getElem?_range hk]
    show _ = some (per t (k + n))
    unfold per
    by_cases q : k < t.length - n
    · rw [List.getElem?_append_left (by rw [List.length_drop]; exact q), List.getElem?_drop, Nat.mod_eq_of_lt (by omega), List.getD_eq_getElem?_getD, Nat.add_comm n k, List.getElem?_eq_getElem (by omega)]
      rfl
    · rw [List.getElem?_append_right (by rw [List.length_drop]; omega), List.length_drop, List.getElem?_take_of_lt (by omega), List.getD_eq_getElem?_getD]
      have : (k + n) % t.length = k - (t.length - n) := by
        rw [show k + n = (k - (t.length - n)) + t.length by omega, Nat.add_mod_right, Nat.mod_eq_of_lt (by omega)]
      rw [this, List.getElem?_eq_getElem (by omega)]
      rfl
  · rw [List.getElem?_eq_none (by rw [hl]; omega), List.getElem?_eq_none (by rw [List.length_map, List.length_range]; omega)]
theorem rotated_eq {t : List Int} (ht : 0 < t.length) (b : Int) : m_rotated t b = (List.range t.length).map fun i => per t (i + (b % (t.length : Int)).toNat) := by
  have h0 : 0 ≤ b % (t.length : Int) := Int.emod_nonneg _ (by omega)
  have h1 := Int.emod_lt_of_pos b (show 0 < (t.length : Int) by omega)
  unfold m_rotated
  dsimp only
  rw [slc_take _ h0, slc_drop _ h0]
  exact rot_eq (by omega)
/-- the first parts that make up a table -/
theorem short_spec {t : List Int} (ht : 0 < t.length) : ∃ p, 0 < p ∧ p ≤ t.length ∧ p ∣ t.length ∧ m_shortest t = (List.range p).map (per t) ∧ Pd (per t) p ∧ ∀ q, 0 < q → Pd (per t) q → p ∣ q := by
  classical
  -- a part that makes up the table is a period
  have up : ∀ p, 0 < p → p ≤ t.length → p ∣ t.length → (m_repeated (t.take p) ((t.length : Int) / (p : Int)) = t ↔ Pd (per t) p) := by
    intro p h0 h1 h2
    obtain ⟨c, hc⟩ := h2
    have hd : ((t.length : Int) / (p : Int)).toNat = c := by
      rw [hc, ← Int.natCast_ediv, Int.toNat_natCast, Nat.mul_div_cancel_left _ h0]
    have hl : (t.take p).length = p := by rw [List.length_take]; omega
    have hm : c * p = t.length := by rw [hc, Nat.mul_comm]
    have ht2 : ∀ k, per (t.take p) k = per t (k % p) := fun k => by
      have hk := Nat.mod_lt k h0
      rw [per_lt (show k % p < t.length by omega)]
      unfold per
      rw [hl, List.getD_eq_getElem?_getD, List.getD_eq_getElem?_getD, List.getElem?_take_of_lt hk]
    rw [repeated_eq (by rw [hl]; exact h0), hd, hl, hm]
    constructor
    · intro e k
      have key : ∀ k, per t k = per t (k % p) := fun k => by
        have e2 : per t (k % t.length) = per (t.take p) (k % t.length) := by
          conv => lhs; rw [← e]
          unfold per
          rw [List.length_map, List.length_range, Nat.mod_mod, List.getD_eq_getElem?_getD, List.getElem?_map, List.getElem?_range (Nat.mod_lt _ ht)]
          rfl
        rw [(pd_self t).mod] at e2
        rw [e2, ht2, Nat.mod_mod_of_dvd _ ⟨c, hc⟩]
      rw [key (k + p), Nat.add_mod_right, ← key k]
    · intro h
      refine ext_per (by rw [List.length_map, List.length_range]) fun k hk => ?_
      rw [per_of hk, ht2, h.mod]
  have fin : ∀ p, 0 < p → p ≤ t.length → p ∣ t.length → Pd (per t) p → (∀ q, 0 < q → q < p → q ∣ t.length → ¬ Pd (per t) q) → ∀ q, 0 < q → Pd (per t) q → p ∣ q := fun p h0 h1 h2 h3 h4 q h5 h6 => by
    have g := pd_gcd p q h3 h6
    have gd := Nat.gcd_dvd_left p q
    have g0 := Nat.gcd_pos_of_pos_left q h0
    by_cases w : Nat.gcd p q = p
    · rw [← w]; exact Nat.gcd_dvd_right p q
    · exact absurd g (h4 _ g0 (Nat.lt_of_le_of_ne (Nat.le_of_dvd h0 gd) w) (Nat.dvd_trans gd h2))
  have step : ∀ y, y < t.length - 1 → (m_shortest_l0 t (t.length : Int) (1 : Int) () y = (if (y + 1) ∣ t.length ∧ Pd (per t) (y + 1) then .error ((List.range (y + 1)).map (per t)) else .ok () : Except (List Int) Unit)) := by
    intro y hy
    have e1 : (1 : Int) + (y : Int) = ((y + 1 : Nat) : Int) := by omega
    have hs : slcD t none (some ((1 : Int) + (y : Int))) = t.take (y + 1) := by rw [slc_take _ (by omega), show ((1 : Int) + (y : Int)).toNat = y + 1 by omega]
    have hm : (List.range (y + 1)).map (per t) = t.take (y + 1) := by
      have hl : (t.take (y + 1)).length = y + 1 := by rw [List.length_take]; omega
      refine ext_per (by rw [hl, List.length_map, List.length_range]) fun k hk => ?_
      rw [hl] at hk
      rw [per_of hk, per_lt (show k < t.length by omega), per_lt (by rw [hl]; exact hk), List.getD_eq_getElem?_getD, List.getD_eq_getElem?_getD, List.getElem?_take_of_lt hk]
    unfold m_shortest_l0
    rw [hs, e1, hm]
    by_cases d : (y + 1) ∣ t.length
    · have d2 : (t.length : Int) % ((y + 1 : Nat) : Int) = 0 := by rw [← Int.natCast_emod, Nat.mod_eq_zero_of_dvd d]; rfl
      have u := up (y + 1) (by omega) (by omega) d
      by_cases w : Pd (per t) (y + 1)
      · rw [if_pos ⟨d2, u.mpr w⟩, if_pos ⟨d, w⟩]
      · rw [if_neg (fun z => w (u.mp z.2)), if_neg (fun z => w z.2)]
    · have d2 : ¬ (t.length : Int) % ((y + 1 : Nat) : Int) = 0 := fun z => d (Nat.dvd_of_mod_eq_zero (by rw [← Int.natCast_emod] at z; exact_mod_cast z))
      rw [if_neg (fun z => d2 z.1), if_neg (fun z => d z.1)]
  unfold m_shortest
  have hr : ((t.length : Int) - (1 : Int)).toNat = t.length - 1 := by omega
  rw [hr]
  -- the first one that is found
  have run : ∀ n, n ≤ t.length - 1 → (runE (m_shortest_l0 t (t.length : Int) (1 : Int)) (List.range n) () = .ok () ∧ ∀ q, 0 < q → q ≤ n → q ∣ t.length → ¬ Pd (per t) q) ∨ ∃ p, 0 < p ∧ p ≤ n ∧ p ∣ t.length ∧ Pd (per t) p ∧ (∀ q, 0 < q → q < p → q ∣ t.length → ¬ Pd (per t) q) ∧ runE (m_shortest_l0 t (t.length : Int) (1 : Int)) (List.range n) () = .error ((List.range p).map (per t)) := by
    intro n
    induction n with
    | zero => intro _; exact .inl ⟨rfl, fun q h1 h2 => by omega⟩
    | succ n ih =>
      intro hn
      rw [List.range_succ, runE_append]
      rcases ih (by omega) with ⟨h1, h2⟩ | ⟨p, h1, h2, h3, h4, h5, h6⟩
      · rw [h1]
        dsimp only
        rw [runE_cons, step n (by omega)]
        by_cases w : (n + 1) ∣ t.length ∧ Pd (per t) (n + 1)
        · rw [if_pos w]
          exact .inr ⟨n + 1, by omega, Nat.le_refl _, w.1, w.2, fun q a b c => h2 q a (by omega) c, rfl⟩
        · rw [if_neg w]
          refine .inl ⟨rfl, fun q a b c d => ?_⟩
          by_cases e : q = n + 1
          · exact w ⟨e ▸ c, e ▸ d⟩
          · exact h2 q a (by omega) c d
      · rw [h6]
        exact .inr ⟨p, h1, by omega, h3, h4, h5, rfl⟩
  rcases run (t.length - 1) (Nat.le_refl _) with ⟨h1, h2⟩ | ⟨p, h1, h2, h3, h4, h5, h6⟩
  · rw [h1]
    exact ⟨t.length, ht, Nat.le_refl _, Nat.dvd_refl _, (map_per t).symm, pd_self t, fin _ ht (Nat.le_refl _) (Nat.dvd_refl _) (pd_self t) fun q a b c => h2 q a (by omega) c⟩
  · rw [h6]
    exact ⟨p, h1, by omega, h3, rfl, h4, fin _ h1 (by omega) h3 h4 h5⟩
structure STO {τ : Type} (lt : τ → τ → Bool) : Prop where
  ir : ∀ x, lt x x = false
  tr : ∀ x y z, lt x y = true → lt y z = true → lt x z = true
  tri : ∀ x y, lt x y = true ∨ x = y ∨ lt y x = true
theorem STO.asym {τ : Type} {lt : τ → τ → Bool} (o : STO lt) {x y : τ} (h : lt x y = true) : lt y x = false := by
  cases e : lt y x with
  | false => rfl
  | true => have := o.tr x y x h e; rw [o.ir] at this; cases this
theorem sto_int : STO ltI := ⟨fun x => decide_eq_false (Int.lt_irrefl x), fun x y z h1 h2 => by
  have h1 := of_decide_eq_true h1; have h2 := of_decide_eq_true h2; exact decide_eq_true (by omega), fun x y => by
  rcases Int.lt_trichotomy x y with h | h | h
  · exact .inl (decide_eq_true h)
  · exact .inr (.inl h)
  · exact .inr (.inr (decide_eq_true h))⟩
theorem sto_list {τ : Type} [DecidableEq τ] {lt : τ → τ → Bool} (o : STO lt) : STO (ltList lt) := by
  refine ⟨fun x => ?_, fun x => ?_, fun x => ?_⟩
  · induction x with
    | nil => rfl
    | cons a x ih => show (if a = a then ltList lt x x else lt a a) = false; rw [if_pos rfl, ih]
  · induction x with
    | nil =>
      intro y z h1 h2
      cases y with
      | nil => cases h1
      | cons b y => cases z with
        | nil => cases h2
        | cons c z => rfl
    | cons a x ih =>
      intro y z h1 h2
      cases y with
      | nil => cases h1
      | cons b y =>
        cases z with
        | nil => cases h2
        | cons c z =>
          have h1 : (if a = b then ltList lt x y else lt a b) = true := h1
          have h2 : (if b = c then ltList lt y z else lt b c) = true := h2
          show (if a = c then ltList lt x z else lt a c) = true
          by_cases q1 : a = b
          · subst q1
            rw [if_pos rfl] at h1
            by_cases q2 : a = c
            · subst q2
              rw [if_pos rfl] at h2 ⊢
              exact ih y z h1 h2
            · rw [if_neg q2] at h2 ⊢; exact h2
          · rw [if_neg q1] at h1
            by_cases q2 : b = c
            · subst q2
              rw [if_neg q1]; exact h1
            · rw [if_neg q2] at h2
              have h3 := o.tr a b c h1 h2
              by_cases q3 : a = c
              · subst q3
                rw [o.ir] at h3; cases h3
              · rw [if_neg q3]; exact h3
  · induction x with
    | nil =>
      intro y
      cases y with
      | nil => exact .inr (.inl rfl)
      | cons b y => exact .inl rfl
    | cons a x ih =>
      intro y
      cases y with
      | nil => exact .inr (.inr rfl)
      | cons b y =>
        show (if a = b then ltList lt x y else lt a b) = true ∨ _ ∨ (if b = a then ltList lt y x else lt b a) = true
        by_cases q : a = b
        · subst q
          rw [if_pos rfl, if_pos rfl]
          rcases ih y with h | h | h
          · exact .inl h
          · exact .inr (.inl (by rw [h]))
          · exact .inr (.inr h)
        · rw [if_neg q, if_neg (fun z => q z.symm)]
          rcases o.tri a b with h | h | h
          · exact .inl h
          · exact absurd h q
          · exact .inr (.inr h)
abbrev LI := ltList ltI
theorem stoL : STO LI := sto_list sto_int
theorem minB_le : ∀ {xs : List (List Int)} {x : List Int}, x ∈ xs → LI x (minB LI xs) = false := by
  have key : ∀ (ys : List (List Int)) (a : List Int), LI a (ys.foldl (fun a y => if LI y a then y else a) a) = false ∧ ∀ y ∈ ys, LI y (ys.foldl (fun a y => if LI y a then y else a) a) = false := by
    intro ys
    induction ys with
    | nil => intro a; exact ⟨stoL.ir a, fun y h => by cases h⟩
    | cons y ys ih =>
      intro a
      rw [List.foldl_cons]
      have h := ih (if LI y a then y else a)
      generalize (ys.foldl (fun a y => if LI y a then y else a) (if LI y a then y else a)) = m at h
      -- not greater is passed on
      have tr : ∀ u v : List Int, LI u v = false → LI v m = false → LI u m = false := fun u v h1 h2 => by
        cases e : LI u m with
        | false => rfl
        | true =>
          rcases stoL.tri u v with q | q | q
          · rw [h1] at q; cases q
          · rw [q, h2] at e; cases e
          · rw [stoL.tr v u m q e] at h2; cases h2
      by_cases q : LI y a = true
      · rw [if_pos q] at h
        refine ⟨tr a y (stoL.asym q) h.1, fun z hz => ?_⟩
        rcases List.mem_cons.mp hz with w | w
        · rw [w]; exact h.1
        · exact h.2 z w
      · rw [if_neg q] at h
        refine ⟨h.1, fun z hz => ?_⟩
        rcases List.mem_cons.mp hz with w | w
        · rw [w]; exact tr y a (by simpa using q) h.1
        · exact h.2 z w
  intro xs x h
  cases xs with
  | nil => cases h
  | cons a ys =>
    show LI x (ys.foldl (fun a y => if LI y a then y else a) a) = false
    rcases List.mem_cons.mp h with w | w
    · rw [w]; exact (key ys a).1
    · exact (key ys a).2 x w
/-- the least one of two lists with the same items -/
theorem minB_same {xs ys : List (List Int)} (hx : xs ≠ []) (h : ∀ z, z ∈ xs ↔ z ∈ ys) : minB LI xs = minB LI ys := by
  have m1 := minB_mem (lt := LI) hx
  have hy : ys ≠ [] := fun q => by
    have := (h _).mp m1
    rw [q] at this; cases this
  have m2 := minB_mem (lt := LI) hy
  have a := minB_le ((h _).mpr m2)
  have b := minB_le ((h _).mp m1)
  rcases stoL.tri (minB LI xs) (minB LI ys) with q | q | q
  · rw [b] at q; cases q
  · exact q
  · rw [a] at q; cases q
/-- the rotation by n -/
def rotN (t : List Int) (n : Nat) : List Int := (List.range t.length).map fun i => per t (i + n)
def rots (t : List Int) : List (List Int) := (List.range t.length).map (rotN t)
theorem rots_ne {t : List Int} (ht : 0 < t.length) : rots t ≠ [] := fun q => by
  have := congrArg List.length q
  unfold rots at this
  rw [List.length_map, List.length_range] at this
  simp at this
  subst this
  cases ht
theorem rots_eq {t : List Int} (ht : 0 < t.length) : (List.range ((t.length : Int)).toNat).map (fun zc2 : Nat => (m_rotated t ((0 : Int) + (zc2 : Int)))) = rots t := by
  unfold rots
  rw [Int.toNat_natCast]
  refine List.map_congr_left fun k hk => ?_
  have hk := List.mem_range.mp hk
  have e : (((0 : Int) + (k : Int)) % (t.length : Int)).toNat = k := by
    rw [Int.zero_add, Int.emod_eq_of_lt (by omega) (by omega), Int.toNat_natCast]
  rw [rotated_eq ht, e]
  rfl
theorem least_eq {t : List Int} (ht : 0 < t.length) : m_least_rotation t = (((rots t).idxOf (minB LI (rots t)) : Nat) : Int) := by
  unfold m_least_rotation
  dsimp only
  rw [rots_eq ht]
theorem least_lt {t : List Int} (ht : 0 < t.length) : (rots t).idxOf (minB LI (rots t)) < t.length := by
  have := List.idxOf_lt_length_of_mem (minB_mem (lt := LI) (rots_ne ht))
  unfold rots at this ⊢
  rwa [List.length_map, List.length_range] at this
theorem least_at {t : List Int} (ht : 0 < t.length) : rotN t ((rots t).idxOf (minB LI (rots t))) = minB LI (rots t) := by
  have h := List.idxOf_lt_length_of_mem (minB_mem (lt := LI) (rots_ne ht))
  have g : (rots t)[(rots t).idxOf (minB LI (rots t))] = minB LI (rots t) := List.getElem_idxOf h
  have g2 : (rots t)[(rots t).idxOf (minB LI (rots t))]? = some (minB LI (rots t)) := by rw [List.getElem?_eq_getElem h, g]
  generalize (rots t).idxOf (minB LI (rots t)) = n at *
  unfold rots at g2
  rw [List.getElem?_map] at g2
  rw [List.getElem?_range (by unfold rots at h; rwa [List.length_map, List.length_range] at h)] at g2
  exact Option.some.inj g2
/-- the first rotation is the least of all -/
theorem first_eq {t : List Int} (ht : 0 < t.length) : m_first_rotation t = minB LI (rots t) := by
  unfold m_first_rotation
  rw [rotated_eq ht, least_eq ht]
  have e : ((((rots t).idxOf (minB LI (rots t)) : Nat) : Int) % (t.length : Int)).toNat = (rots t).idxOf (minB LI (rots t)) := by
    rw [Int.emod_eq_of_lt (by omega) (by have := least_lt ht; omega), Int.toNat_natCast]
  rw [e]
  exact least_at ht
/-- runs without a state -/
theorem run_true {τ : Type} {step : Unit → τ → Except Bool Unit} {ys : List τ} (h : ∀ y ∈ ys, step () y = .ok ()) : (match runE step ys () with | .error r => r | .ok _ => true) = true := by
  rcases runE_unit (step := step) (ys := ys) with ⟨y, hy, r, h1, h2⟩ | ⟨h1, h2⟩
  · rw [h y hy] at h1; cases h1
  · rw [h2]
theorem run_iff {τ : Type} {step : Unit → τ → Except Bool Unit} {P : τ → Prop} {ys : List τ} (h1 : ∀ y ∈ ys, P y → step () y = .ok ()) (h2 : ∀ y ∈ ys, ¬ P y → step () y = .error false) : (match runE step ys () with | .error r => r | .ok _ => true) = true ↔ ∀ y ∈ ys, P y := by
  constructor
  · intro h y hy
    rcases runE_unit (step := step) (ys := ys) with ⟨z, hz, r, e1, e2⟩ | ⟨e1, e2⟩
    · rw [e2] at h
      by_cases w : P z
      · rw [h1 z hz w] at e1; cases e1
      · rw [h2 z hz w] at e1; cases e1; cases h
    · by_cases w : P y
      · exact w
      · have := e1 y hy
        rw [h2 y hy w] at this
        cases this
  · intro h
    exact run_true fun y hy => h1 y hy (h y hy)
theorem is_table_self {a : List Int} : m_law_is_table a a = true := by
  unfold m_law_is_table
  rw [if_neg (by simp)]
  refine run_true fun y hy => ?_
  unfold m_law_is_table_l0
  rw [if_neg (by simp)]
theorem alike_iff {a b : List Int} (n : Nat) : m_law_alike a b (n : Int) = true ↔ ∀ s, s < 150 → per a (s + n) = per b s := by
  unfold m_law_alike
  have e : ∀ s : Nat, m_law_slot a (((0 : Int) + (s : Int)) + (n : Int)) = per a (s + n) := fun s => by rw [show ((0 : Int) + (s : Int)) + (n : Int) = ((s + n : Nat) : Int) by omega, slot_eq]
  have e2 : ∀ s : Nat, m_law_slot b ((0 : Int) + (s : Int)) = per b s := fun s => by rw [Int.zero_add, slot_eq]
  refine Iff.trans (run_iff (P := fun s : Nat => per a (s + n) = per b s) ?_ ?_) ⟨fun h s hs => h s (List.mem_range.mpr hs), fun h s hs => h s (List.mem_range.mp hs)⟩
  · intro s _ h
    unfold m_law_alike_l0
    rw [e, e2, if_neg (fun q => q h)]
  · intro s _ h
    unfold m_law_alike_l0
    rw [e, e2, if_pos h]
def TabOk (t : List Int) : Prop := 0 < t.length ∧ t.length ≤ 24 ∧ ∃ d, 0 < d ∧ d ≤ 12 ∧ Pd (per t) d
theorem per_map {p : Nat} {f : Nat → Int} (h : 0 < p) (k : Nat) : per ((List.range p).map f) k = f (k % p) := by
  have hl : ((List.range p).map f).length = p := by rw [List.length_map, List.length_range]
  have := per_of (f := f) (L := p) (k := k % p) (Nat.mod_lt _ h)
  rw [← this]
  unfold per
  rw [hl, Nat.mod_mod]
theorem per_sh {t : List Int} {p : Nat} (h : 0 < p) (hp : Pd (per t) p) (k : Nat) : per ((List.range p).map (per t)) k = per t k := by rw [per_map h, hp.mod]
theorem take_eq {t : List Int} {p : Nat} (h : p ≤ t.length) : t.take p = (List.range p).map (per t) := by
  have hl : (t.take p).length = p := by rw [List.length_take]; omega
  refine ext_per (by rw [hl, List.length_map, List.length_range]) fun k hk => ?_
  rw [List.length_map, List.length_range] at hk
  rw [per_of hk, per_lt (show k < t.length by omega), per_lt (by rw [hl]; exact hk), List.getD_eq_getElem?_getD, List.getD_eq_getElem?_getD, List.getElem?_take_of_lt hk]
theorem per_take {t : List Int} {p : Nat} (h0 : 0 < p) (h : p ≤ t.length) (k : Nat) : per (t.take p) k = per t (k % p) := by rw [take_eq h, per_map h0]
theorem pd_take {t : List Int} {p : Nat} (h0 : 0 < p) (h : p ≤ t.length) : Pd (per (t.take p)) p := fun k => by rw [per_take h0 h, per_take h0 h, Nat.add_mod_right]
theorem law_shortest_true {t : List Int} (h : TabOk t) : m_law_shortest t = true := by
  obtain ⟨ht, h24, d, d0, d12, hd⟩ := h
  obtain ⟨p, p0, pl, pd, hs, hp, hmin⟩ := short_spec ht
  have p12 : p ≤ 12 := Nat.le_trans (Nat.le_of_dvd d0 (hmin d d0 hd)) d12
  have hl : (m_shortest t).length = p := by rw [hs, List.length_map, List.length_range]
  have ht2 : slcD t none (some ((m_shortest t).length : Int)) = m_shortest t := by rw [slc_take _ (by omega), Int.toNat_natCast, hl, take_eq pl, hs]
  unfold m_law_shortest
  rw [if_neg (by rw [hl]; simp; omega), ht2, if_neg]
  · refine run_true fun y hy => ?_
    have hy := List.mem_range.mp hy
    rw [hl] at hy
    unfold m_law_shortest_l0
    rw [if_neg]
    intro q
    rw [show slcD t none (some ((1 : Int) + (y : Int))) = t.take (y + 1) by rw [slc_take _ (by omega), show ((1 : Int) + (y : Int)).toNat = y + 1 by omega], show (0 : Int) = ((0 : Nat) : Int) from rfl, alike_iff] at q
    have key := agree (f := per (t.take (y + 1))) (g := per t) (p := y + 1) (q := p) (N := 150) (by omega) p0 (pd_take (by omega) (by omega)) hp (Nat.le_trans (Nat.mul_le_mul (show y + 1 ≤ 12 by omega) p12) (by decide)) (fun s hs => q s hs)
    have := hmin (y + 1) (by omega) (fun k => by rw [← key, ← key]; exact pd_take (by omega) (by omega) k)
    have := Nat.le_of_dvd (by omega) this
    omega
  · rw [is_table_self, show (0 : Int) = ((0 : Nat) : Int) from rfl, (alike_iff 0).mpr fun s _ => by rw [hs]; exact per_sh p0 hp s]
    simp
theorem law_least_true {t : List Int} (ht : 0 < t.length) : m_law_least_rotation t = true := by
  have hlt := least_lt ht
  have hat := least_at ht
  have hle := fun x hx => minB_le (xs := rots t) (x := x) hx
  have hfirst : ∀ y, y < (rots t).idxOf (minB LI (rots t)) → rotN t y ≠ minB LI (rots t) := fun y hy q => by
    have := List.not_of_lt_findIdx (p := fun x => x == minB LI (rots t)) (xs := rots t) hy
    have hy2 : y < (rots t).length := by unfold rots; rw [List.length_map, List.length_range]; omega
    have e : (rots t)[y] = rotN t y := by simp [rots]
    rw [e, q] at this
    simp at this
  have hsl : ∀ n : Nat, n ≤ t.length → (slcD t (some (n : Int)) none) ++ (slcD t none (some (n : Int))) = rotN t n := fun n hn => by
    rw [slc_take _ (by omega), slc_drop _ (by omega), Int.toNat_natCast]
    exact rot_eq hn
  unfold m_law_least_rotation
  rw [least_eq ht]
  generalize (rots t).idxOf (minB LI (rots t)) = n at *
  rw [if_neg (by simp; omega)]
  dsimp only
  rw [hsl n (by omega), hat]
  refine run_true fun y hy => ?_
  have hy := List.mem_range.mp hy
  have hy : y < t.length := by omega
  unfold m_law_least_rotation_l0
  dsimp only
  rw [show (0 : Int) + (y : Int) = (y : Int) by omega, hsl y (by omega), if_neg]
  rintro (q | ⟨q1, q2⟩)
  · have hm : rotN t y ∈ rots t := List.mem_map.mpr ⟨y, List.mem_range.mpr hy, rfl⟩
    exact absurd (q.symm.trans (hle _ hm)) (by decide)
  · exact hfirst y (by omega) q2
/-- agreement of tables -/
theorem all_of {a b : List Int} (ha : TabOk a) (hb : TabOk b) (n : Nat) : (∀ s, s < 150 → per a (s + n) = per b s) ↔ ∀ s, per a (s + n) = per b s := by
  obtain ⟨_, _, d, d0, d12, hd⟩ := ha
  obtain ⟨_, _, e, e0, e12, he⟩ := hb
  refine ⟨fun h => ?_, fun h s _ => h s⟩
  exact agree (f := fun s => per a (s + n)) (g := per b) (p := d) (q := e) (N := 150) d0 e0 (fun k => by show per a (k + d + n) = per a (k + n); rw [show k + d + n = (k + n) + d by omega, hd]) he (Nat.le_trans (Nat.mul_le_mul d12 e12) (by decide)) h
theorem same_short {a b : List Int} (ha : 0 < a.length) (hb : 0 < b.length) (h : ∀ s, per a s = per b s) : m_shortest a = m_shortest b := by
  obtain ⟨p, p0, _, _, hs, hp, hm⟩ := short_spec ha
  obtain ⟨q, q0, _, _, hs2, hq, hm2⟩ := short_spec hb
  have e : per a = per b := funext h
  rw [hs, hs2, e]
  rw [e] at hp hm
  have h1 := Nat.le_of_dvd q0 (hm q q0 hq)
  have h2 := Nat.le_of_dvd p0 (hm2 p p0 hp)
  rw [Nat.le_antisymm h1 h2]
theorem short_per {a : List Int} (ha : 0 < a.length) (k : Nat) : per (m_shortest a) k = per a k := by
  obtain ⟨p, p0, _, _, hs, hp, _⟩ := short_spec ha
  rw [hs, per_sh p0 hp]
theorem alike_true {a b : List Int} (ha : TabOk a) (hb : TabOk b) : m_are_alike a b = m_law_alike a b (0 : Int) := by
  rw [Bool.eq_iff_iff, show (0 : Int) = ((0 : Nat) : Int) from rfl, alike_iff, all_of ha hb]
  unfold m_are_alike
  rw [decide_eq_true_eq]
  constructor
  · intro h s
    show per a s = per b s
    rw [← short_per ha.1, ← short_per hb.1, h]
  · exact fun h => same_short ha.1 hb.1 h
theorem turned_true {a b : List Int} (ha : TabOk a) (hb : TabOk b) : m_are_rotations a b = decide (true ∈ ((List.range ((a.length : Int)).toNat).map (fun zc9 : Nat => (m_law_alike a b ((0 : Int) + (zc9 : Int)))))) := by
  rw [Bool.eq_iff_iff, decide_eq_true_eq]
  have hr : true ∈ ((List.range ((a.length : Int)).toNat).map (fun zc9 : Nat => (m_law_alike a b ((0 : Int) + (zc9 : Int))))) ↔ ∃ n, n < a.length ∧ ∀ s, per a (s + n) = per b s := by
    rw [Int.toNat_natCast, List.mem_map]
    constructor
    · rintro ⟨n, h1, h2⟩
      rw [Int.zero_add, alike_iff, all_of ha hb] at h2
      exact ⟨n, List.mem_range.mp h1, h2⟩
    · rintro ⟨n, h1, h2⟩
      refine ⟨n, List.mem_range.mpr h1, ?_⟩
      rw [Int.zero_add, alike_iff, all_of ha hb]
      exact h2
  rw [hr]
  unfold m_are_rotations
  rw [decide_eq_true_eq]
  obtain ⟨p, p0, pl, _, hs, hp, hm⟩ := short_spec ha.1
  obtain ⟨q, q0, _, _, hs2, hq, hm2⟩ := short_spec hb.1
  have l1 : (m_shortest a).length = p := by rw [hs, List.length_map, List.length_range]
  have l2 : (m_shortest b).length = q := by rw [hs2, List.length_map, List.length_range]
  have r1 : ∀ n, rotN (m_shortest a) n = (List.range p).map fun i => per a (i + n) := fun n => by
    unfold rotN
    rw [l1]
    exact List.map_congr_left fun i _ => short_per ha.1 _
  have r2 : ∀ n, rotN (m_shortest b) n = (List.range q).map fun i => per b (i + n) := fun n => by
    unfold rotN
    rw [l2]
    exact List.map_congr_left fun i _ => short_per hb.1 _
  rw [first_eq (by rw [l1]; exact p0), first_eq (by rw [l2]; exact q0)]
  have m1 : ∀ z, z ∈ rots (m_shortest a) ↔ ∃ n, n < p ∧ z = (List.range p).map fun i => per a (i + n) := fun z => by
    unfold rots
    rw [List.mem_map, l1]
    exact ⟨fun ⟨n, h1, h2⟩ => ⟨n, List.mem_range.mp h1, by rw [← h2, r1]⟩, fun ⟨n, h1, h2⟩ => ⟨n, List.mem_range.mpr h1, by rw [h2, r1]⟩⟩
  have m2 : ∀ z, z ∈ rots (m_shortest b) ↔ ∃ n, n < q ∧ z = (List.range q).map fun i => per b (i + n) := fun z => by
    unfold rots
    rw [List.mem_map, l2]
    exact ⟨fun ⟨n, h1, h2⟩ => ⟨n, List.mem_range.mp h1, by rw [← h2, r2]⟩, fun ⟨n, h1, h2⟩ => ⟨n, List.mem_range.mpr h1, by rw [h2, r2]⟩⟩
  have n1 := rots_ne (t := m_shortest a) (by rw [l1]; exact p0)
  have n2 := rots_ne (t := m_shortest b) (by rw [l2]; exact q0)
  constructor
  · intro h
    obtain ⟨u, hu, e1⟩ := (m1 _).mp (minB_mem (lt := LI) n1)
    obtain ⟨v, hv, e2⟩ := (m2 _).mp (minB_mem (lt := LI) n2)
    have e : (List.range p).map (fun i => per a (i + u)) = (List.range q).map fun i => per b (i + v) := by rw [← e1, ← e2]; exact h
    have pq : p = q := by have := congrArg List.length e; rwa [List.length_map, List.length_map, List.length_range, List.length_range] at this
    subst pq
    have key : ∀ i, per a (i + u) = per b (i + v) := fun i => by
      have h1 : per ((List.range p).map (fun i => per a (i + u))) i = per ((List.range p).map fun i => per b (i + v)) i := by rw [e]
      rw [per_map p0, per_map p0] at h1
      have f1 : Pd (fun i => per a (i + u)) p := fun k => by show per a (k + p + u) = per a (k + u); rw [show k + p + u = (k + u) + p by omega, hp]
      have f2 : Pd (fun i => per b (i + v)) p := fun k => by show per b (k + p + v) = per b (k + v); rw [show k + p + v = (k + v) + p by omega, hq]
      have g1 := f1.mod i
      have g2 := f2.mod i
      rw [← g1, ← g2]
      exact h1
    refine ⟨(p - v + u) % p, Nat.lt_of_lt_of_le (Nat.mod_lt _ p0) pl, fun s => ?_⟩
    have f1 : Pd (fun i => per a (s + i)) p := fun k => by show per a (s + (k + p)) = per a (s + k); rw [← Nat.add_assoc, hp]
    have g1 := f1.mod (p - v + u)
    rw [g1, show s + (p - v + u) = (s + (p - v)) + u by omega, key, show s + (p - v) + v = s + p by omega, hq]
  · rintro ⟨n, hn, h⟩
    have e : ∀ s, per b s = per a (s + n) := fun s => (h s).symm
    -- the periods are the same
    have t1 : ∀ k, Pd (per a) k → Pd (per b) k := fun k hk s => by rw [e, e, show s + k + n = (s + n) + k by omega, hk]
    have back : ∀ s, ∃ z, per a s = per b z ∧ (∀ k, per a (s + k) = per b (z + k)) := fun s => by
      -- n more slots than a whole number of periods
      refine ⟨s + (n * p - n), ?_, fun k => ?_⟩
      · rw [e, show s + (n * p - n) + n = s + n * p by have := Nat.le_mul_of_pos_right n p0; omega, hp.mul]
      · rw [e, show s + (n * p - n) + k + n = (s + k) + n * p by have := Nat.le_mul_of_pos_right n p0; omega, hp.mul]
    have t2 : ∀ k, Pd (per b) k → Pd (per a) k := fun k hk s => by
      obtain ⟨z, h1, h2⟩ := back s
      rw [h2, hk, h1]
    have pq : p = q := Nat.le_antisymm (Nat.le_of_dvd q0 (hm q q0 (t2 q hq))) (Nat.le_of_dvd p0 (hm2 p p0 (t1 p hp)))
    subst pq
    have md : ∀ x : Nat, ((List.range p).map fun i => per a (i + x % p)) = (List.range p).map fun i => per a (i + x) := fun x => List.map_congr_left fun i _ => by
      have f1 : Pd (fun j => per a (i + j)) p := fun k => by show per a (i + (k + p)) = per a (i + k); rw [← Nat.add_assoc, hp]
      exact f1.mod x
    refine minB_same n1 fun z => ?_
    rw [m1, m2]
    constructor
    · rintro ⟨u, hu, rfl⟩
      refine ⟨(u + (n * p - n)) % p, Nat.mod_lt _ p0, List.map_congr_left fun i _ => ?_⟩
      have f2 : Pd (fun j => per b (i + j)) p := fun k => by show per b (i + (k + p)) = per b (i + k); rw [← Nat.add_assoc, hq]
      have g2 := f2.mod (u + (n * p - n))
      rw [g2, e, show i + (u + (n * p - n)) + n = (i + u) + n * p by have := Nat.le_mul_of_pos_right n p0; omega, hp.mul]
    · rintro ⟨u, hu, rfl⟩
      refine ⟨(u + n) % p, Nat.mod_lt _ p0, ?_⟩
      rw [md]
      exact List.map_congr_left fun i _ => by rw [e, Nat.add_assoc]
theorem iter_lcm {a b : List Int} (h : 1 ≤ a.length ∧ a.length ≤ 12 ∧ 1 ≤ b.length ∧ b.length ≤ 24) : iterW (m_law_c0 a b) (m_law_w0 a b) 288 (1 : Int) = m_common_length a b := by
  rw [cl_eq]
  have hL := lcm_le (show 0 < a.length by omega) (show 0 < b.length by omega)
  have hL2 : a.length * b.length ≤ 12 * 24 := Nat.mul_le_mul h.2.1 h.2.2.2
  have d1 := Nat.dvd_lcm_left a.length b.length
  have d2 := Nat.dvd_lcm_right a.length b.length
  have hmin : ∀ z : Nat, a.length ∣ z → b.length ∣ z → Nat.lcm a.length b.length ∣ z := fun z => Nat.lcm_dvd
  generalize Nat.lcm a.length b.length = L at *
  have hc : ∀ z : Nat, m_law_c0 a b (z : Int) = (!decide (a.length ∣ z) || !decide (b.length ∣ z)) := fun z => by
    have e : ∀ n : Nat, ((z : Int) % (n : Int) = 0) ↔ n ∣ z := fun n => by
      rw [← Int.natCast_emod]
      exact ⟨fun q => Nat.dvd_of_mod_eq_zero (by exact_mod_cast q), fun q => by rw [Nat.mod_eq_zero_of_dvd q]; rfl⟩
    unfold m_law_c0
    rw [decide_eq_decide.mpr (e a.length), decide_eq_decide.mpr (e b.length)]
  have key : ∀ (n z : Nat), 1 ≤ z → z ≤ L → L - z ≤ n → iterW (m_law_c0 a b) (m_law_w0 a b) n (z : Int) = (L : Int) := by
    intro n
    induction n with
    | zero =>
      intro z h1 h2 h3
      have : z = L := by omega
      rw [this]; rfl
    | succ n ih =>
      intro z h1 h2 h3
      by_cases q : z = L
      · subst q
        exact iterW_stop (by rw [hc]; simp [d1, d2]) _
      · unfold iterW
        have ht : m_law_c0 a b (z : Int) = true := by
          rw [hc]
          by_cases e1 : a.length ∣ z
          · by_cases e2 : b.length ∣ z
            · have := Nat.le_of_dvd (by omega) (hmin z e1 e2)
              omega
            · simp [e2]
          · simp [e1]
        rw [if_pos ht]
        exact ih (z + 1) (by omega) (by omega) (by omega)
  exact key 288 1 (Nat.le_refl _) (by omega) (by omega)
theorem com_eq {a b : List Int} (h1 : 0 < a.length) (h2 : 0 < b.length) : m_common a b = ((List.range (m_common_length a b).toNat).map (per a), (List.range (m_common_length a b).toNat).map (per b)) := by
  have key : ∀ (t : List Int) (L : Nat), 0 < t.length → t.length ∣ L → m_repeated t ((L : Int) / (t.length : Int)) = (List.range L).map (per t) := fun t L h0 hd => by
    rw [repeated_eq h0, ← Int.natCast_ediv, Int.toNat_natCast, Nat.div_mul_cancel hd]
  show (m_repeated a (m_common_length a b / (a.length : Int)), m_repeated b (m_common_length a b / (b.length : Int))) = _
  rw [cl_eq, key a _ h1 (Nat.dvd_lcm_left _ _), key b _ h2 (Nat.dvd_lcm_right _ _), Int.toNat_natCast]
theorem joined_eq {a b : List Int} (h1 : 0 < a.length) (h2 : 0 < b.length) : m_joined a b = (List.range (m_common_length a b).toNat).map fun k => per a k + per b k := by
  unfold m_joined
  rw [com_eq h1 h2]
  dsimp only
  rw [List.zip_map', List.map_map]
  rfl
theorem reduced_eq {a b : List Int} (h1 : 0 < a.length) (h2 : 0 < b.length) : m_reduced a b = (List.range (m_common_length a b).toNat).map fun k => if per a k - per b k > (0 : Int) then per a k - per b k else (0 : Int) := by
  unfold m_reduced
  rw [com_eq h1 h2]
  dsimp only
  rw [List.zip_map', List.map_map]
  rfl
theorem both_eq (a b : List Int) (n : Nat) : ((List.range n).map (fun zc7 : Nat => ((m_law_slot a ((0 : Int) + (zc7 : Int))) + (m_law_slot b ((0 : Int) + (zc7 : Int)))))) = (List.range n).map fun k => per a k + per b k :=
  List.map_congr_left fun k _ => by rw [Int.zero_add, slot_eq, slot_eq]
theorem rest_eq (a b : List Int) (n : Nat) : ((List.range n).map (fun zc8 : Nat => (if ((m_law_slot a ((0 : Int) + (zc8 : Int))) - (m_law_slot b ((0 : Int) + (zc8 : Int)))) > (0 : Int) then ((m_law_slot a ((0 : Int) + (zc8 : Int))) - (m_law_slot b ((0 : Int) + (zc8 : Int)))) else (0 : Int)))) = (List.range n).map fun k => if per a k - per b k > (0 : Int) then per a k - per b k else (0 : Int) :=
  List.map_congr_left fun k _ => by rw [Int.zero_add, slot_eq, slot_eq]
theorem turn_eq {t : List Int} (ht : 0 < t.length) (b : Int) : m_rotated t b = (List.range ((t.length : Int)).toNat).map (fun zc6 : Nat => (m_law_slot t (b + ((0 : Int) + (zc6 : Int))))) := by
  rw [rotated_eq ht, Int.toNat_natCast]
  refine List.map_congr_left fun k _ => ?_
  have h0 : 0 ≤ b % (t.length : Int) := Int.emod_nonneg _ (by omega)
  obtain ⟨n, hn⟩ := Int.eq_ofNat_of_zero_le h0
  have e : m_law_slot t (b + ((0 : Int) + (k : Int))) = m_law_slot t ((k + n : Nat) : Int) := by
    unfold m_law_slot
    have : (b + ((0 : Int) + (k : Int))) % (t.length : Int) = ((k + n : Nat) : Int) % (t.length : Int) := by
      rw [Int.zero_add, ← Int.emod_add_emod, hn]
      congr 1
      omega
    rw [this]
  rw [e, slot_eq, hn, Int.toNat_natCast]
theorem pair_eq {a b : List Int} : m_common a b = (List.flatten (List.replicate ((m_common_length a b / (a.length : Int))).toNat a), List.flatten (List.replicate ((m_common_length a b / (b.length : Int))).toNat b)) := rfl
theorem new_true {one other : List Int} (h1 : 0 < one.length) (h2 : ∀ x ∈ one, 0 ≤ x) : m_law_new_lists one other = true := by
  have e1 : m_repeated one (1 : Int) = one := by show List.flatten (List.replicate 1 one) = one; simp
  have e2 : m_repeatedu one (2 : Int) = one ++ one := by show List.flatten (List.replicate 2 one) = one ++ one; simp [List.replicate]
  have e3 : m_rotatedu one (0 : Int) = one := by
    show m_rotated one (0 : Int) = one
    rw [rotated_eq h1, Int.zero_emod]
    exact map_per one
  have e4 : m_are_alikeu one one = true := decide_eq_true rfl
  have e5 : m_reducedu one [(0 : Int)] = one := by
    show m_reduced one [(0 : Int)] = one
    rw [reduced_eq h1 (by decide), cl_eq, show Nat.lcm one.length ([(0 : Int)] : List Int).length = one.length from Nat.lcm_one_right _, Int.toNat_natCast]
    have : ((List.range one.length).map fun k => if per one k - per [(0 : Int)] k > (0 : Int) then per one k - per [(0 : Int)] k else (0 : Int)) = (List.range one.length).map (per one) := by
      refine List.map_congr_left fun k hk => ?_
      have z : per [(0 : Int)] k = 0 := by unfold per; rw [show k % ([(0 : Int)] : List Int).length = 0 from Nat.mod_one k]; rfl
      have hk := List.mem_range.mp hk
      have nn : 0 ≤ per one k := by
        rw [per_lt hk, List.getD_eq_getElem?_getD, List.getElem?_eq_getElem hk]
        exact h2 _ (List.getElem_mem hk)
      rw [z]
      split <;> omega
    rw [this, map_per]
  unfold m_law_new_lists
  rw [e1, e2, e3, e4, e5, is_table_self, is_table_self]
  simp
theorem tab_ok (numbers : List Int) (hb : ∀ x ∈ numbers, 0 ≤ x ∧ x ≤ 1008) : TabOk (m_law_tables numbers).1 ∧ TabOk (m_law_tables numbers).2 ∧ ∀ x ∈ (m_law_tables numbers).1, 0 ≤ x := by
  have a := tab_one numbers
  have b := tabB_len numbers _ a.1 a.2
  refine ⟨⟨by omega, by omega, _, by omega, a.2, pd_self _⟩, ?_, ?_⟩
  · rw [tab_two]
    refine ⟨by omega, b.2, ?_⟩
    revert b
    generalize (m_law_tables numbers).1 = one at *
    intro b
    have m0 := Int.emod_nonneg (numbers.getD ((21 : Int)).toNat default) (show (one.length : Int) ≠ 0 by omega)
    have m1 := Int.emod_lt_of_pos (numbers.getD ((21 : Int)).toNat default) (show 0 < (one.length : Int) by omega)
    have self : (tabB numbers one).length ≤ 12 → ∃ d, 0 < d ∧ d ≤ 12 ∧ Pd (per (tabB numbers one)) d := fun h => ⟨_, b.1, h, pd_self _⟩
    by_cases c3 : (numbers.getD ((20 : Int)).toNat default) % (6 : Int) = (3 : Int)
    · refine self ?_
      unfold tabB
      dsimp only
      rw [if_pos c3]
      exact Nat.le_trans slc_len a.2
    · by_cases c1 : (numbers.getD ((20 : Int)).toNat default) % (6 : Int) = (1 : Int) ∨ (numbers.getD ((20 : Int)).toNat default) % (6 : Int) = (2 : Int)
      · have e : tabB numbers one = List.flatten (List.replicate (((1 : Int) + ((numbers.getD ((22 : Int)).toNat default) % (2 : Int)))).toNat (rotN one ((numbers.getD ((21 : Int)).toNat default) % (one.length : Int)).toNat)) := by
          unfold tabB
          dsimp only
          rw [if_neg c3, if_pos c1, slc_take _ m0, slc_drop _ m0, rot_eq (by omega)]
          rfl
        have hr : (rotN one ((numbers.getD ((21 : Int)).toNat default) % (one.length : Int)).toNat).length = one.length := by unfold rotN; rw [List.length_map, List.length_range]
        have k0 : 1 ≤ (((1 : Int) + ((numbers.getD ((22 : Int)).toNat default) % (2 : Int)))).toNat := by omega
        rw [e]
        generalize rotN one ((numbers.getD ((21 : Int)).toNat default) % (one.length : Int)).toNat = r at *
        generalize (((1 : Int) + ((numbers.getD ((22 : Int)).toNat default) % (2 : Int)))).toNat = m at *
        have hp : 0 < m * r.length := Nat.mul_pos k0 (by omega)
        refine ⟨r.length, by omega, by omega, fun k => ?_⟩
        have f1 : Pd (per r) (m * r.length) := fun k => (pd_self r).mul m k
        rw [frep_per r (by omega), per_map hp, per_map hp, f1.mod, f1.mod, pd_self]
      · refine self ?_
        unfold tabB
        dsimp only
        rw [if_neg c3, if_neg c1, List.length_map, List.length_range]
        omega
  · have g : ∀ i, 0 ≤ numbers.getD i default := fun i => (getD_bound hb i).1
    intro x hx
    unfold m_law_tables at hx
    dsimp only at hx
    split at hx
    · obtain ⟨k, _, rfl⟩ := List.mem_map.mp hx
      have := g ((2 : Int)).toNat
      split <;> omega
    · split at hx
      · obtain ⟨k, _, rfl⟩ := List.mem_map.mp hx
        have := g (((1 : Int) + ((0 : Int) + (k : Int)))).toNat
        omega
      · obtain ⟨k, _, rfl⟩ := List.mem_map.mp hx
        exact Int.emod_nonneg _ (by decide)
theorem law_true (ns : List Int) (hl : ns.length ≤ 63) : m_law ns = true := by
  have hnf := numbers_facts ns (26 : Int) (by decide)
  unfold m_law
  dsimp only
  generalize m_law_numbers ns (26 : Int) = numbers at *
  have htf := tab_facts numbers hnf.1
  obtain ⟨oa, ob, nn⟩ := tab_ok numbers hnf.2
  generalize (m_law_tables numbers).1 = a at *
  generalize (m_law_tables numbers).2 = b at *
  rw [iter_lcm htf, joined_eq oa.1 ob.1, reduced_eq oa.1 ob.1, both_eq, rest_eq, turn_eq oa.1, alike_true oa ob, turned_true oa ob, law_shortest_true oa, law_shortest_true ob, law_least_true oa.1, law_least_true ob.1, new_true oa.1 nn]
  rw [show m_repeated a ((1 : Int) + ((numbers.getD ((23 : Int)).toNat default) % (4 : Int))) = (List.flatten (List.replicate (((1 : Int) + ((numbers.getD ((23 : Int)).toNat default) % (4 : Int)))).toNat a)) from rfl, pair_eq]
  simp only [is_table_self]
  simp
end
section
theorem all_mk {l : PySem.W.OpenLaw} {w : World} {K : Frag} {h : Heap} {mg : Mg} {fa : Addr} (X : K.In h) (G : h.Ns mainGlobals mg) (hfa : mg "law" = some (.ref fa))
    (z_abs : PySem.W.nsIn K mainGlobals "abs" = some none)
    (z_bool : PySem.W.nsIn K mainGlobals "bool" = some none)
    (z_int : PySem.W.nsIn K mainGlobals "int" = some none)
    (z_isinstance : PySem.W.nsIn K mainGlobals "isinstance" = some none)
    (z_len : PySem.W.nsIn K mainGlobals "len" = some none)
    (z_list : PySem.W.nsIn K mainGlobals "list" = some none)
    (z_max : PySem.W.nsIn K mainGlobals "max" = some none)
    (z_min : PySem.W.nsIn K mainGlobals "min" = some none)
    (z_range : PySem.W.nsIn K mainGlobals "range" = some none)
    (z_tuple : PySem.W.nsIn K mainGlobals "tuple" = some none)
    (z_zip : PySem.W.nsIn K mainGlobals "zip" = some none)
    (z_lcm : PySem.W.nsIn K mainGlobals "lcm" = some (some (.builtin "math.lcm")))
    {f_law_row : Addr} {od_law_row an_law_row : Option Addr} {sl_law_row : Array (Option Value)} {oc_law_row dc_law_row pm_law_row cd_law_row ct_law_row : Value} {kV_law_row : Value}
    (g_law_row : PySem.W.nsIn K mainGlobals "_law_row" = some (some (.ref f_law_row)))
    (l_law_row : K.lookup f_law_row = some ⟨oc_law_row, od_law_row, .func (PySem.W.fnOf "_law_row" "_law_row" (defArgs s_law_row) (defBody s_law_row) (defScope s_law_row) .none kV_law_row dc_law_row pm_law_row an_law_row cd_law_row ct_law_row), sl_law_row⟩)
    (c_law_row : PySem.W.codeIn K cd_law_row "_law_row" = true) (k_law_row : PySem.W.keepIn K (.ref f_law_row) = true)
    {f_law_numbers : Addr} {od_law_numbers an_law_numbers : Option Addr} {sl_law_numbers : Array (Option Value)} {oc_law_numbers dc_law_numbers pm_law_numbers cd_law_numbers ct_law_numbers : Value} {kV_law_numbers : Value}
    (g_law_numbers : PySem.W.nsIn K mainGlobals "_law_numbers" = some (some (.ref f_law_numbers)))
    (l_law_numbers : K.lookup f_law_numbers = some ⟨oc_law_numbers, od_law_numbers, .func (PySem.W.fnOf "_law_numbers" "_law_numbers" (defArgs s_law_numbers) (defBody s_law_numbers) (defScope s_law_numbers) .none kV_law_numbers dc_law_numbers pm_law_numbers an_law_numbers cd_law_numbers ct_law_numbers), sl_law_numbers⟩)
    (c_law_numbers : PySem.W.codeIn K cd_law_numbers "_law_numbers" = true) (k_law_numbers : PySem.W.keepIn K (.ref f_law_numbers) = true)
    {f_repeated : Addr} {od_repeated an_repeated : Option Addr} {sl_repeated : Array (Option Value)} {oc_repeated dc_repeated pm_repeated cd_repeated ct_repeated : Value} {kV_repeated : Value}
    (g_repeated : PySem.W.nsIn K mainGlobals "repeated" = some (some (.ref f_repeated)))
    (l_repeated : K.lookup f_repeated = some ⟨oc_repeated, od_repeated, .func (PySem.W.fnOf "repeated" "repeated" (defArgs s_repeated) (defBody s_repeated) (defScope s_repeated) .none kV_repeated dc_repeated pm_repeated an_repeated cd_repeated ct_repeated), sl_repeated⟩)
    (c_repeated : PySem.W.codeIn K cd_repeated "repeated" = true) (k_repeated : PySem.W.keepIn K (.ref f_repeated) = true)
    {f_rotated : Addr} {od_rotated an_rotated : Option Addr} {sl_rotated : Array (Option Value)} {oc_rotated dc_rotated pm_rotated cd_rotated ct_rotated : Value} {kV_rotated : Value}
    (g_rotated : PySem.W.nsIn K mainGlobals "rotated" = some (some (.ref f_rotated)))
    (l_rotated : K.lookup f_rotated = some ⟨oc_rotated, od_rotated, .func (PySem.W.fnOf "rotated" "rotated" (defArgs s_rotated) (defBody s_rotated) (defScope s_rotated) .none kV_rotated dc_rotated pm_rotated an_rotated cd_rotated ct_rotated), sl_rotated⟩)
    (c_rotated : PySem.W.codeIn K cd_rotated "rotated" = true) (k_rotated : PySem.W.keepIn K (.ref f_rotated) = true)
    {f_common_length : Addr} {od_common_length an_common_length : Option Addr} {sl_common_length : Array (Option Value)} {oc_common_length dc_common_length pm_common_length cd_common_length ct_common_length : Value} {kV_common_length : Value}
    (g_common_length : PySem.W.nsIn K mainGlobals "common_length" = some (some (.ref f_common_length)))
    (l_common_length : K.lookup f_common_length = some ⟨oc_common_length, od_common_length, .func (PySem.W.fnOf "common_length" "common_length" (defArgs s_common_length) (defBody s_common_length) (defScope s_common_length) .none kV_common_length dc_common_length pm_common_length an_common_length cd_common_length ct_common_length), sl_common_length⟩)
    (c_common_length : PySem.W.codeIn K cd_common_length "common_length" = true) (k_common_length : PySem.W.keepIn K (.ref f_common_length) = true)
    {f_common : Addr} {od_common an_common : Option Addr} {sl_common : Array (Option Value)} {oc_common dc_common pm_common cd_common ct_common : Value} {kV_common : Value}
    (g_common : PySem.W.nsIn K mainGlobals "common" = some (some (.ref f_common)))
    (l_common : K.lookup f_common = some ⟨oc_common, od_common, .func (PySem.W.fnOf "common" "common" (defArgs s_common) (defBody s_common) (defScope s_common) .none kV_common dc_common pm_common an_common cd_common ct_common), sl_common⟩)
    (c_common : PySem.W.codeIn K cd_common "common" = true) (k_common : PySem.W.keepIn K (.ref f_common) = true)
    {f_reduced : Addr} {od_reduced an_reduced : Option Addr} {sl_reduced : Array (Option Value)} {oc_reduced dc_reduced pm_reduced cd_reduced ct_reduced : Value} {kV_reduced : Value}
    (g_reduced : PySem.W.nsIn K mainGlobals "reduced" = some (some (.ref f_reduced)))
    (l_reduced : K.lookup f_reduced = some ⟨oc_reduced, od_reduced, .func (PySem.W.fnOf "reduced" "reduced" (defArgs s_reduced) (defBody s_reduced) (defScope s_reduced) .none kV_reduced dc_reduced pm_reduced an_reduced cd_reduced ct_reduced), sl_reduced⟩)
    (c_reduced : PySem.W.codeIn K cd_reduced "reduced" = true) (k_reduced : PySem.W.keepIn K (.ref f_reduced) = true)
    {f_shortest : Addr} {od_shortest an_shortest : Option Addr} {sl_shortest : Array (Option Value)} {oc_shortest dc_shortest pm_shortest cd_shortest ct_shortest : Value} {kV_shortest : Value}
    (g_shortest : PySem.W.nsIn K mainGlobals "shortest" = some (some (.ref f_shortest)))
    (l_shortest : K.lookup f_shortest = some ⟨oc_shortest, od_shortest, .func (PySem.W.fnOf "shortest" "shortest" (defArgs s_shortest) (defBody s_shortest) (defScope s_shortest) .none kV_shortest dc_shortest pm_shortest an_shortest cd_shortest ct_shortest), sl_shortest⟩)
    (c_shortest : PySem.W.codeIn K cd_shortest "shortest" = true) (k_shortest : PySem.W.keepIn K (.ref f_shortest) = true)
    {f_repeatedu : Addr} {od_repeatedu an_repeatedu : Option Addr} {sl_repeatedu : Array (Option Value)} {oc_repeatedu dc_repeatedu pm_repeatedu cd_repeatedu ct_repeatedu : Value} {kV_repeatedu : Value}
    (g_repeatedu : PySem.W.nsIn K mainGlobals "repeated" = some (some (.ref f_repeatedu)))
    (l_repeatedu : K.lookup f_repeatedu = some ⟨oc_repeatedu, od_repeatedu, .func (PySem.W.fnOf "repeated" "repeated" (defArgs s_repeatedu) (defBody s_repeatedu) (defScope s_repeatedu) .none kV_repeatedu dc_repeatedu pm_repeatedu an_repeatedu cd_repeatedu ct_repeatedu), sl_repeatedu⟩)
    (c_repeatedu : PySem.W.codeIn K cd_repeatedu "repeated" = true) (k_repeatedu : PySem.W.keepIn K (.ref f_repeatedu) = true)
    {f_rotatedu : Addr} {od_rotatedu an_rotatedu : Option Addr} {sl_rotatedu : Array (Option Value)} {oc_rotatedu dc_rotatedu pm_rotatedu cd_rotatedu ct_rotatedu : Value} {kV_rotatedu : Value}
    (g_rotatedu : PySem.W.nsIn K mainGlobals "rotated" = some (some (.ref f_rotatedu)))
    (l_rotatedu : K.lookup f_rotatedu = some ⟨oc_rotatedu, od_rotatedu, .func (PySem.W.fnOf "rotated" "rotated" (defArgs s_rotatedu) (defBody s_rotatedu) (defScope s_rotatedu) .none kV_rotatedu dc_rotatedu pm_rotatedu an_rotatedu cd_rotatedu ct_rotatedu), sl_rotatedu⟩)
    (c_rotatedu : PySem.W.codeIn K cd_rotatedu "rotated" = true) (k_rotatedu : PySem.W.keepIn K (.ref f_rotatedu) = true)
    {f_common_lengthu : Addr} {od_common_lengthu an_common_lengthu : Option Addr} {sl_common_lengthu : Array (Option Value)} {oc_common_lengthu dc_common_lengthu pm_common_lengthu cd_common_lengthu ct_common_lengthu : Value} {kV_common_lengthu : Value}
    (g_common_lengthu : PySem.W.nsIn K mainGlobals "common_length" = some (some (.ref f_common_lengthu)))
    (l_common_lengthu : K.lookup f_common_lengthu = some ⟨oc_common_lengthu, od_common_lengthu, .func (PySem.W.fnOf "common_length" "common_length" (defArgs s_common_lengthu) (defBody s_common_lengthu) (defScope s_common_lengthu) .none kV_common_lengthu dc_common_lengthu pm_common_lengthu an_common_lengthu cd_common_lengthu ct_common_lengthu), sl_common_lengthu⟩)
    (c_common_lengthu : PySem.W.codeIn K cd_common_lengthu "common_length" = true) (k_common_lengthu : PySem.W.keepIn K (.ref f_common_lengthu) = true)
    {f_commonu : Addr} {od_commonu an_commonu : Option Addr} {sl_commonu : Array (Option Value)} {oc_commonu dc_commonu pm_commonu cd_commonu ct_commonu : Value} {kV_commonu : Value}
    (g_commonu : PySem.W.nsIn K mainGlobals "common" = some (some (.ref f_commonu)))
    (l_commonu : K.lookup f_commonu = some ⟨oc_commonu, od_commonu, .func (PySem.W.fnOf "common" "common" (defArgs s_commonu) (defBody s_commonu) (defScope s_commonu) .none kV_commonu dc_commonu pm_commonu an_commonu cd_commonu ct_commonu), sl_commonu⟩)
    (c_commonu : PySem.W.codeIn K cd_commonu "common" = true) (k_commonu : PySem.W.keepIn K (.ref f_commonu) = true)
    {f_reducedu : Addr} {od_reducedu an_reducedu : Option Addr} {sl_reducedu : Array (Option Value)} {oc_reducedu dc_reducedu pm_reducedu cd_reducedu ct_reducedu : Value} {kV_reducedu : Value}
    (g_reducedu : PySem.W.nsIn K mainGlobals "reduced" = some (some (.ref f_reducedu)))
    (l_reducedu : K.lookup f_reducedu = some ⟨oc_reducedu, od_reducedu, .func (PySem.W.fnOf "reduced" "reduced" (defArgs s_reducedu) (defBody s_reducedu) (defScope s_reducedu) .none kV_reducedu dc_reducedu pm_reducedu an_reducedu cd_reducedu ct_reducedu), sl_reducedu⟩)
    (c_reducedu : PySem.W.codeIn K cd_reducedu "reduced" = true) (k_reducedu : PySem.W.keepIn K (.ref f_reducedu) = true)
    {f_shortestu : Addr} {od_shortestu an_shortestu : Option Addr} {sl_shortestu : Array (Option Value)} {oc_shortestu dc_shortestu pm_shortestu cd_shortestu ct_shortestu : Value} {kV_shortestu : Value}
    (g_shortestu : PySem.W.nsIn K mainGlobals "shortest" = some (some (.ref f_shortestu)))
    (l_shortestu : K.lookup f_shortestu = some ⟨oc_shortestu, od_shortestu, .func (PySem.W.fnOf "shortest" "shortest" (defArgs s_shortestu) (defBody s_shortestu) (defScope s_shortestu) .none kV_shortestu dc_shortestu pm_shortestu an_shortestu cd_shortestu ct_shortestu), sl_shortestu⟩)
    (c_shortestu : PySem.W.codeIn K cd_shortestu "shortest" = true) (k_shortestu : PySem.W.keepIn K (.ref f_shortestu) = true)
    {f_joined : Addr} {od_joined an_joined : Option Addr} {sl_joined : Array (Option Value)} {oc_joined dc_joined pm_joined cd_joined ct_joined : Value} {kV_joined : Value}
    (g_joined : PySem.W.nsIn K mainGlobals "joined" = some (some (.ref f_joined)))
    (l_joined : K.lookup f_joined = some ⟨oc_joined, od_joined, .func (PySem.W.fnOf "joined" "joined" (defArgs s_joined) (defBody s_joined) (defScope s_joined) .none kV_joined dc_joined pm_joined an_joined cd_joined ct_joined), sl_joined⟩)
    (c_joined : PySem.W.codeIn K cd_joined "joined" = true) (k_joined : PySem.W.keepIn K (.ref f_joined) = true)
    {f_repeatedn : Addr} {od_repeatedn an_repeatedn : Option Addr} {sl_repeatedn : Array (Option Value)} {oc_repeatedn dc_repeatedn pm_repeatedn cd_repeatedn ct_repeatedn : Value} {kV_repeatedn : Value}
    (g_repeatedn : PySem.W.nsIn K mainGlobals "repeated" = some (some (.ref f_repeatedn)))
    (l_repeatedn : K.lookup f_repeatedn = some ⟨oc_repeatedn, od_repeatedn, .func (PySem.W.fnOf "repeated" "repeated" (defArgs s_repeatedn) (defBody s_repeatedn) (defScope s_repeatedn) .none kV_repeatedn dc_repeatedn pm_repeatedn an_repeatedn cd_repeatedn ct_repeatedn), sl_repeatedn⟩)
    (c_repeatedn : PySem.W.codeIn K cd_repeatedn "repeated" = true) (k_repeatedn : PySem.W.keepIn K (.ref f_repeatedn) = true)
    {f_rotatedn : Addr} {od_rotatedn an_rotatedn : Option Addr} {sl_rotatedn : Array (Option Value)} {oc_rotatedn dc_rotatedn pm_rotatedn cd_rotatedn ct_rotatedn : Value} {kV_rotatedn : Value}
    (g_rotatedn : PySem.W.nsIn K mainGlobals "rotated" = some (some (.ref f_rotatedn)))
    (l_rotatedn : K.lookup f_rotatedn = some ⟨oc_rotatedn, od_rotatedn, .func (PySem.W.fnOf "rotated" "rotated" (defArgs s_rotatedn) (defBody s_rotatedn) (defScope s_rotatedn) .none kV_rotatedn dc_rotatedn pm_rotatedn an_rotatedn cd_rotatedn ct_rotatedn), sl_rotatedn⟩)
    (c_rotatedn : PySem.W.codeIn K cd_rotatedn "rotated" = true) (k_rotatedn : PySem.W.keepIn K (.ref f_rotatedn) = true)
    {f_shortestn : Addr} {od_shortestn an_shortestn : Option Addr} {sl_shortestn : Array (Option Value)} {oc_shortestn dc_shortestn pm_shortestn cd_shortestn ct_shortestn : Value} {kV_shortestn : Value}
    (g_shortestn : PySem.W.nsIn K mainGlobals "shortest" = some (some (.ref f_shortestn)))
    (l_shortestn : K.lookup f_shortestn = some ⟨oc_shortestn, od_shortestn, .func (PySem.W.fnOf "shortest" "shortest" (defArgs s_shortestn) (defBody s_shortestn) (defScope s_shortestn) .none kV_shortestn dc_shortestn pm_shortestn an_shortestn cd_shortestn ct_shortestn), sl_shortestn⟩)
    (c_shortestn : PySem.W.codeIn K cd_shortestn "shortest" = true) (k_shortestn : PySem.W.keepIn K (.ref f_shortestn) = true)
    {f_joinedn : Addr} {od_joinedn an_joinedn : Option Addr} {sl_joinedn : Array (Option Value)} {oc_joinedn dc_joinedn pm_joinedn cd_joinedn ct_joinedn : Value} {kV_joinedn : Value}
    (g_joinedn : PySem.W.nsIn K mainGlobals "joined" = some (some (.ref f_joinedn)))
    (l_joinedn : K.lookup f_joinedn = some ⟨oc_joinedn, od_joinedn, .func (PySem.W.fnOf "joined" "joined" (defArgs s_joinedn) (defBody s_joinedn) (defScope s_joinedn) .none kV_joinedn dc_joinedn pm_joinedn an_joinedn cd_joinedn ct_joinedn), sl_joinedn⟩)
    (c_joinedn : PySem.W.codeIn K cd_joinedn "joined" = true) (k_joinedn : PySem.W.keepIn K (.ref f_joinedn) = true)
    {f_are_alike : Addr} {od_are_alike an_are_alike : Option Addr} {sl_are_alike : Array (Option Value)} {oc_are_alike dc_are_alike pm_are_alike cd_are_alike ct_are_alike : Value} {kV_are_alike : Value}
    (g_are_alike : PySem.W.nsIn K mainGlobals "are_alike" = some (some (.ref f_are_alike)))
    (l_are_alike : K.lookup f_are_alike = some ⟨oc_are_alike, od_are_alike, .func (PySem.W.fnOf "are_alike" "are_alike" (defArgs s_are_alike) (defBody s_are_alike) (defScope s_are_alike) .none kV_are_alike dc_are_alike pm_are_alike an_are_alike cd_are_alike ct_are_alike), sl_are_alike⟩)
    (c_are_alike : PySem.W.codeIn K cd_are_alike "are_alike" = true) (k_are_alike : PySem.W.keepIn K (.ref f_are_alike) = true)
    {f_are_alikeu : Addr} {od_are_alikeu an_are_alikeu : Option Addr} {sl_are_alikeu : Array (Option Value)} {oc_are_alikeu dc_are_alikeu pm_are_alikeu cd_are_alikeu ct_are_alikeu : Value} {kV_are_alikeu : Value}
    (g_are_alikeu : PySem.W.nsIn K mainGlobals "are_alike" = some (some (.ref f_are_alikeu)))
    (l_are_alikeu : K.lookup f_are_alikeu = some ⟨oc_are_alikeu, od_are_alikeu, .func (PySem.W.fnOf "are_alike" "are_alike" (defArgs s_are_alikeu) (defBody s_are_alikeu) (defScope s_are_alikeu) .none kV_are_alikeu dc_are_alikeu pm_are_alikeu an_are_alikeu cd_are_alikeu ct_are_alikeu), sl_are_alikeu⟩)
    (c_are_alikeu : PySem.W.codeIn K cd_are_alikeu "are_alike" = true) (k_are_alikeu : PySem.W.keepIn K (.ref f_are_alikeu) = true)
    {f_least_rotation : Addr} {od_least_rotation an_least_rotation : Option Addr} {sl_least_rotation : Array (Option Value)} {oc_least_rotation dc_least_rotation pm_least_rotation cd_least_rotation ct_least_rotation : Value} {kV_least_rotation : Value}
    (g_least_rotation : PySem.W.nsIn K mainGlobals "least_rotation" = some (some (.ref f_least_rotation)))
    (l_least_rotation : K.lookup f_least_rotation = some ⟨oc_least_rotation, od_least_rotation, .func (PySem.W.fnOf "least_rotation" "least_rotation" (defArgs s_least_rotation) (defBody s_least_rotation) (defScope s_least_rotation) .none kV_least_rotation dc_least_rotation pm_least_rotation an_least_rotation cd_least_rotation ct_least_rotation), sl_least_rotation⟩)
    (c_least_rotation : PySem.W.codeIn K cd_least_rotation "least_rotation" = true) (k_least_rotation : PySem.W.keepIn K (.ref f_least_rotation) = true)
    {f_first_rotation : Addr} {od_first_rotation an_first_rotation : Option Addr} {sl_first_rotation : Array (Option Value)} {oc_first_rotation dc_first_rotation pm_first_rotation cd_first_rotation ct_first_rotation : Value} {kV_first_rotation : Value}
    (g_first_rotation : PySem.W.nsIn K mainGlobals "_first_rotation" = some (some (.ref f_first_rotation)))
    (l_first_rotation : K.lookup f_first_rotation = some ⟨oc_first_rotation, od_first_rotation, .func (PySem.W.fnOf "_first_rotation" "_first_rotation" (defArgs s_first_rotation) (defBody s_first_rotation) (defScope s_first_rotation) .none kV_first_rotation dc_first_rotation pm_first_rotation an_first_rotation cd_first_rotation ct_first_rotation), sl_first_rotation⟩)
    (c_first_rotation : PySem.W.codeIn K cd_first_rotation "_first_rotation" = true) (k_first_rotation : PySem.W.keepIn K (.ref f_first_rotation) = true)
    {f_are_rotations : Addr} {od_are_rotations an_are_rotations : Option Addr} {sl_are_rotations : Array (Option Value)} {oc_are_rotations dc_are_rotations pm_are_rotations cd_are_rotations ct_are_rotations : Value} {kV_are_rotations : Value}
    (g_are_rotations : PySem.W.nsIn K mainGlobals "are_rotations" = some (some (.ref f_are_rotations)))
    (l_are_rotations : K.lookup f_are_rotations = some ⟨oc_are_rotations, od_are_rotations, .func (PySem.W.fnOf "are_rotations" "are_rotations" (defArgs s_are_rotations) (defBody s_are_rotations) (defScope s_are_rotations) .none kV_are_rotations dc_are_rotations pm_are_rotations an_are_rotations cd_are_rotations ct_are_rotations), sl_are_rotations⟩)
    (c_are_rotations : PySem.W.codeIn K cd_are_rotations "are_rotations" = true) (k_are_rotations : PySem.W.keepIn K (.ref f_are_rotations) = true)
    {f_law_slot : Addr} {od_law_slot an_law_slot : Option Addr} {sl_law_slot : Array (Option Value)} {oc_law_slot dc_law_slot pm_law_slot cd_law_slot ct_law_slot : Value} {kV_law_slot : Value}
    (g_law_slot : PySem.W.nsIn K mainGlobals "_law_slot" = some (some (.ref f_law_slot)))
    (l_law_slot : K.lookup f_law_slot = some ⟨oc_law_slot, od_law_slot, .func (PySem.W.fnOf "_law_slot" "_law_slot" (defArgs s_law_slot) (defBody s_law_slot) (defScope s_law_slot) .none kV_law_slot dc_law_slot pm_law_slot an_law_slot cd_law_slot ct_law_slot), sl_law_slot⟩)
    (c_law_slot : PySem.W.codeIn K cd_law_slot "_law_slot" = true) (k_law_slot : PySem.W.keepIn K (.ref f_law_slot) = true)
    {f_law_is_table : Addr} {od_law_is_table an_law_is_table : Option Addr} {sl_law_is_table : Array (Option Value)} {oc_law_is_table dc_law_is_table pm_law_is_table cd_law_is_table ct_law_is_table : Value} {kV_law_is_table : Value}
    (g_law_is_table : PySem.W.nsIn K mainGlobals "_law_is_table" = some (some (.ref f_law_is_table)))
    (l_law_is_table : K.lookup f_law_is_table = some ⟨oc_law_is_table, od_law_is_table, .func (PySem.W.fnOf "_law_is_table" "_law_is_table" (defArgs s_law_is_table) (defBody s_law_is_table) (defScope s_law_is_table) .none kV_law_is_table dc_law_is_table pm_law_is_table an_law_is_table cd_law_is_table ct_law_is_table), sl_law_is_table⟩)
    (c_law_is_table : PySem.W.codeIn K cd_law_is_table "_law_is_table" = true) (k_law_is_table : PySem.W.keepIn K (.ref f_law_is_table) = true)
    {f_law_alike : Addr} {od_law_alike an_law_alike : Option Addr} {sl_law_alike : Array (Option Value)} {oc_law_alike dc_law_alike pm_law_alike cd_law_alike ct_law_alike : Value} {kV_law_alike : Value}
    (g_law_alike : PySem.W.nsIn K mainGlobals "_law_alike" = some (some (.ref f_law_alike)))
    (l_law_alike : K.lookup f_law_alike = some ⟨oc_law_alike, od_law_alike, .func (PySem.W.fnOf "_law_alike" "_law_alike" (defArgs s_law_alike) (defBody s_law_alike) (defScope s_law_alike) .none kV_law_alike dc_law_alike pm_law_alike an_law_alike cd_law_alike ct_law_alike), sl_law_alike⟩)
    (c_law_alike : PySem.W.codeIn K cd_law_alike "_law_alike" = true) (k_law_alike : PySem.W.keepIn K (.ref f_law_alike) = true)
    {f_law_tables : Addr} {od_law_tables an_law_tables : Option Addr} {sl_law_tables : Array (Option Value)} {oc_law_tables dc_law_tables pm_law_tables cd_law_tables ct_law_tables : Value} {kV_law_tables : Value}
    (g_law_tables : PySem.W.nsIn K mainGlobals "_law_tables" = some (some (.ref f_law_tables)))
    (l_law_tables : K.lookup f_law_tables = some ⟨oc_law_tables, od_law_tables, .func (PySem.W.fnOf "_law_tables" "_law_tables" (defArgs s_law_tables) (defBody s_law_tables) (defScope s_law_tables) .none kV_law_tables dc_law_tables pm_law_tables an_law_tables cd_law_tables ct_law_tables), sl_law_tables⟩)
    (c_law_tables : PySem.W.codeIn K cd_law_tables "_law_tables" = true) (k_law_tables : PySem.W.keepIn K (.ref f_law_tables) = true)
    {f_law_shortest : Addr} {od_law_shortest an_law_shortest : Option Addr} {sl_law_shortest : Array (Option Value)} {oc_law_shortest dc_law_shortest pm_law_shortest cd_law_shortest ct_law_shortest : Value} {kV_law_shortest : Value}
    (g_law_shortest : PySem.W.nsIn K mainGlobals "_law_shortest" = some (some (.ref f_law_shortest)))
    (l_law_shortest : K.lookup f_law_shortest = some ⟨oc_law_shortest, od_law_shortest, .func (PySem.W.fnOf "_law_shortest" "_law_shortest" (defArgs s_law_shortest) (defBody s_law_shortest) (defScope s_law_shortest) .none kV_law_shortest dc_law_shortest pm_law_shortest an_law_shortest cd_law_shortest ct_law_shortest), sl_law_shortest⟩)
    (c_law_shortest : PySem.W.codeIn K cd_law_shortest "_law_shortest" = true) (k_law_shortest : PySem.W.keepIn K (.ref f_law_shortest) = true)
    {f_law_least_rotation : Addr} {od_law_least_rotation an_law_least_rotation : Option Addr} {sl_law_least_rotation : Array (Option Value)} {oc_law_least_rotation dc_law_least_rotation pm_law_least_rotation cd_law_least_rotation ct_law_least_rotation : Value} {kV_law_least_rotation : Value}
    (g_law_least_rotation : PySem.W.nsIn K mainGlobals "_law_least_rotation" = some (some (.ref f_law_least_rotation)))
    (l_law_least_rotation : K.lookup f_law_least_rotation = some ⟨oc_law_least_rotation, od_law_least_rotation, .func (PySem.W.fnOf "_law_least_rotation" "_law_least_rotation" (defArgs s_law_least_rotation) (defBody s_law_least_rotation) (defScope s_law_least_rotation) .none kV_law_least_rotation dc_law_least_rotation pm_law_least_rotation an_law_least_rotation cd_law_least_rotation ct_law_least_rotation), sl_law_least_rotation⟩)
    (c_law_least_rotation : PySem.W.codeIn K cd_law_least_rotation "_law_least_rotation" = true) (k_law_least_rotation : PySem.W.keepIn K (.ref f_law_least_rotation) = true)
    {f_law_new_lists : Addr} {od_law_new_lists an_law_new_lists : Option Addr} {sl_law_new_lists : Array (Option Value)} {oc_law_new_lists dc_law_new_lists pm_law_new_lists cd_law_new_lists ct_law_new_lists : Value} {kV_law_new_lists : Value}
    (g_law_new_lists : PySem.W.nsIn K mainGlobals "_law_new_lists" = some (some (.ref f_law_new_lists)))
    (l_law_new_lists : K.lookup f_law_new_lists = some ⟨oc_law_new_lists, od_law_new_lists, .func (PySem.W.fnOf "_law_new_lists" "_law_new_lists" (defArgs s_law_new_lists) (defBody s_law_new_lists) (defScope s_law_new_lists) .none kV_law_new_lists dc_law_new_lists pm_law_new_lists an_law_new_lists cd_law_new_lists ct_law_new_lists), sl_law_new_lists⟩)
    (c_law_new_lists : PySem.W.codeIn K cd_law_new_lists "_law_new_lists" = true) (k_law_new_lists : PySem.W.keepIn K (.ref f_law_new_lists) = true)
    {f_law : Addr} {od_law an_law : Option Addr} {sl_law : Array (Option Value)} {oc_law dc_law pm_law cd_law ct_law : Value} {kV_law : Value}
    (g_law : PySem.W.nsIn K mainGlobals "law" = some (some (.ref f_law)))
    (l_law : K.lookup f_law = some ⟨oc_law, od_law, .func (PySem.W.fnOf "law" "law" (defArgs s_law) (defBody s_law) (defScope s_law) .none kV_law dc_law pm_law an_law cd_law ct_law), sl_law⟩)
    (c_law : PySem.W.codeIn K cd_law "law" = true) (k_law : PySem.W.keepIn K (.ref f_law) = true)
    : ∃ fd : FuncData, (∀ (s : Shared) (v : Value), BindsTo s fd ⟨[v], []⟩ [("script", v)]) ∧ ∀ base : Heap, K.In base → base.Ns mainGlobals mg → FnOk l.prog w K mg base CX0 5 fa fd ["script"] (spTrue K) := by
  have T : TX l.prog K mg := {
    n_abs := PySem.W.mg_none_of X G z_abs
    n_bool := PySem.W.mg_none_of X G z_bool
    n_int := PySem.W.mg_none_of X G z_int
    n_isinstance := PySem.W.mg_none_of X G z_isinstance
    n_len := PySem.W.mg_none_of X G z_len
    n_list := PySem.W.mg_none_of X G z_list
    n_max := PySem.W.mg_none_of X G z_max
    n_min := PySem.W.mg_none_of X G z_min
    n_range := PySem.W.mg_none_of X G z_range
    n_tuple := PySem.W.mg_none_of X G z_tuple
    n_zip := PySem.W.mg_none_of X G z_zip
    x_lcm := PySem.W.mg_of X G z_lcm
    a_law_row := f_law_row
    d_law_row := _
    F_law_row := fun_mk (st := s_law_row) l_law_row c_law_row k_law_row
    k_law_row := k_law_row
    m_law_row := PySem.W.mg_of X G g_law_row
    b_law_row := (fun_mk (st := s_law_row) l_law_row c_law_row k_law_row).binds (ps := ["cell", "many"]) fun _ _ _ _ _ _ us hl => match us, hl with | [_, _], _ => rfl
    a_law_numbers := f_law_numbers
    d_law_numbers := _
    F_law_numbers := fun_mk (st := s_law_numbers) l_law_numbers c_law_numbers k_law_numbers
    k_law_numbers := k_law_numbers
    m_law_numbers := PySem.W.mg_of X G g_law_numbers
    b_law_numbers := (fun_mk (st := s_law_numbers) l_law_numbers c_law_numbers k_law_numbers).binds (ps := ["script", "many"]) fun _ _ _ _ _ _ us hl => match us, hl with | [_, _], _ => rfl
    a_repeated := f_repeated
    d_repeated := _
    F_repeated := fun_mk (st := s_repeated) l_repeated c_repeated k_repeated
    k_repeated := k_repeated
    m_repeated := PySem.W.mg_of X G g_repeated
    b_repeated := (fun_mk (st := s_repeated) l_repeated c_repeated k_repeated).binds (ps := ["table", "times"]) fun _ _ _ _ _ _ us hl => match us, hl with | [_, _], _ => rfl
    a_rotated := f_rotated
    d_rotated := _
    F_rotated := fun_mk (st := s_rotated) l_rotated c_rotated k_rotated
    k_rotated := k_rotated
    m_rotated := PySem.W.mg_of X G g_rotated
    b_rotated := (fun_mk (st := s_rotated) l_rotated c_rotated k_rotated).binds (ps := ["table", "by"]) fun _ _ _ _ _ _ us hl => match us, hl with | [_, _], _ => rfl
    a_common_length := f_common_length
    d_common_length := _
    F_common_length := fun_mk (st := s_common_length) l_common_length c_common_length k_common_length
    k_common_length := k_common_length
    m_common_length := PySem.W.mg_of X G g_common_length
    b_common_length := (fun_mk (st := s_common_length) l_common_length c_common_length k_common_length).binds (ps := ["one", "other"]) fun _ _ _ _ _ _ us hl => match us, hl with | [_, _], _ => rfl
    a_common := f_common
    d_common := _
    F_common := fun_mk (st := s_common) l_common c_common k_common
    k_common := k_common
    m_common := PySem.W.mg_of X G g_common
    b_common := (fun_mk (st := s_common) l_common c_common k_common).binds (ps := ["one", "other"]) fun _ _ _ _ _ _ us hl => match us, hl with | [_, _], _ => rfl
    a_reduced := f_reduced
    d_reduced := _
    F_reduced := fun_mk (st := s_reduced) l_reduced c_reduced k_reduced
    k_reduced := k_reduced
    m_reduced := PySem.W.mg_of X G g_reduced
    b_reduced := (fun_mk (st := s_reduced) l_reduced c_reduced k_reduced).binds (ps := ["one", "other"]) fun _ _ _ _ _ _ us hl => match us, hl with | [_, _], _ => rfl
    a_shortest := f_shortest
    d_shortest := _
    F_shortest := fun_mk (st := s_shortest) l_shortest c_shortest k_shortest
    k_shortest := k_shortest
    m_shortest := PySem.W.mg_of X G g_shortest
    b_shortest := (fun_mk (st := s_shortest) l_shortest c_shortest k_shortest).binds (ps := ["table"]) fun _ _ _ _ _ _ us hl => match us, hl with | [_], _ => rfl
    a_repeatedu := f_repeatedu
    d_repeatedu := _
    F_repeatedu := fun_mk (st := s_repeatedu) l_repeatedu c_repeatedu k_repeatedu
    k_repeatedu := k_repeatedu
    m_repeatedu := PySem.W.mg_of X G g_repeatedu
    b_repeatedu := (fun_mk (st := s_repeatedu) l_repeatedu c_repeatedu k_repeatedu).binds (ps := ["table", "times"]) fun _ _ _ _ _ _ us hl => match us, hl with | [_, _], _ => rfl
    a_rotatedu := f_rotatedu
    d_rotatedu := _
    F_rotatedu := fun_mk (st := s_rotatedu) l_rotatedu c_rotatedu k_rotatedu
    k_rotatedu := k_rotatedu
    m_rotatedu := PySem.W.mg_of X G g_rotatedu
    b_rotatedu := (fun_mk (st := s_rotatedu) l_rotatedu c_rotatedu k_rotatedu).binds (ps := ["table", "by"]) fun _ _ _ _ _ _ us hl => match us, hl with | [_, _], _ => rfl
    a_common_lengthu := f_common_lengthu
    d_common_lengthu := _
    F_common_lengthu := fun_mk (st := s_common_lengthu) l_common_lengthu c_common_lengthu k_common_lengthu
    k_common_lengthu := k_common_lengthu
    m_common_lengthu := PySem.W.mg_of X G g_common_lengthu
    b_common_lengthu := (fun_mk (st := s_common_lengthu) l_common_lengthu c_common_lengthu k_common_lengthu).binds (ps := ["one", "other"]) fun _ _ _ _ _ _ us hl => match us, hl with | [_, _], _ => rfl
    a_commonu := f_commonu
    d_commonu := _
    F_commonu := fun_mk (st := s_commonu) l_commonu c_commonu k_commonu
    k_commonu := k_commonu
    m_commonu := PySem.W.mg_of X G g_commonu
    b_commonu := (fun_mk (st := s_commonu) l_commonu c_commonu k_commonu).binds (ps := ["one", "other"]) fun _ _ _ _ _ _ us hl => match us, hl with | [_, _], _ => rfl
    a_reducedu := f_reducedu
    d_reducedu := _
    F_reducedu := fun_mk (st := s_reducedu) l_reducedu c_reducedu k_reducedu
    k_reducedu := k_reducedu
    m_reducedu := PySem.W.mg_of X G g_reducedu
    b_reducedu := (fun_mk (st := s_reducedu) l_reducedu c_reducedu k_reducedu).binds (ps := ["one", "other"]) fun _ _ _ _ _ _ us hl => match us, hl with | [_, _], _ => rfl
    a_shortestu := f_shortestu
    d_shortestu := _
    F_shortestu := fun_mk (st := s_shortestu) l_shortestu c_shortestu k_shortestu
    k_shortestu := k_shortestu
    m_shortestu := PySem.W.mg_of X G g_shortestu
    b_shortestu := (fun_mk (st := s_shortestu) l_shortestu c_shortestu k_shortestu).binds (ps := ["table"]) fun _ _ _ _ _ _ us hl => match us, hl with | [_], _ => rfl
    a_joined := f_joined
    d_joined := _
    F_joined := fun_mk (st := s_joined) l_joined c_joined k_joined
    k_joined := k_joined
    m_joined := PySem.W.mg_of X G g_joined
    b_joined := (fun_mk (st := s_joined) l_joined c_joined k_joined).binds (ps := ["one", "other"]) fun _ _ _ _ _ _ us hl => match us, hl with | [_, _], _ => rfl
    a_repeatedn := f_repeatedn
    d_repeatedn := _
    F_repeatedn := fun_mk (st := s_repeatedn) l_repeatedn c_repeatedn k_repeatedn
    k_repeatedn := k_repeatedn
    m_repeatedn := PySem.W.mg_of X G g_repeatedn
    b_repeatedn := (fun_mk (st := s_repeatedn) l_repeatedn c_repeatedn k_repeatedn).binds (ps := ["table", "times"]) fun _ _ _ _ _ _ us hl => match us, hl with | [_, _], _ => rfl
    a_rotatedn := f_rotatedn
    d_rotatedn := _
    F_rotatedn := fun_mk (st := s_rotatedn) l_rotatedn c_rotatedn k_rotatedn
    k_rotatedn := k_rotatedn
    m_rotatedn := PySem.W.mg_of X G g_rotatedn
    b_rotatedn := (fun_mk (st := s_rotatedn) l_rotatedn c_rotatedn k_rotatedn).binds (ps := ["table", "by"]) fun _ _ _ _ _ _ us hl => match us, hl with | [_, _], _ => rfl
    a_shortestn := f_shortestn
    d_shortestn := _
    F_shortestn := fun_mk (st := s_shortestn) l_shortestn c_shortestn k_shortestn
    k_shortestn := k_shortestn
    m_shortestn := PySem.W.mg_of X G g_shortestn
    b_shortestn := (fun_mk (st := s_shortestn) l_shortestn c_shortestn k_shortestn).binds (ps := ["table"]) fun _ _ _ _ _ _ us hl => match us, hl with | [_], _ => rfl
    a_joinedn := f_joinedn
    d_joinedn := _
    F_joinedn := fun_mk (st := s_joinedn) l_joinedn c_joinedn k_joinedn
    k_joinedn := k_joinedn
    m_joinedn := PySem.W.mg_of X G g_joinedn
    b_joinedn := (fun_mk (st := s_joinedn) l_joinedn c_joinedn k_joinedn).binds (ps := ["one", "other"]) fun _ _ _ _ _ _ us hl => match us, hl with | [_, _], _ => rfl
    a_are_alike := f_are_alike
    d_are_alike := _
    F_are_alike := fun_mk (st := s_are_alike) l_are_alike c_are_alike k_are_alike
    k_are_alike := k_are_alike
    m_are_alike := PySem.W.mg_of X G g_are_alike
    b_are_alike := (fun_mk (st := s_are_alike) l_are_alike c_are_alike k_are_alike).binds (ps := ["one", "other"]) fun _ _ _ _ _ _ us hl => match us, hl with | [_, _], _ => rfl
    a_are_alikeu := f_are_alikeu
    d_are_alikeu := _
    F_are_alikeu := fun_mk (st := s_are_alikeu) l_are_alikeu c_are_alikeu k_are_alikeu
    k_are_alikeu := k_are_alikeu
    m_are_alikeu := PySem.W.mg_of X G g_are_alikeu
    b_are_alikeu := (fun_mk (st := s_are_alikeu) l_are_alikeu c_are_alikeu k_are_alikeu).binds (ps := ["one", "other"]) fun _ _ _ _ _ _ us hl => match us, hl with | [_, _], _ => rfl
    a_least_rotation := f_least_rotation
    d_least_rotation := _
    F_least_rotation := fun_mk (st := s_least_rotation) l_least_rotation c_least_rotation k_least_rotation
    k_least_rotation := k_least_rotation
    m_least_rotation := PySem.W.mg_of X G g_least_rotation
    b_least_rotation := (fun_mk (st := s_least_rotation) l_least_rotation c_least_rotation k_least_rotation).binds (ps := ["table"]) fun _ _ _ _ _ _ us hl => match us, hl with | [_], _ => rfl
    a_first_rotation := f_first_rotation
    d_first_rotation := _
    F_first_rotation := fun_mk (st := s_first_rotation) l_first_rotation c_first_rotation k_first_rotation
    k_first_rotation := k_first_rotation
    m_first_rotation := PySem.W.mg_of X G g_first_rotation
    b_first_rotation := (fun_mk (st := s_first_rotation) l_first_rotation c_first_rotation k_first_rotation).binds (ps := ["table"]) fun _ _ _ _ _ _ us hl => match us, hl with | [_], _ => rfl
    a_are_rotations := f_are_rotations
    d_are_rotations := _
    F_are_rotations := fun_mk (st := s_are_rotations) l_are_rotations c_are_rotations k_are_rotations
    k_are_rotations := k_are_rotations
    m_are_rotations := PySem.W.mg_of X G g_are_rotations
    b_are_rotations := (fun_mk (st := s_are_rotations) l_are_rotations c_are_rotations k_are_rotations).binds (ps := ["one", "other"]) fun _ _ _ _ _ _ us hl => match us, hl with | [_, _], _ => rfl
    a_law_slot := f_law_slot
    d_law_slot := _
    F_law_slot := fun_mk (st := s_law_slot) l_law_slot c_law_slot k_law_slot
    k_law_slot := k_law_slot
    m_law_slot := PySem.W.mg_of X G g_law_slot
    b_law_slot := (fun_mk (st := s_law_slot) l_law_slot c_law_slot k_law_slot).binds (ps := ["table", "slot"]) fun _ _ _ _ _ _ us hl => match us, hl with | [_, _], _ => rfl
    a_law_is_table := f_law_is_table
    d_law_is_table := _
    F_law_is_table := fun_mk (st := s_law_is_table) l_law_is_table c_law_is_table k_law_is_table
    k_law_is_table := k_law_is_table
    m_law_is_table := PySem.W.mg_of X G g_law_is_table
    b_law_is_table := (fun_mk (st := s_law_is_table) l_law_is_table c_law_is_table k_law_is_table).binds (ps := ["actual", "due"]) fun _ _ _ _ _ _ us hl => match us, hl with | [_, _], _ => rfl
    a_law_alike := f_law_alike
    d_law_alike := _
    F_law_alike := fun_mk (st := s_law_alike) l_law_alike c_law_alike k_law_alike
    k_law_alike := k_law_alike
    m_law_alike := PySem.W.mg_of X G g_law_alike
    b_law_alike := (fun_mk (st := s_law_alike) l_law_alike c_law_alike k_law_alike).binds (ps := ["one", "other", "by"]) fun _ _ _ _ _ _ us hl => match us, hl with | [_, _, _], _ => rfl
    a_law_tables := f_law_tables
    d_law_tables := _
    F_law_tables := fun_mk (st := s_law_tables) l_law_tables c_law_tables k_law_tables
    k_law_tables := k_law_tables
    m_law_tables := PySem.W.mg_of X G g_law_tables
    b_law_tables := (fun_mk (st := s_law_tables) l_law_tables c_law_tables k_law_tables).binds (ps := ["numbers"]) fun _ _ _ _ _ _ us hl => match us, hl with | [_], _ => rfl
    a_law_shortest := f_law_shortest
    d_law_shortest := _
    F_law_shortest := fun_mk (st := s_law_shortest) l_law_shortest c_law_shortest k_law_shortest
    k_law_shortest := k_law_shortest
    m_law_shortest := PySem.W.mg_of X G g_law_shortest
    b_law_shortest := (fun_mk (st := s_law_shortest) l_law_shortest c_law_shortest k_law_shortest).binds (ps := ["table"]) fun _ _ _ _ _ _ us hl => match us, hl with | [_], _ => rfl
    a_law_least_rotation := f_law_least_rotation
    d_law_least_rotation := _
    F_law_least_rotation := fun_mk (st := s_law_least_rotation) l_law_least_rotation c_law_least_rotation k_law_least_rotation
    k_law_least_rotation := k_law_least_rotation
    m_law_least_rotation := PySem.W.mg_of X G g_law_least_rotation
    b_law_least_rotation := (fun_mk (st := s_law_least_rotation) l_law_least_rotation c_law_least_rotation k_law_least_rotation).binds (ps := ["table"]) fun _ _ _ _ _ _ us hl => match us, hl with | [_], _ => rfl
    a_law_new_lists := f_law_new_lists
    d_law_new_lists := _
    F_law_new_lists := fun_mk (st := s_law_new_lists) l_law_new_lists c_law_new_lists k_law_new_lists
    k_law_new_lists := k_law_new_lists
    m_law_new_lists := PySem.W.mg_of X G g_law_new_lists
    b_law_new_lists := (fun_mk (st := s_law_new_lists) l_law_new_lists c_law_new_lists k_law_new_lists).binds (ps := ["one", "other"]) fun _ _ _ _ _ _ us hl => match us, hl with | [_, _], _ => rfl
    a_law := f_law
    d_law := _
    F_law := fun_mk (st := s_law) l_law c_law k_law
    k_law := k_law
    m_law := PySem.W.mg_of X G g_law
    b_law := (fun_mk (st := s_law) l_law c_law k_law).binds (ps := ["script"]) fun _ _ _ _ _ _ us hl => match us, hl with | [_], _ => rfl
    e_law := fun s v => .of_eq rfl }
  have e : fa = T.a_law := Value.ref.inj (Option.some.inj (hfa.symm.trans T.m_law))
  subst e
  exact ⟨T.d_law, T.e_law, fun base _ _ => (ok_law (P := l.prog) (w := w) (base := base) T).imp fun vs H Q E h => spTrue_of law_true h⟩
theorem walk {l : PySem.W.OpenLaw} {q : Program} {loose : List Str} {XP : (Str → Option Value) → Heap → Prop} {YP : World → Heap → Prop} {d : DefRec} {K : Params → Frag} (hn : l.most = some 63) (hdf : d.params.defaults = [])
    (hY : ∀ (w : World) (h : Heap), YP w h → (K w.params).In h)
    (hF : ∀ (w : World) (mg : Mg) (fa : Addr) (h : Heap), (K w.params).In h → h.Ns mainGlobals mg → mg d.name = some (.ref fa) → ∃ fd : FuncData, (∀ (s : Shared) (u : Value), BindsTo s fd ⟨[u], []⟩ [("script", u)]) ∧
      ∀ base : Heap, (K w.params).In base → base.Ns mainGlobals mg → FnOk l.prog w (K w.params) mg base CX0 5 fa fd ["script"] (spTrue (K w.params))) : PySem.W.WalkO q loose XP YP l.row.toRowW d [] (fun f vs => PySem.call f vs) :=
  L2.walk_of (n := 63) (k := 5) (x := "script") (CX := fun _ => CX0) (sp := fun w => spTrue (K w.params)) hn (by decide) hdf ⟨rfl, by decide, by decide⟩ hY hF (fun _ _ a ns hl _ hS => ⟨a, ns, rfl, hS, hl, fun _ => rfl⟩) fun _ _ _ _ _ z => z
end
end My
theorem PySem.W.Fast.tw18145673489437947713 : True := True.intro
theorem PySem.W.Fast.tw13025778418511002194 : True := True.intro
theorem PySem.W.Fast.tw16385346019711717300 : True := True.intro
theorem PySem.W.Fast.tw13636912477478264296 : True := True.intro
theorem PySem.W.Fast.tw12116290183124698889 : True := True.intro
theorem PySem.W.Fast.tw2589931974077703713 : True := True.intro
theorem PySem.W.Fast.tw4269083876733207725 : True := True.intro
theorem PySem.W.Fast.tw10867271882546366920 : True := True.intro
theorem PySem.W.Fast.tw8126677931156652543 : True := True.intro
theorem PySem.W.Fast.tw2534675489624737721 : True := True.intro
theorem PySem.W.Fast.tw1953624260050739868 : True := True.intro
theorem PySem.W.Fast.tw14953512976099991393 : True := True.intro
theorem PySem.W.Fast.tw3734481774936476219 : True := True.intro
theorem PySem.W.Fast.tw8008677644986911331 : True := True.intro
theorem PySem.W.Fast.tw3900840722377997479 : True := True.intro
theorem PySem.W.Fast.tw2380964702210462065 : True := True.intro
theorem PySem.W.Fast.tw16858888959755065716 : True := True.intro
theorem PySem.W.Fast.tw5058943258637328322 : True := True.intro
theorem PySem.W.Fast.tw12684664284833911120 : True := True.intro
theorem PySem.W.Fast.tw15377733745943212345 : True := True.intro
theorem PySem.W.Fast.tw5891606121669507208 : True := True.intro
theorem PySem.W.Fast.tw11966451054962006467 : True := True.intro
theorem PySem.W.Fast.tw13171717594363427052 : True := True.intro
theorem PySem.W.Fast.tw15478187359644086600 : True := True.intro
theorem PySem.W.Fast.tw15939534501747833653 : True := True.intro
theorem PySem.W.Fast.tw10021307599476744690 : True := True.intro
theorem PySem.W.Fast.tw8135641549833842546 : True := True.intro
theorem PySem.W.Fast.tw6976217502522934380 : True := True.intro
theorem PySem.W.Fast.tw12614054056542777741 : True := True.intro
theorem PySem.W.Fast.tw7752602694971851598 : True := True.intro
theorem PySem.W.Fast.tw18251376667917317958 : True := True.intro
theorem PySem.W.Fast.tw1653553793581652529 : True := True.intro
theorem PySem.W.Fast.tw10738991226872735545 : True := True.intro
theorem PySem.W.Fast.tw1035078167741046737 : True := True.intro
theorem PySem.W.Fast.tw809642980359748048 : True := True.intro
theorem PySem.W.Fast.tw9080966326497292210 : True := True.intro
theorem PySem.W.Fast.tw14913858523800731003 : True := True.intro
theorem PySem.W.Fast.tw3984282784820410449 : True := True.intro
theorem PySem.W.Fast.tw15489825973433070869 : True := True.intro
theorem PySem.W.Fast.tw10180480689958274335 : True := True.intro
theorem PySem.W.Fast.tw4620212395430394495 : True := True.intro
theorem PySem.W.Fast.tw12829124299991787268 : True := True.intro
theorem PySem.W.Fast.tw12461603897814968961 : True := True.intro
theorem PySem.W.Fast.tw8527879148074772558 : True := True.intro
theorem PySem.W.Fast.tw6651681693779974356 : True := True.intro
theorem PySem.W.Fast.tw2604545065187423612 : True := True.intro
theorem PySem.W.Fast.tw3593344884331016293 : True := True.intro
theorem PySem.W.Fast.tw11925218131812439642 : True := True.intro
theorem PySem.W.Fast.tw4772095129312091626 : True := True.intro
theorem PySem.W.Fast.tw3884044733634591406 : True := True.intro
theorem PySem.W.Fast.tw16608358230500405281 : True := True.intro
theorem PySem.W.Fast.tw17452750293979590654 : True := True.intro
theorem PySem.W.Fast.tw15724721610976545606 : True := True.intro
theorem PySem.W.Fast.tw1210195754395369467 : True := True.intro
theorem PySem.W.Fast.tw5513071508015141564 : True := True.intro
theorem PySem.W.Fast.tw6009533399025833623 : True := True.intro
theorem PySem.W.Fast.tw5778138999153202361 : True := True.intro
theorem PySem.W.Fast.tw2688480880779330768 : True := True.intro
theorem PySem.W.Fast.tw1484304919573614348 : True := True.intro
theorem PySem.W.Fast.tw9297148823769439386 : True := True.intro
theorem PySem.W.Fast.tw2562665402609085626 : True := True.intro
theorem PySem.W.Fast.tw7911027724434055822 : True := True.intro
theorem PySem.W.Fast.tw15450895780017576441 : True := True.intro
theorem PySem.W.Fast.tw16750857069016519086 : True := True.intro
theorem PySem.W.Fast.tw5038652578159782123 : True := True.intro
theorem PySem.W.Fast.tw3521724621723013561 : True := True.intro
theorem PySem.W.Fast.tw8187893168510560467 : True := True.intro
theorem PySem.W.Fast.tw2834188231931631242 : True := True.intro
theorem PySem.W.Fast.tw1572708381102688234 : True := True.intro
theorem PySem.W.Fast.tw8674204123534432348 : True := True.intro
theorem PySem.W.Fast.tw7047386809209667688 : True := True.intro
theorem PySem.W.Fast.tw17210501072859956938 : True := True.intro
theorem PySem.W.Fast.tw989728797932633684 : True := True.intro
theorem PySem.W.Fast.tw3466277062742538856 : True := True.intro
theorem PySem.W.Fast.tw18414228358175633989 : True := True.intro
theorem PySem.W.Fast.tw6850673125920133235 : True := True.intro
theorem PySem.W.Fast.tw16847038907208741175 : True := True.intro
theorem PySem.W.Fast.tw16673896262369662521 : True := True.intro
theorem PySem.W.Fast.tw606942544270938023 : True := True.intro
theorem PySem.W.Fast.tw6678433823873100960 : True := True.intro
theorem PySem.W.Fast.tw1025399653863554493 : True := True.intro
theorem PySem.W.Fast.tw16050220756689430184 : True := True.intro
theorem PySem.W.Fast.tw8405575064334479524 : True := True.intro
theorem PySem.W.Fast.tw16727771409908060666 : True := True.intro
theorem PySem.W.Fast.tw5330351566090516438 : True := True.intro
theorem PySem.W.Fast.tw5750494912340098618 : True := True.intro
theorem PySem.W.Fast.tw14622060205590414155 : True := True.intro
theorem PySem.W.Fast.tw17483485075347188288 : True := True.intro
theorem PySem.W.Fast.tw2725427020956737500 : True := True.intro
theorem PySem.W.Fast.tw14004292254174005173 : True := True.intro
theorem PySem.W.Fast.tw18237495556832147818 : True := True.intro
theorem PySem.W.Fast.tw15528986839128378593 : True := True.intro
theorem PySem.W.Fast.tw13853980515330984704 : True := True.intro
theorem PySem.W.Fast.tw12984228152771608085 : True := True.intro
theorem PySem.W.Fast.tw8168043658809631007 : True := True.intro
theorem PySem.W.Fast.tw14245920244194154600 : True := True.intro
theorem PySem.W.Fast.tw17102391322585380281 : True := True.intro
theorem PySem.W.Fast.tw1844921908978293442 : True := True.intro
theorem PySem.W.Fast.tw12903309923810329194 : True := True.intro
theorem PySem.W.Fast.tw2036758308179831310 : True := True.intro
theorem PySem.W.Fast.tw4949074928379741773 : True := True.intro
theorem PySem.W.Fast.tw16098658523011575696 : True := True.intro
theorem PySem.W.Fast.tw8995808592994728168 : True := True.intro
theorem PySem.W.Fast.tw12115326453123435494 : True := True.intro
theorem PySem.W.Fast.tw9938681387410026010 : True := True.intro
theorem PySem.W.Fast.tw12155660761803954649 : True := True.intro
theorem PySem.W.Fast.tw8984616898074719775 : True := True.intro
theorem PySem.W.Fast.tw9913031982960659663 : True := True.intro
theorem PySem.W.Fast.tw2675682302129076897 : True := True.intro
theorem PySem.W.Fast.tw8166640711253119012 : True := True.intro
theorem PySem.W.Fast.tw5338215605267275264 : True := True.intro
theorem PySem.W.Fast.tw2512490299518215991 : True := True.intro
theorem PySem.W.Fast.tw4222445105012248741 : True := True.intro
theorem PySem.W.Fast.tw7200822004545406977 : True := True.intro
theorem PySem.W.Fast.tw14656032236566769436 : True := True.intro
theorem PySem.W.Fast.tw16143061438446759706 : True := True.intro
theorem PySem.W.Fast.tw11627486493566188516 : True := True.intro
theorem PySem.W.Fast.tw12328317746599908784 : True := True.intro
theorem PySem.W.Fast.tw257408788256459178 : True := True.intro
theorem PySem.W.Fast.tw4690694641832845776 : True := True.intro
theorem PySem.W.Fast.tw16556042056404156429 : True := True.intro
theorem PySem.W.Fast.tw13839829112065341621 : True := True.intro
theorem PySem.W.Fast.tw2238308278241085773 : True := True.intro
theorem PySem.W.Fast.tw6623334434384994552 : True := True.intro
theorem PySem.W.Fast.tw9961165332584161135 : True := True.intro
theorem PySem.W.Fast.tw8431112540895239999 : True := True.intro
theorem PySem.W.Fast.tw1910695784322213061 : True := True.intro
theorem PySem.W.Fast.tw2789960236662343020 : True := True.intro
theorem PySem.W.Fast.tw16589027161230598092 : True := True.intro
theorem PySem.W.Fast.tw7951150973224257529 : True := True.intro
theorem PySem.W.Fast.tw15583650494875937578 : True := True.intro
theorem PySem.W.Fast.tw9582530912208309819 : True := True.intro
theorem PySem.W.Fast.tw3168723400835089528 : True := True.intro
theorem PySem.W.Fast.tw14719956800094968235 : True := True.intro
theorem PySem.W.Fast.tw639663024684317244 : True := True.intro
theorem PySem.W.Fast.tw9859061815528231584 : True := True.intro
theorem PySem.W.Fast.tw13037791310699988421 : True := True.intro
theorem PySem.W.Fast.tw17119887865398965930 : True := True.intro
theorem PySem.W.Fast.tw15916319379426540745 : True := True.intro
theorem PySem.W.Fast.tw1697854617822402324 : True := True.intro
theorem PySem.W.Fast.tw8792372442880665264 : True := True.intro
theorem PySem.W.Fast.tw14227025377324691914 : True := True.intro
theorem PySem.W.Fast.tw15777289943571728887 : True := True.intro
theorem PySem.W.Fast.tw14496752010591845366 : True := True.intro
theorem PySem.W.Fast.tw4060373666399081645 : True := True.intro
theorem PySem.W.Fast.tw2248593978973492856 : True := True.intro
theorem PySem.W.Fast.tw12590655721179521490 : True := True.intro
theorem PySem.W.Fast.tw12429326966422746626 : True := True.intro
theorem PySem.W.Fast.tw3557973846247243099 : True := True.intro
theorem PySem.W.Fast.tw1629063477117888062 : True := True.intro
theorem PySem.W.Fast.tw4351293986187206826 : True := True.intro
theorem PySem.W.Fast.tw14574659798641422026 : True := True.intro
theorem PySem.W.Fast.tw8788677334293834601 : True := True.intro
theorem PySem.W.Fast.tw3471614628125364043 : True := True.intro
theorem PySem.W.Fast.tw11930246501498467677 : True := True.intro
theorem PySem.W.Fast.tw10162175746190887479 : True := True.intro
theorem PySem.W.Fast.tw6197122926441647812 : True := True.intro
theorem PySem.W.Fast.tw8340207329894135971 : True := True.intro
theorem PySem.W.Fast.tw16117252454019907878 : True := True.intro
theorem PySem.W.Fast.tw18020857468256631219 : True := True.intro
theorem PySem.W.Fast.tw17740731538458273405 : True := True.intro
theorem PySem.W.Fast.tw13342000845363888474 : True := True.intro
theorem PySem.W.Fast.tw13788604967727844655 : True := True.intro
theorem PySem.W.Fast.tw15771577515423914223 : True := True.intro
theorem PySem.W.Fast.tw17016560852364765154 : True := True.intro
theorem PySem.W.Fast.tw13573115917183419459 : True := True.intro
theorem PySem.W.Fast.tw13290446682838507749 : True := True.intro
theorem PySem.W.Fast.tw2373742020320808515 : True := True.intro
theorem PySem.W.Fast.tw15079636609331546677 : True := True.intro
theorem PySem.W.Fast.tw5497481626820898268 : True := True.intro
theorem PySem.W.Fast.tw6886492994917320969 : True := True.intro
theorem PySem.W.Fast.tw16080924725219959954 : True := True.intro
theorem PySem.W.Fast.tw16179433161642261382 : True := True.intro
theorem PySem.W.Fast.tw11219367152288647995 : True := True.intro
theorem PySem.W.Fast.tw13988041338946026007 : True := True.intro
theorem PySem.W.Fast.tw11827814026765383467 : True := True.intro
theorem PySem.W.Fast.tw2709190367217226273 : True := True.intro
theorem PySem.W.Fast.tw9795297059105578601 : True := True.intro
theorem PySem.W.Fast.tw5837627903424571372 : True := True.intro
theorem PySem.W.Fast.tw11904563915707711543 : True := True.intro
theorem PySem.W.Fast.tw13792592524136774477 : True := True.intro
theorem PySem.W.Fast.tw1725282426528750024 : True := True.intro
theorem PySem.W.Fast.tw13068425285689386052 : True := True.intro
theorem PySem.W.Fast.tw6482009699574719616 : True := True.intro
theorem PySem.W.Fast.tw14424547702295694940 : True := True.intro
theorem PySem.W.Fast.tw2034441992750748755 : True := True.intro
theorem PySem.W.Fast.tw11285374350299432794 : True := True.intro
theorem PySem.W.Fast.tw2193926437227649668 : True := True.intro
theorem PySem.W.Fast.tw16095666931066205692 : True := True.intro
theorem PySem.W.Fast.tw2726458255422496058 : True := True.intro
theorem PySem.W.Fast.tw10742000292052809393 : True := True.intro
theorem PySem.W.Fast.tw5990734795494481390 : True := True.intro
theorem PySem.W.Fast.tw583774765794212970 : True := True.intro
theorem PySem.W.Fast.tw17408403507836222214 : True := True.intro
theorem PySem.W.Fast.tw12140338969324661388 : True := True.intro
theorem PySem.W.Fast.tw12785236401892750072 : True := True.intro
theorem PySem.W.Fast.tw7939469729911681515 : True := True.intro
theorem PySem.W.Fast.tw1457658884295799544 : True := True.intro
theorem PySem.W.Fast.tw795824748966491599 : True := True.intro
theorem PySem.W.Fast.tw5719735629795807447 : True := True.intro
theorem PySem.W.Fast.tw97224969187341828 : True := True.intro
theorem PySem.W.Fast.tw12913605085573137645 : True := True.intro
theorem PySem.W.Fast.tw4342504910340097622 : True := True.intro
theorem PySem.W.Fast.tw3381467858537694353 : True := True.intro
theorem PySem.W.Fast.tw2471281934148452073 : True := True.intro
theorem PySem.W.Fast.tw10753131451705622996 : True := True.intro
theorem PySem.W.Fast.tw12464722163219621303 : True := True.intro
theorem PySem.W.Fast.tw5783980126625892189 : True := True.intro
theorem PySem.W.Fast.tw16802115446678766540 : True := True.intro
theorem PySem.W.Fast.tw681285924625895904 : True := True.intro
theorem PySem.W.Fast.tw16190769203477696393 : True := True.intro
theorem PySem.W.Fast.tw13644974722588995895 : True := True.intro
theorem PySem.W.Fast.tw11211373231113340548 : True := True.intro
theorem PySem.W.Fast.tw17631538726178087024 : True := True.intro
theorem PySem.W.Fast.tw4099579644253380431 : True := True.intro
theorem PySem.W.Fast.tw2000507124965316892 : True := True.intro
theorem PySem.W.Fast.tw7728291267633429467 : True := True.intro
theorem PySem.W.Fast.tw1977752336278683251 : True := True.intro
theorem PySem.W.Fast.tw13072962831018109163 : True := True.intro
theorem PySem.W.Fast.tw17412247739987093165 : True := True.intro
theorem PySem.W.Fast.tw1504745835340413100 : True := True.intro
theorem PySem.W.Fast.tw4511288240631831234 : True := True.intro
theorem PySem.W.Fast.tw12537907864708179070 : True := True.intro
theorem PySem.W.Fast.tw17887877359662298150 : True := True.intro
theorem PySem.W.Fast.tw8379198114415213793 : True := True.intro
theorem PySem.W.Fast.tw12703279704440981810 : True := True.intro
theorem PySem.W.Fast.tw10767236104316607454 : True := True.intro
theorem PySem.W.Fast.tw5902660948610255216 : True := True.intro
theorem PySem.W.Fast.tw12756088849449515014 : True := True.intro
theorem PySem.W.Fast.tw7645698127152322208 : True := True.intro
theorem PySem.W.Fast.tw16394491764981864713 : True := True.intro
theorem PySem.W.Fast.tw12973176480506305656 : True := True.intro
theorem PySem.W.Fast.tw4862668274757729409 : True := True.intro
theorem PySem.W.Fast.tw12281379182161890280 : True := True.intro
theorem PySem.W.Fast.tw6262533816770902961 : True := True.intro
theorem PySem.W.Fast.tw14623042766156629629 : True := True.intro
theorem PySem.W.Fast.tw9858116300774950973 : True := True.intro
theorem PySem.W.Fast.tw5983052213104143792 : True := True.intro
theorem PySem.W.Fast.tw15702770942994282833 : True := True.intro
theorem PySem.W.Fast.tw13532185508866985159 : True := True.intro
theorem PySem.W.Fast.tw9525399990516927876 : True := True.intro
theorem PySem.W.Fast.tw9607902950077877010 : True := True.intro
theorem PySem.W.Fast.tw15642837603442233332 : True := True.intro
theorem PySem.W.Fast.tw16514345211554779867 : True := True.intro
theorem PySem.W.Fast.tw1515919439995184977 : True := True.intro
theorem PySem.W.Fast.tw2491569695933219581 : True := True.intro
theorem PySem.W.Fast.tw12877058476001591052 : True := True.intro
theorem PySem.W.Fast.tw12973392589367045110 : True := True.intro
theorem PySem.W.Fast.tw232970979641817419 : True := True.intro
theorem PySem.W.Fast.tw8746637351746743605 : True := True.intro
theorem PySem.W.Fast.tw8143990202505037199 : True := True.intro
theorem PySem.W.Fast.tw6811558252633798460 : True := True.intro
theorem PySem.W.Fast.tw2737236803784959388 : True := True.intro
theorem PySem.W.Fast.tw13745658315914200578 : True := True.intro
theorem PySem.W.Fast.tw3989990145090005752 : True := True.intro
theorem PySem.W.Fast.tw12497678379214579201 : True := True.intro
theorem PySem.W.Fast.tw15091662448034041407 : True := True.intro
theorem PySem.W.Fast.tw14321951824881371891 : True := True.intro
theorem PySem.W.Fast.tw18391362004982976092 : True := True.intro
theorem PySem.W.Fast.tw13424193098943756951 : True := True.intro
theorem PySem.W.Fast.tw374084978300045569 : True := True.intro
theorem PySem.W.Fast.tw10136611140931384612 : True := True.intro
theorem PySem.W.Fast.tw4516884228973111373 : True := True.intro
theorem PySem.W.Fast.tw13789416862572760691 : True := True.intro
theorem PySem.W.Fast.tw13021928014361645594 : True := True.intro
theorem PySem.W.Fast.tw12643143751235732710 : True := True.intro
theorem PySem.W.Fast.tw17614824505365744511 : True := True.intro
theorem PySem.W.Fast.tw948538445182544827 : True := True.intro
theorem PySem.W.Fast.tw13284281468372358072 : True := True.intro
theorem PySem.W.Fast.tw5877223641909181460 : True := True.intro
theorem PySem.W.Fast.tw7698964762259899315 : True := True.intro
theorem PySem.W.Fast.tw16024961428584354413 : True := True.intro
theorem PySem.W.Fast.tw14177500493281581236 : True := True.intro
theorem PySem.W.Fast.tw11298504737224330913 : True := True.intro
theorem PySem.W.Fast.tw12983346133101634914 : True := True.intro
theorem PySem.W.Fast.tw2040113065039664793 : True := True.intro
theorem PySem.W.Fast.tw10318844754863042728 : True := True.intro
theorem PySem.W.Fast.tw401479532019234526 : True := True.intro
theorem PySem.W.Fast.tw6706191269386548902 : True := True.intro
theorem PySem.W.Fast.tw15215006473874988135 : True := True.intro
theorem PySem.W.Fast.tw14847204702561362011 : True := True.intro
theorem PySem.W.Fast.tw296027299749495517 : True := True.intro
theorem PySem.W.Fast.tw1000664838711110394 : True := True.intro
theorem PySem.W.Fast.tw17549332606808362014 : True := True.intro
theorem PySem.W.Fast.tw2381453755711310775 : True := True.intro
theorem PySem.W.Fast.tw11788174259862304174 : True := True.intro
theorem PySem.W.Fast.tw3703031523338687442 : True := True.intro
theorem PySem.W.Fast.tw7852665866138931882 : True := True.intro
theorem PySem.W.Fast.tw10582285301426729534 : True := True.intro
theorem PySem.W.Fast.tw15523474871948283270 : True := True.intro
theorem PySem.W.Fast.tw6084899647654474890 : True := True.intro
theorem PySem.W.Fast.tw16166002080278808844 : True := True.intro
theorem PySem.W.Fast.tw1902359564771714112 : True := True.intro
theorem PySem.W.Fast.tw5867815968877999947 : True := True.intro
theorem PySem.W.Fast.tw14348544078936528649 : True := True.intro
theorem PySem.W.Fast.tw14140242896046067167 : True := True.intro
theorem PySem.W.Fast.tw15210618541584374514 : True := True.intro
theorem PySem.W.Fast.tw4573292499630494046 : True := True.intro
theorem PySem.W.Fast.tw3888505906410505456 : True := True.intro
theorem PySem.W.Fast.tw6122701789918079771 : True := True.intro
theorem PySem.W.Fast.tw629319056335355931 : True := True.intro
theorem PySem.W.Fast.tw14641373124733584058 : True := True.intro
theorem PySem.W.Fast.tw9314610067746917623 : True := True.intro
theorem PySem.W.Fast.tw1675854849793811245 : True := True.intro
theorem PySem.W.Fast.tw6366814734353734395 : True := True.intro
theorem PySem.W.Fast.tw15065147562445510234 : True := True.intro
theorem PySem.W.Fast.tw2336280251435446432 : True := True.intro
theorem PySem.W.Fast.tw4274678148133352250 : True := True.intro
theorem PySem.W.Fast.tw13582940354847456720 : True := True.intro
theorem PySem.W.Fast.tw15550681325631406828 : True := True.intro
theorem PySem.W.Fast.tw4015785998855656157 : True := True.intro
theorem PySem.W.Fast.tw1885395071399933839 : True := True.intro
theorem PySem.W.Fast.tw5976377995106150691 : True := True.intro
theorem PySem.W.Fast.tw14362345347399308743 : True := True.intro
theorem PySem.W.Fast.tw13222391265982225808 : True := True.intro
theorem PySem.W.Fast.tw12184032333742188362 : True := True.intro
theorem PySem.W.Fast.tw4212038376920465453 : True := True.intro
theorem PySem.W.Fast.tw4318794312733864868 : True := True.intro
theorem PySem.W.Fast.tw5128544430384074138 : True := True.intro
theorem PySem.W.Fast.tw5811894553649256265 : True := True.intro
theorem PySem.W.Fast.tw9538802624051995342 : True := True.intro
theorem PySem.W.Fast.tw11570353169759518191 : True := True.intro
theorem PySem.W.Fast.tw14455001329595626575 : True := True.intro
theorem PySem.W.Fast.tw1027564108313439933 : True := True.intro
theorem PySem.W.Fast.tw5555555074818094031 : True := True.intro
theorem PySem.W.Fast.tw7811448314344590866 : True := True.intro
theorem PySem.W.Fast.tw128373341549085794 : True := True.intro
theorem PySem.W.Fast.tw6210994026624348107 : True := True.intro
theorem PySem.W.Fast.tw588984040190524121 : True := True.intro
theorem PySem.W.Fast.tw1614430856463608503 : True := True.intro
theorem PySem.W.Fast.tw2672534245904987038 : True := True.intro
theorem PySem.W.Fast.tw69231866731725812 : True := True.intro
theorem PySem.W.Fast.tw11760189333595663642 : True := True.intro
theorem PySem.W.Fast.tw8409984113384678253 : True := True.intro
theorem PySem.W.Fast.tw10499657475206624273 : True := True.intro
theorem PySem.W.Fast.tw10332402557316568268 : True := True.intro
theorem PySem.W.Fast.tw15863421700424942546 : True := True.intro
theorem PySem.W.Fast.tw9974411449774565540 : True := True.intro
theorem PySem.W.Fast.tw645424130665341121 : True := True.intro
theorem PySem.W.Fast.tw13288890612342402212 : True := True.intro
theorem PySem.W.Fast.tw9585844000228892848 : True := True.intro
theorem PySem.W.Fast.tw11093344343647644361 : True := True.intro
theorem PySem.W.Fast.tw3844124653153269500 : True := True.intro
theorem PySem.W.Fast.tw9944482504772935313 : True := True.intro
theorem PySem.W.Fast.tw2880580036397134256 : True := True.intro
theorem PySem.W.Fast.tw14151720112101371269 : True := True.intro
theorem PySem.W.Fast.tw1636496443231191982 : True := True.intro
theorem PySem.W.Fast.tw1298720418970358682 : True := True.intro
theorem PySem.W.Fast.tw17195749842233454454 : True := True.intro
theorem PySem.W.Fast.tw16938008445902121589 : True := True.intro
theorem PySem.W.Fast.tw8650331800247105775 : True := True.intro
theorem PySem.W.Fast.tw5625222707436634777 : True := True.intro
theorem PySem.W.Fast.tw18321078795299556727 : True := True.intro
theorem PySem.W.Fast.tw13183210328250569967 : True := True.intro
theorem PySem.W.Fast.tw11263470080763490351 : True := True.intro
theorem PySem.W.Fast.tw15059020719083102510 : True := True.intro
theorem PySem.W.Fast.tw3212603667775578754 : True := True.intro
theorem PySem.W.Fast.tw14297031143090551640 : True := True.intro
theorem PySem.W.Fast.tw1152312944835917333 : True := True.intro
theorem PySem.W.Fast.tw17492137855709333201 : True := True.intro
theorem PySem.W.Fast.tw8176367892391901228 : True := True.intro
theorem PySem.W.Fast.tw1065081312826835350 : True := True.intro
theorem PySem.W.Fast.tw18423302161605363673 : True := True.intro
theorem PySem.W.Fast.tw5896262136098252644 : True := True.intro
theorem PySem.W.Fast.tw12745721621961018152 : True := True.intro
theorem PySem.W.Fast.tw192708943807120496 : True := True.intro
theorem PySem.W.Fast.tw175676575715988758 : True := True.intro
theorem PySem.W.Fast.tw3598166828973566042 : True := True.intro
theorem PySem.W.Fast.tw17808814276679473754 : True := True.intro
theorem PySem.W.Fast.tw16628253468781527755 : True := True.intro
theorem PySem.W.Fast.tw14931319464183699771 : True := True.intro
theorem PySem.W.Fast.tw7290259751769665283 : True := True.intro
theorem PySem.W.Fast.tw14553107926794275363 : True := True.intro
theorem PySem.W.Fast.tw1837461493395100987 : True := True.intro
theorem PySem.W.Fast.tw8229941803324912418 : True := True.intro
theorem PySem.W.Fast.tw5700075118213436397 : True := True.intro
theorem PySem.W.Fast.tw5505156920109777332 : True := True.intro
theorem PySem.W.Fast.tw10957126927842001857 : True := True.intro
theorem PySem.W.Fast.tw7276515321725859322 : True := True.intro
theorem PySem.W.Fast.tw14272554934014240593 : True := True.intro
theorem PySem.W.Fast.tw15034144390305471590 : True := True.intro
theorem PySem.W.Fast.tw17858857422949494704 : True := True.intro
theorem PySem.W.Fast.tw17438825549487258419 : True := True.intro
theorem PySem.W.Fast.tw17532681864750936140 : True := True.intro
theorem PySem.W.Fast.tw7378249580427376044 : True := True.intro
theorem PySem.W.Fast.tw12224463639566715826 : True := True.intro
theorem PySem.W.Fast.tw3787255788484204819 : True := True.intro
theorem PySem.W.Fast.tw12933314617808768358 : True := True.intro
theorem PySem.W.Fast.tw14864110035618774853 : True := True.intro
theorem PySem.W.Fast.tw395996640439022103 : True := True.intro
theorem PySem.W.Fast.tw7926033489609420163 : True := True.intro
theorem PySem.W.Fast.tw14679641804977651770 : True := True.intro
theorem PySem.W.Fast.tw13965025893155541392 : True := True.intro
theorem PySem.W.Fast.tw9811378449146973196 : True := True.intro
theorem PySem.W.Fast.tw15505540067556751422 : True := True.intro
theorem PySem.W.Fast.tw12921147557622056532 : True := True.intro
theorem PySem.W.Fast.tw1077884512513166438 : True := True.intro
theorem PySem.W.Fast.tw10313533552619315990 : True := True.intro
theorem PySem.W.Fast.tw8511599843280958249 : True := True.intro
theorem PySem.W.Fast.tw5759099728756706226 : True := True.intro
theorem PySem.W.Fast.tw11121590019025673481 : True := True.intro
theorem PySem.W.Fast.tw4780084194914257634 : True := True.intro
theorem PySem.W.Fast.tw324307918251240175 : True := True.intro
theorem PySem.W.Fast.tw17429603246262191935 : True := True.intro
theorem PySem.W.Fast.tw8345208406396105493 : True := True.intro
theorem PySem.W.Fast.tw12707463921998068326 : True := True.intro
theorem PySem.W.Fast.tw13590518670868234814 : True := True.intro
theorem PySem.W.Fast.tw9082363566348845081 : True := True.intro
theorem PySem.W.Fast.tw2120494596962579863 : True := True.intro
theorem PySem.W.Fast.tw10198792623665190379 : True := True.intro
theorem PySem.W.Fast.tw2214672552897053406 : True := True.intro
theorem PySem.W.Fast.tw14324251025430084454 : True := True.intro
theorem PySem.W.Fast.tw8220653106321965071 : True := True.intro
theorem PySem.W.Fast.tw11549118533990135348 : True := True.intro
theorem PySem.W.Fast.tw11804020327790147072 : True := True.intro
theorem PySem.W.Fast.tw4198970498588825165 : True := True.intro
theorem PySem.W.Fast.tw5009073955029560868 : True := True.intro
theorem PySem.W.Fast.tw14486773663264765039 : True := True.intro
theorem PySem.W.Fast.tw9165713902868719492 : True := True.intro
theorem PySem.W.Fast.tw6974601815651253332 : True := True.intro
theorem PySem.W.Fast.tw1771985435308418907 : True := True.intro
theorem PySem.W.Fast.tw6059335033089556990 : True := True.intro
theorem PySem.W.Fast.tw15777518904837321565 : True := True.intro
theorem PySem.W.Fast.tw17982074818523083853 : True := True.intro
theorem PySem.W.Fast.tw13554687749015232998 : True := True.intro
theorem PySem.W.Fast.tw17293950036187846909 : True := True.intro
theorem PySem.W.Fast.tw1040603257532409590 : True := True.intro
theorem PySem.W.Fast.tw1597829874454880715 : True := True.intro
theorem PySem.W.Fast.tw11023081189426495493 : True := True.intro
theorem PySem.W.Fast.tw15672598972128565031 : True := True.intro
theorem PySem.W.Fast.tw13194694938164628093 : True := True.intro
theorem PySem.W.Fast.tw11443925851788244137 : True := True.intro
theorem PySem.W.Fast.tw13832220604927216365 : True := True.intro
theorem PySem.W.Fast.tw3605234525877510623 : True := True.intro
theorem PySem.W.Fast.tw11249676659118440987 : True := True.intro
theorem PySem.W.Fast.tw164536083803373455 : True := True.intro
theorem PySem.W.Fast.tw7414699942608861348 : True := True.intro
theorem PySem.W.Fast.tw4633339507263244031 : True := True.intro
theorem PySem.W.Fast.tw4115266241702632819 : True := True.intro
theorem PySem.W.Fast.tw5307181685680007219 : True := True.intro
theorem PySem.W.Fast.tw1819707251862196487 : True := True.intro
theorem PySem.W.Fast.tw1465627743565895463 : True := True.intro
theorem PySem.W.Fast.tw1108766493736761181 : True := True.intro
theorem PySem.W.Fast.tw16169015463282320209 : True := True.intro
theorem PySem.W.Fast.tw6822407686490675559 : True := True.intro
theorem PySem.W.Fast.tw1766695012206040752 : True := True.intro
theorem PySem.W.Fast.tw10061029993959734223 : True := True.intro
theorem PySem.W.Fast.tw6913978636425247719 : True := True.intro
theorem PySem.W.Fast.tw85830718326901377 : True := True.intro
theorem PySem.W.Fast.tw1033840589830126817 : True := True.intro
theorem PySem.W.Fast.tw66927798294692932 : True := True.intro
theorem PySem.W.Fast.tw13344265219263477974 : True := True.intro
theorem PySem.W.Fast.tw18153479937046762378 : True := True.intro
theorem PySem.W.Fast.tw2015954195211291597 : True := True.intro
theorem PySem.W.Fast.tw2709688412876440304 : True := True.intro
theorem PySem.W.Fast.tw11606166619367161573 : True := True.intro
theorem PySem.W.Fast.tw16574654054427052452 : True := True.intro
theorem PySem.W.Fast.tw10448591863363477493 : True := True.intro
theorem PySem.W.Fast.tw7802151075443739755 : True := True.intro
theorem PySem.W.Fast.tw2364662219541376881 : True := True.intro
theorem PySem.W.Fast.tw14219276223711305039 : True := True.intro
theorem PySem.W.Fast.tw17536191484727762406 : True := True.intro
theorem PySem.W.Fast.tw17207477800294153412 : True := True.intro
theorem PySem.W.Fast.tw2346982499663116276 : True := True.intro
theorem PySem.W.Fast.tw3518914745325446215 : True := True.intro
theorem PySem.W.Fast.tw6632117029827094502 : True := True.intro
theorem PySem.W.Fast.tw2525869415508422275 : True := True.intro
theorem PySem.W.Fast.tw7463366194820170610 : True := True.intro
theorem PySem.W.Fast.tw13210160569652899411 : True := True.intro
theorem PySem.W.Fast.tw54248380586702812 : True := True.intro
theorem PySem.W.Fast.tw3643333480528779812 : True := True.intro
theorem PySem.W.Fast.tw12486505066514500805 : True := True.intro
theorem PySem.W.Fast.tw10676550327961631991 : True := True.intro
theorem PySem.W.Fast.tw17040497571033155595 : True := True.intro
theorem PySem.W.Fast.tw12876328093986735622 : True := True.intro
theorem PySem.W.Fast.tw11893094400893775503 : True := True.intro
theorem PySem.W.Fast.tw1207164696030125971 : True := True.intro
theorem PySem.W.Fast.tw15521373354072898924 : True := True.intro
theorem PySem.W.Fast.tw8149999284542685949 : True := True.intro
theorem PySem.W.Fast.tw11472247951702595299 : True := True.intro
theorem PySem.W.Fast.tw1015450177479223813 : True := True.intro
theorem PySem.W.Fast.tw2000701001041566029 : True := True.intro
theorem PySem.W.Fast.tw4966209005308094041 : True := True.intro
theorem PySem.W.Fast.tw6542737351600875970 : True := True.intro
theorem PySem.W.Fast.tw10371344898515093155 : True := True.intro
theorem PySem.W.Fast.tw17399868304264153482 : True := True.intro
theorem PySem.W.Fast.tw16322359575294056941 : True := True.intro
theorem PySem.W.Fast.tw11194364086953518210 : True := True.intro
theorem PySem.W.Fast.tw10364959559546345702 : True := True.intro
theorem PySem.W.Fast.tw5099106046136942717 : True := True.intro
theorem PySem.W.Fast.tw3948483888439172525 : True := True.intro
theorem PySem.W.Fast.tw8733576771226686059 : True := True.intro
theorem PySem.W.Fast.tw11264801536093939798 : True := True.intro
theorem PySem.W.Fast.tw13196219401514856436 : True := True.intro
theorem PySem.W.Fast.tw10458777346466992452 : True := True.intro
theorem PySem.W.Fast.tw14796321051238560307 : True := True.intro
theorem PySem.W.Fast.tw9575213964514682798 : True := True.intro
theorem PySem.W.Fast.tw1013182047148902901 : True := True.intro
theorem PySem.W.Fast.tw11315472497292156426 : True := True.intro
theorem PySem.W.Fast.tw14082172396340871204 : True := True.intro
theorem PySem.W.Fast.tw13479892869840139533 : True := True.intro
theorem PySem.W.Fast.tw16606250874306868731 : True := True.intro
theorem PySem.W.Fast.tw5760064673640273513 : True := True.intro
theorem PySem.W.Fast.tw3459349744582024605 : True := True.intro
theorem PySem.W.Fast.tw9469436449103756304 : True := True.intro
theorem PySem.W.Fast.tw3797704437699601230 : True := True.intro
theorem PySem.W.Fast.tw7533186238521952810 : True := True.intro
theorem PySem.W.Fast.tw11912682820750810590 : True := True.intro
theorem PySem.W.Fast.tw1359681626757883861 : True := True.intro
theorem PySem.W.Fast.tw259058143201271008 : True := True.intro
theorem PySem.W.Fast.tw9944100720011554058 : True := True.intro
theorem PySem.W.Fast.tw13993697995465573527 : True := True.intro
theorem PySem.W.Fast.tw14903180021226969206 : True := True.intro
theorem PySem.W.Fast.tw17299704405180295477 : True := True.intro
theorem PySem.W.Fast.tw12413121348791396944 : True := True.intro
theorem PySem.W.Fast.tw6175612323346741582 : True := True.intro
theorem PySem.W.Fast.tw15314473215510294245 : True := True.intro
theorem PySem.W.Fast.tw17141269029357755125 : True := True.intro
theorem PySem.W.Fast.tw18036167685704339353 : True := True.intro
theorem PySem.W.Fast.tw11805674395156956344 : True := True.intro
theorem PySem.W.Fast.tw9774214770402987231 : True := True.intro
theorem PySem.W.Fast.tw1372477968319538826 : True := True.intro
theorem PySem.W.Fast.tw16411297497578367080 : True := True.intro
theorem PySem.W.Fast.tw16926956791707485174 : True := True.intro
theorem PySem.W.Fast.tw17967289722981704274 : True := True.intro
theorem PySem.W.Fast.tw7101771438280098302 : True := True.intro
theorem PySem.W.Fast.tw316750543308639629 : True := True.intro
theorem PySem.W.Fast.tw1516790175817766420 : True := True.intro
theorem PySem.W.Fast.tw11205149736697869700 : True := True.intro
theorem PySem.W.Fast.tw8331265148763398153 : True := True.intro
theorem PySem.W.Fast.tw3820329785183863374 : True := True.intro
theorem PySem.W.Fast.tw5068699527474508431 : True := True.intro
theorem PySem.W.Fast.tw5738557966323243506 : True := True.intro
theorem PySem.W.Fast.tw12341299062642636311 : True := True.intro
theorem PySem.W.Fast.tw9983399833405455387 : True := True.intro
theorem PySem.W.Fast.tw11999530685348527679 : True := True.intro
theorem PySem.W.Fast.tw10525532011919765411 : True := True.intro
theorem PySem.W.Fast.tw16547939020943246008 : True := True.intro
theorem PySem.W.Fast.tw7103107441803688117 : True := True.intro
theorem PySem.W.Fast.tw12210293381634879357 : True := True.intro
theorem PySem.W.Fast.tw4317191976119301747 : True := True.intro
theorem PySem.W.Fast.tw4951533961632955940 : True := True.intro
theorem PySem.W.Fast.tw13764821799614784862 : True := True.intro
theorem PySem.W.Fast.tw4354609919236938701 : True := True.intro
theorem PySem.W.Fast.tw12904705840948949833 : True := True.intro
theorem PySem.W.Fast.tw3418967303836618222 : True := True.intro
theorem PySem.W.Fast.tw15999677629580551824 : True := True.intro
theorem PySem.W.Fast.tw2351478066306844103 : True := True.intro
theorem PySem.W.Fast.tw13206569915314025431 : True := True.intro
theorem PySem.W.Fast.tw7718607148214026638 : True := True.intro
theorem PySem.W.Fast.tw7952607624337351039 : True := True.intro
theorem PySem.W.Fast.tw9185718951961199172 : True := True.intro
theorem PySem.W.Fast.tw2834278156387835665 : True := True.intro
theorem PySem.W.Fast.tw4160843238724778020 : True := True.intro
theorem PySem.W.Fast.tw996252313949023581 : True := True.intro
theorem PySem.W.Fast.tw13177879892484175193 : True := True.intro
theorem PySem.W.Fast.tw13673325719181017228 : True := True.intro
theorem PySem.W.Fast.tw10828592075475769183 : True := True.intro
theorem PySem.W.Fast.tw18070106072384690852 : True := True.intro
theorem PySem.W.Fast.tw16584808000677201451 : True := True.intro
theorem PySem.W.Fast.tw16242235500582583716 : True := True.intro
theorem PySem.W.Fast.tw7022427174783631965 : True := True.intro
theorem PySem.W.Fast.tw1850945503363195326 : True := True.intro
theorem PySem.W.Fast.tw11322621854425295544 : True := True.intro
theorem PySem.W.Fast.tw10591470935200614162 : True := True.intro
theorem PySem.W.Fast.tw10360035686002163205 : True := True.intro
theorem PySem.W.Fast.tw5626139987374101586 : True := True.intro
theorem PySem.W.Fast.tw18410245348690510199 : True := True.intro
theorem PySem.W.Fast.tw16683223860621517188 : True := True.intro
theorem PySem.W.Fast.tw4939979295262338524 : True := True.intro
theorem PySem.W.Fast.tw5526188269828530344 : True := True.intro
theorem PySem.W.Fast.tw7891523514573194 : True := True.intro
theorem PySem.W.Fast.tw17110002014903351810 : True := True.intro
theorem PySem.W.Fast.tw11682986083178619547 : True := True.intro
theorem PySem.W.Fast.tw14414297462460195065 : True := True.intro
theorem PySem.W.Fast.tw12664608357702790665 : True := True.intro
theorem PySem.W.Fast.tw10117007174176980911 : True := True.intro
theorem PySem.W.Fast.tw3228687176978198665 : True := True.intro
theorem PySem.W.Fast.tw595921678722138589 : True := True.intro
theorem PySem.W.Fast.tw14994315864655193404 : True := True.intro
theorem PySem.W.Fast.tw17551553308010003205 : True := True.intro
theorem PySem.W.Fast.tw2335155531957006951 : True := True.intro
theorem PySem.W.Fast.tw14598410249110486373 : True := True.intro
theorem PySem.W.Fast.tw12834526243290255409 : True := True.intro
theorem PySem.W.Fast.tw18203143678239978090 : True := True.intro
theorem PySem.W.Fast.tw11552008667177218617 : True := True.intro
theorem PySem.W.Fast.tw5242584150607535797 : True := True.intro
theorem PySem.W.Fast.tw16152948849230593047 : True := True.intro
theorem PySem.W.Fast.tw13728685370827321258 : True := True.intro
theorem PySem.W.Fast.tw17556545967759230236 : True := True.intro
theorem PySem.W.Fast.tw7253136697132032750 : True := True.intro
theorem PySem.W.Fast.tw14426137789790685263 : True := True.intro
theorem PySem.W.Fast.tw4722761387180180597 : True := True.intro
theorem PySem.W.Fast.tw18171837801326457357 : True := True.intro
theorem PySem.W.Fast.tw11364832933875011931 : True := True.intro
theorem PySem.W.Fast.tw5870803752267829119 : True := True.intro
theorem PySem.W.Fast.tw15391612228890000284 : True := True.intro
theorem PySem.W.Fast.tw15681456943360106146 : True := True.intro
theorem PySem.W.Fast.tw8827598714960636135 : True := True.intro
theorem PySem.W.Fast.tw7427545800501162005 : True := True.intro
theorem PySem.W.Fast.tw3562462100084683305 : True := True.intro
theorem PySem.W.Fast.tw18256965229693645091 : True := True.intro
theorem PySem.W.Fast.tw12312616804615530896 : True := True.intro
theorem PySem.W.Fast.tw11149497351895663223 : True := True.intro
theorem PySem.W.Fast.tw1115236869587620982 : True := True.intro
theorem PySem.W.Fast.tw3786562965626341471 : True := True.intro
theorem PySem.W.Fast.tw11406744113638686789 : True := True.intro
theorem PySem.W.Fast.tw9846856960920590019 : True := True.intro
theorem PySem.W.Fast.tw10480576808283091471 : True := True.intro
theorem PySem.W.Fast.tw1013047290024465950 : True := True.intro
theorem PySem.W.Fast.tw11035633878235237264 : True := True.intro
theorem PySem.W.Fast.tw7822917468850908306 : True := True.intro
theorem PySem.W.Fast.tw4938417313901886422 : True := True.intro
theorem PySem.W.Fast.tw5236393347864113760 : True := True.intro
theorem PySem.W.Fast.tw14992539933304499272 : True := True.intro
theorem PySem.W.Fast.tw79661762902448382 : True := True.intro
theorem PySem.W.Fast.tw8964288179670166905 : True := True.intro
theorem PySem.W.Fast.tw11296323527221489728 : True := True.intro
theorem PySem.W.Fast.tw14604754059294494649 : True := True.intro
theorem PySem.W.Fast.tw11194490649567259704 : True := True.intro
theorem PySem.W.Fast.tw10480187317623329108 : True := True.intro
theorem PySem.W.Fast.tw7682512448271111490 : True := True.intro
theorem PySem.W.Fast.tw10277839223121314781 : True := True.intro
theorem PySem.W.Fast.tw14958834827481679878 : True := True.intro
theorem PySem.W.Fast.tw11027411845939534214 : True := True.intro
theorem PySem.W.Fast.tw986804228924460481 : True := True.intro
theorem PySem.W.Fast.tw7290077320278049023 : True := True.intro
theorem PySem.W.Fast.tw2393947521846867512 : True := True.intro
theorem PySem.W.Fast.tw5776014037271431210 : True := True.intro
theorem PySem.W.Fast.tw16807154492421290466 : True := True.intro
theorem PySem.W.Fast.tw1902587163450144397 : True := True.intro
theorem PySem.W.Fast.tw14650967298910546599 : True := True.intro
theorem PySem.W.Fast.tw5802397760661938901 : True := True.intro
theorem PySem.W.Fast.tw12793256333637500195 : True := True.intro
theorem PySem.W.Fast.tw17725968907562893328 : True := True.intro
theorem PySem.W.Fast.tw8555862240771455229 : True := True.intro
theorem PySem.W.Fast.tw18109336701501609318 : True := True.intro
theorem PySem.W.Fast.tw12458292054461907807 : True := True.intro
theorem PySem.W.Fast.tw3501562481876887893 : True := True.intro
theorem PySem.W.Fast.tw6724317881082128246 : True := True.intro
theorem PySem.W.Fast.tw18075890445122415125 : True := True.intro
theorem PySem.W.Fast.tw4363405368530810059 : True := True.intro
theorem PySem.W.Fast.tw10659341965099788522 : True := True.intro
theorem PySem.W.Fast.tw1755840382955920350 : True := True.intro
theorem PySem.W.Fast.tw1142000259993122775 : True := True.intro
theorem PySem.W.Fast.tw18085296562228104790 : True := True.intro
theorem PySem.W.Fast.tw894838244618483358 : True := True.intro
theorem PySem.W.Fast.tw9401462992806985787 : True := True.intro
theorem PySem.W.Fast.tw2600826198843918454 : True := True.intro
theorem PySem.W.Fast.tw3088415896443529153 : True := True.intro
theorem PySem.W.Fast.tw13501387106969018700 : True := True.intro
theorem PySem.W.Fast.tw5866672317520919776 : True := True.intro
theorem PySem.W.Fast.tw14626162389402448372 : True := True.intro
theorem PySem.W.Fast.tw8965515473245336983 : True := True.intro
theorem PySem.W.Fast.tw2064852731981000141 : True := True.intro
theorem PySem.W.Fast.tw18007910787942034314 : True := True.intro
theorem PySem.W.Fast.tw15301385599712537284 : True := True.intro
theorem PySem.W.Fast.tw16625512558000206094 : True := True.intro
theorem PySem.W.Fast.tw767848104279704999 : True := True.intro
theorem PySem.W.Fast.tw6546243957655222192 : True := True.intro
theorem PySem.W.Fast.tw608014699959080085 : True := True.intro
theorem PySem.W.Fast.tw2170686764030374649 : True := True.intro
theorem PySem.W.Fast.tw15297595359673822848 : True := True.intro
theorem PySem.W.Fast.tw13952831131943931400 : True := True.intro
theorem PySem.W.Fast.tw8143702083626472722 : True := True.intro
theorem PySem.W.Fast.tw14172357802349850594 : True := True.intro
theorem PySem.W.Fast.tw18222922225811440197 : True := True.intro
theorem PySem.W.Fast.tw15045257826341139312 : True := True.intro
theorem PySem.W.Fast.tw6168021381132307777 : True := True.intro
theorem PySem.W.Fast.tw8980582543941442197 : True := True.intro
theorem PySem.W.Fast.tw3999103041957480135 : True := True.intro
theorem PySem.W.Fast.tw17898902734044267364 : True := True.intro
theorem PySem.W.Fast.tw13926668053706201210 : True := True.intro
theorem PySem.W.Fast.tw13123828580661896251 : True := True.intro
theorem PySem.W.Fast.tw9171898173142571028 : True := True.intro
theorem PySem.W.Fast.tw15439111739063990679 : True := True.intro
theorem PySem.W.Fast.tw7498666825750695279 : True := True.intro
theorem PySem.W.Fast.tw1462611654179712467 : True := True.intro
theorem PySem.W.Fast.tw8252000348840351836 : True := True.intro
theorem PySem.W.Fast.tw1934295445776079695 : True := True.intro
theorem PySem.W.Fast.tw9920658560784283890 : True := True.intro
theorem PySem.W.Fast.tw2819894905565149792 : True := True.intro
theorem PySem.W.Fast.tw13558917935739365277 : True := True.intro
theorem PySem.W.Fast.tw8635505269293426777 : True := True.intro
theorem PySem.W.Fast.tw16109634867535672925 : True := True.intro
theorem PySem.W.Fast.tw6784766954941889205 : True := True.intro
theorem PySem.W.Fast.tw17424206925035973932 : True := True.intro
theorem PySem.W.Fast.tw15956563325012903671 : True := True.intro
theorem PySem.W.Fast.tw4669320510687730021 : True := True.intro
theorem PySem.W.Fast.tw15128119084808036637 : True := True.intro
theorem PySem.W.Fast.tw14831447022041769747 : True := True.intro
theorem PySem.W.Fast.tw4510076670208550142 : True := True.intro
theorem PySem.W.Fast.tw12365603555384807152 : True := True.intro
theorem PySem.W.Fast.tw5208320104949608253 : True := True.intro
theorem PySem.W.Fast.tw7383428198465547654 : True := True.intro
theorem PySem.W.Fast.tw4002366993419129211 : True := True.intro
theorem PySem.W.Fast.tw14322687425920445235 : True := True.intro
theorem PySem.W.Fast.tw17896863822179296050 : True := True.intro
theorem PySem.W.Fast.tw3874675988629161661 : True := True.intro
theorem PySem.W.Fast.tw7388446651276798808 : True := True.intro
theorem PySem.W.Fast.tw9959468519379527368 : True := True.intro
theorem PySem.W.Fast.tw1449630972595803592 : True := True.intro
theorem PySem.W.Fast.tw16419443156740385806 : True := True.intro
theorem PySem.W.Fast.tw10845863682498414592 : True := True.intro
theorem PySem.W.Fast.tw17426834644814012690 : True := True.intro
theorem PySem.W.Fast.tw11103956176192625863 : True := True.intro
theorem PySem.W.Fast.tw17547099318248568481 : True := True.intro
theorem PySem.W.Fast.tw1794827804338548328 : True := True.intro
theorem PySem.W.Fast.tw7748545861958801521 : True := True.intro
theorem PySem.W.Fast.tw12844182632210477281 : True := True.intro
theorem PySem.W.Fast.tw4613312687051450100 : True := True.intro
theorem PySem.W.Fast.tw12747170013219809183 : True := True.intro
theorem PySem.W.Fast.tw15004504997007003232 : True := True.intro
theorem PySem.W.Fast.tw4272124599399151589 : True := True.intro
theorem PySem.W.Fast.tw10628488021179531464 : True := True.intro
theorem PySem.W.Fast.tw12119513607012270145 : True := True.intro
theorem PySem.W.Fast.tw5331607639285461370 : True := True.intro
theorem PySem.W.Fast.tw1057119340152045161 : True := True.intro
theorem PySem.W.Fast.tw58507330094320015 : True := True.intro
theorem PySem.W.Fast.tw3489100409918077905 : True := True.intro
theorem PySem.W.Fast.tw16572683557657886442 : True := True.intro
theorem PySem.W.Fast.tw10540242161081379176 : True := True.intro
theorem PySem.W.Fast.tw10271402544329715377 : True := True.intro
theorem PySem.W.Fast.tw10788856534290400039 : True := True.intro
theorem PySem.W.Fast.tw4377146216209441048 : True := True.intro
theorem PySem.W.Fast.tw6548906051327973238 : True := True.intro
theorem PySem.W.Fast.tw17288637158151484787 : True := True.intro
theorem PySem.W.Fast.tw5568492615244839997 : True := True.intro
theorem PySem.W.Fast.tw659898230369119557 : True := True.intro
theorem PySem.W.Fast.tw15446823486575759598 : True := True.intro
theorem PySem.W.Fast.tw6944966082975043600 : True := True.intro
theorem PySem.W.Fast.tw8285504243382206577 : True := True.intro
theorem PySem.W.Fast.tw14249747733999381826 : True := True.intro
theorem PySem.W.Fast.tw13914871712588371426 : True := True.intro
theorem PySem.W.Fast.tw15534872614094715946 : True := True.intro
theorem PySem.W.Fast.tw9620080029261565794 : True := True.intro
theorem PySem.W.Fast.tw7307913511868855544 : True := True.intro
theorem PySem.W.Fast.tw16070010074970078740 : True := True.intro
theorem PySem.W.Fast.tw10655607387944752629 : True := True.intro
theorem PySem.W.Fast.tw17864382184956822398 : True := True.intro
theorem PySem.W.Fast.tw9904138584818045049 : True := True.intro
theorem PySem.W.Fast.tw6519646050536468735 : True := True.intro
theorem PySem.W.Fast.tw8047574825940081787 : True := True.intro
theorem PySem.W.Fast.tw244920329703327711 : True := True.intro
theorem PySem.W.Fast.tw6891835434790665259 : True := True.intro
theorem PySem.W.Fast.tw9565021184577692597 : True := True.intro
theorem PySem.W.Fast.tw9608618544179846342 : True := True.intro
theorem PySem.W.Fast.tw8354603891483339223 : True := True.intro
theorem PySem.W.Fast.tw7253807674312013180 : True := True.intro
theorem PySem.W.Fast.tw5531888698290287537 : True := True.intro
theorem PySem.W.Fast.tw17858016374766062266 : True := True.intro
theorem PySem.W.Fast.tw14988365383879617221 : True := True.intro
theorem PySem.W.Fast.tw13607635582544706864 : True := True.intro
theorem PySem.W.Fast.tw2749991607870356837 : True := True.intro
theorem PySem.W.Fast.tw4421551693240397081 : True := True.intro
theorem PySem.W.Fast.tw15384744802731671125 : True := True.intro
theorem PySem.W.Fast.tw4721693994029978172 : True := True.intro
theorem PySem.W.Fast.tw3590618092222662759 : True := True.intro
theorem PySem.W.Fast.tw18030033816625254500 : True := True.intro
theorem PySem.W.Fast.tw7571338003484887454 : True := True.intro
theorem PySem.W.Fast.tw17506729038912530067 : True := True.intro
theorem PySem.W.Fast.tw9654198534996065207 : True := True.intro
theorem PySem.W.Fast.tw14000315157316498575 : True := True.intro
theorem PySem.W.Fast.tw3403989181619396225 : True := True.intro
theorem PySem.W.Fast.tw13588612841145968158 : True := True.intro
theorem PySem.W.Fast.tw576164226483179792 : True := True.intro
theorem PySem.W.Fast.tw11097092623296927467 : True := True.intro
theorem PySem.W.Fast.tw9280893980734318920 : True := True.intro
theorem PySem.W.Fast.tw1782296293858835964 : True := True.intro
theorem PySem.W.Fast.tw18075424309749182033 : True := True.intro
theorem PySem.W.Fast.tw1757482269149210034 : True := True.intro
theorem PySem.W.Fast.tw1581180016743124121 : True := True.intro
theorem PySem.W.Fast.tw4035050458933763172 : True := True.intro
theorem PySem.W.Fast.tw7637591724484151842 : True := True.intro
theorem PySem.W.Fast.tw5014960618866699388 : True := True.intro
theorem PySem.W.Fast.tw11407709503027628981 : True := True.intro
theorem PySem.W.Fast.tw13740870573529620761 : True := True.intro
theorem PySem.W.Fast.tw1488253390874149826 : True := True.intro
theorem PySem.W.Fast.tw1863466077572037549 : True := True.intro
theorem PySem.W.Fast.tw2023653488971715767 : True := True.intro
theorem PySem.W.Fast.tw5916347825660606369 : True := True.intro
theorem PySem.W.Fast.tw14489283161359445373 : True := True.intro
theorem PySem.W.Fast.tw12472084490625033252 : True := True.intro
theorem PySem.W.Fast.tw3236058378435748369 : True := True.intro
theorem PySem.W.Fast.tw5575636692220697852 : True := True.intro
theorem PySem.W.Fast.tw9503784581772399313 : True := True.intro
theorem PySem.W.Fast.tw15063533600616678124 : True := True.intro
theorem PySem.W.Fast.tw12470918799220061598 : True := True.intro
theorem PySem.W.Fast.tw12547102613693735444 : True := True.intro
theorem PySem.W.Fast.tw6223765598402932143 : True := True.intro
theorem PySem.W.Fast.tw3023662047371097563 : True := True.intro
theorem PySem.W.Fast.tw66516573098956546 : True := True.intro
theorem PySem.W.Fast.tw8756301959146927559 : True := True.intro
theorem PySem.W.Fast.tw15790452245650997881 : True := True.intro
theorem PySem.W.Fast.tw8968602012721871972 : True := True.intro
theorem PySem.W.Fast.tw15714447613930871680 : True := True.intro
theorem PySem.W.Fast.tw8450314823279199745 : True := True.intro
theorem PySem.W.Fast.tw12167431175410711679 : True := True.intro
theorem PySem.W.Fast.tw17856256293335297718 : True := True.intro
theorem PySem.W.Fast.tw1614195646733572594 : True := True.intro
theorem PySem.W.Fast.tw517153026149329593 : True := True.intro
theorem PySem.W.Fast.tw2370758487930506614 : True := True.intro
theorem PySem.W.Fast.tw1121781064852170833 : True := True.intro
theorem PySem.W.Fast.tw9485675613828482895 : True := True.intro
theorem PySem.W.Fast.tw12405113605459417195 : True := True.intro
theorem PySem.W.Fast.tw4806569254129902266 : True := True.intro
theorem PySem.W.Fast.tw3861241265122799435 : True := True.intro
theorem PySem.W.Fast.tw10791578947989753595 : True := True.intro
theorem PySem.W.Fast.tw9019963905924890699 : True := True.intro
theorem PySem.W.Fast.tw11901017762850566062 : True := True.intro
theorem PySem.W.Fast.tw8241797430127251242 : True := True.intro
theorem PySem.W.Fast.tw3793389141875439785 : True := True.intro
theorem PySem.W.Fast.tw16002517727747294628 : True := True.intro
theorem PySem.W.Fast.tw8032230742278351930 : True := True.intro
theorem PySem.W.Fast.tw2192518608946829312 : True := True.intro
theorem PySem.W.Fast.tw17112967330320780517 : True := True.intro
theorem PySem.W.Fast.tw2214230552194306616 : True := True.intro
theorem PySem.W.Fast.tw17296683312000561800 : True := True.intro
theorem PySem.W.Fast.tw13832213458266626596 : True := True.intro
theorem PySem.W.Fast.tw12640754273598659870 : True := True.intro
theorem PySem.W.Fast.tw3366817718696642776 : True := True.intro
theorem PySem.W.Fast.tw15101393026588787471 : True := True.intro
theorem PySem.W.Fast.tw13651701543064236998 : True := True.intro
theorem PySem.W.Fast.tw15587065423865033303 : True := True.intro
theorem PySem.W.Fast.tw17688464266128164505 : True := True.intro
theorem PySem.W.Fast.tw15669174243935041633 : True := True.intro
theorem PySem.W.Fast.tw10740315835726739975 : True := True.intro
theorem PySem.W.Fast.tw7612622519210451044 : True := True.intro
theorem PySem.W.Fast.tw16851941712995329927 : True := True.intro
theorem PySem.W.Fast.tw16014615156042231589 : True := True.intro
theorem PySem.W.Fast.tw6387875476278448635 : True := True.intro
theorem PySem.W.Fast.tw2388069083982753603 : True := True.intro
theorem PySem.W.Fast.tw14730860288404463093 : True := True.intro
theorem PySem.W.Fast.tw11390657296609285610 : True := True.intro
theorem PySem.W.Fast.tw17741511053411464085 : True := True.intro
theorem PySem.W.Fast.tw4732059291849875966 : True := True.intro
theorem PySem.W.Fast.tw15510733354295045611 : True := True.intro
theorem PySem.W.Fast.tw3292276846426795428 : True := True.intro
theorem PySem.W.Fast.tw6425561297375996474 : True := True.intro
theorem PySem.W.Fast.tw5249498416687909041 : True := True.intro
theorem PySem.W.Fast.tw7205438974147860 : True := True.intro
theorem PySem.W.Fast.tw3845311460400629241 : True := True.intro
theorem PySem.W.Fast.tw13460962785019274475 : True := True.intro
theorem PySem.W.Fast.tw15703346027138264458 : True := True.intro
theorem PySem.W.Fast.tw7519229602935951903 : True := True.intro
theorem PySem.W.Fast.tw3838235544349404125 : True := True.intro
theorem PySem.W.Fast.tw2504686150738819635 : True := True.intro
theorem PySem.W.Fast.tw6418349902205171014 : True := True.intro
theorem PySem.W.Fast.tw13558777537389663343 : True := True.intro
theorem PySem.W.Fast.tw8467436018548110521 : True := True.intro
theorem PySem.W.Fast.tw13033912029124946832 : True := True.intro
theorem PySem.W.Fast.tw13330178391698804662 : True := True.intro
theorem PySem.W.Fast.tw8080931007505335769 : True := True.intro
theorem PySem.W.Fast.tw13753802816610665816 : True := True.intro
theorem PySem.W.Fast.tw1892842786877028971 : True := True.intro
theorem PySem.W.Fast.tw12991334599439999559 : True := True.intro
theorem PySem.W.Fast.tw15777794386587880212 : True := True.intro
theorem PySem.W.Fast.tw16879858594351155771 : True := True.intro
theorem PySem.W.Fast.tw7832352825660265773 : True := True.intro
theorem PySem.W.Fast.tw8505895956919763470 : True := True.intro
theorem PySem.W.Fast.tw11374269569956772632 : True := True.intro
theorem PySem.W.Fast.tw10426231043669588967 : True := True.intro
theorem PySem.W.Fast.tw15028651470805237394 : True := True.intro
theorem PySem.W.Fast.tw11710596512926262692 : True := True.intro
theorem PySem.W.Fast.tw10631101804291267857 : True := True.intro
theorem PySem.W.Fast.tw11093423067939463238 : True := True.intro
theorem PySem.W.Fast.tw18149520379792437780 : True := True.intro
theorem PySem.W.Fast.tw11902265689443324612 : True := True.intro
theorem PySem.W.Fast.tw12412619324919549039 : True := True.intro
theorem PySem.W.Fast.tw15158544282956272256 : True := True.intro
theorem PySem.W.Fast.tw4679818877335772890 : True := True.intro
theorem PySem.W.Fast.tw2537202749003886574 : True := True.intro
theorem PySem.W.Fast.tw121303391959160919 : True := True.intro
theorem PySem.W.Fast.tw8137636201063565508 : True := True.intro
theorem PySem.W.Fast.tw11994463296358424642 : True := True.intro
theorem PySem.W.Fast.tw6194044071484845390 : True := True.intro
theorem PySem.W.Fast.tw10102894976962755726 : True := True.intro
theorem PySem.W.Fast.tw12682269197953748668 : True := True.intro
theorem PySem.W.Fast.tw3590637396003293033 : True := True.intro
theorem PySem.W.Fast.tw12023527099168484725 : True := True.intro
theorem PySem.W.Fast.tw7601985719817539049 : True := True.intro
theorem PySem.W.Fast.tw10301440449837731070 : True := True.intro
theorem PySem.W.Fast.tw16660347994823270921 : True := True.intro
theorem PySem.W.Fast.tw8065033070154433813 : True := True.intro
theorem PySem.W.Fast.tw6108692474095031889 : True := True.intro
theorem PySem.W.Fast.tw15013179795885242897 : True := True.intro
theorem PySem.W.Fast.tw2852269885818727793 : True := True.intro
theorem PySem.W.Fast.tw13479430448419911168 : True := True.intro
theorem PySem.W.Fast.tw15834721278186714868 : True := True.intro
theorem PySem.W.Fast.tw16074917213204121142 : True := True.intro
theorem PySem.W.Fast.tw473330450024168413 : True := True.intro
theorem PySem.W.Fast.tw5130017892814852520 : True := True.intro
theorem PySem.W.Fast.tw9130048654231215054 : True := True.intro
theorem PySem.W.Fast.tw11164679662407680427 : True := True.intro
theorem PySem.W.Fast.tw7401363167821941028 : True := True.intro
theorem PySem.W.Fast.tw6544425090168787011 : True := True.intro
theorem PySem.W.Fast.tw7972674883214673004 : True := True.intro
theorem PySem.W.Fast.tw14152074177476554669 : True := True.intro
theorem PySem.W.Fast.tw12322273938477570783 : True := True.intro
theorem PySem.W.Fast.tw4073083228758753762 : True := True.intro
theorem PySem.W.Fast.tw11537097362726430552 : True := True.intro
theorem PySem.W.Fast.tw7588284242425493180 : True := True.intro
theorem PySem.W.Fast.tw10892214531999384386 : True := True.intro
theorem PySem.W.Fast.tw10669577546509056797 : True := True.intro
theorem PySem.W.Fast.tw10721895099239474451 : True := True.intro
theorem PySem.W.Fast.tw5250829220410713116 : True := True.intro
theorem PySem.W.Fast.tw5113799032723266697 : True := True.intro
theorem PySem.W.Fast.tw11345933997467754282 : True := True.intro
theorem PySem.W.Fast.tw5693581531602561523 : True := True.intro
theorem PySem.W.Fast.tw12542989267616153072 : True := True.intro
theorem PySem.W.Fast.tw13304476712773085508 : True := True.intro
theorem PySem.W.Fast.tw17766492532708556614 : True := True.intro
theorem PySem.W.Fast.tw6786512807852945794 : True := True.intro
theorem PySem.W.Fast.tw8467897426049378654 : True := True.intro
theorem PySem.W.Fast.tw16164021548664983551 : True := True.intro
theorem PySem.W.Fast.tw18263621623867250075 : True := True.intro
theorem PySem.W.Fast.tw535691385220443133 : True := True.intro
theorem PySem.W.Fast.tw8252140499731636943 : True := True.intro
theorem PySem.W.Fast.tw15116064927163541196 : True := True.intro
theorem PySem.W.Fast.tw2376783604698361520 : True := True.intro
theorem PySem.W.Fast.tw11593970367084890614 : True := True.intro
theorem PySem.W.Fast.tw3532356430520623815 : True := True.intro
theorem PySem.W.Fast.tw14459655490681691289 : True := True.intro
theorem PySem.W.Fast.tw11594128147612963985 : True := True.intro
theorem PySem.W.Fast.tw2925049219768458229 : True := True.intro
theorem PySem.W.Fast.tw15041705831585868075 : True := True.intro
theorem PySem.W.Fast.tw1013354078536894233 : True := True.intro
theorem PySem.W.Fast.tw11951447884110892045 : True := True.intro
theorem PySem.W.Fast.tw5437693151472139113 : True := True.intro
theorem PySem.W.Fast.tw1446810803540633895 : True := True.intro
theorem PySem.W.Fast.tw18073805255211414747 : True := True.intro
theorem PySem.W.Fast.tw17850616782736935181 : True := True.intro
theorem PySem.W.Fast.tw5107482304025718279 : True := True.intro
theorem PySem.W.Fast.tw15027275548989355394 : True := True.intro
theorem PySem.W.Fast.tw703855138467628237 : True := True.intro
theorem PySem.W.Fast.tw15414129069688526470 : True := True.intro
theorem PySem.W.Fast.tw6645876347589595227 : True := True.intro
theorem PySem.W.Fast.tw10228721972485336488 : True := True.intro
theorem PySem.W.Fast.tw2736774465866157865 : True := True.intro
theorem PySem.W.Fast.tw352520132508809069 : True := True.intro
theorem PySem.W.Fast.tw2779026803398978220 : True := True.intro
theorem PySem.W.Fast.tw16719966189015316706 : True := True.intro
theorem PySem.W.Fast.tw7964765400681928473 : True := True.intro
theorem PySem.W.Fast.tw7020919659397631600 : True := True.intro
theorem PySem.W.Fast.tw4813963552910655597 : True := True.intro
theorem PySem.W.Fast.tw4078364736365569582 : True := True.intro
theorem PySem.W.Fast.tw2838260332557951662 : True := True.intro
theorem PySem.W.Fast.tw10406186390241464522 : True := True.intro
theorem PySem.W.Fast.tw10098261176378821855 : True := True.intro
theorem PySem.W.Fast.tw16290714127545988217 : True := True.intro
theorem PySem.W.Fast.tw7512916701851914228 : True := True.intro
theorem PySem.W.Fast.tw1255152056570837759 : True := True.intro
theorem PySem.W.Fast.tw721289763060519737 : True := True.intro
theorem PySem.W.Fast.tw5588055119151150207 : True := True.intro
theorem PySem.W.Fast.tw12348866691211195772 : True := True.intro
theorem PySem.W.Fast.tw17473973841723798139 : True := True.intro
theorem PySem.W.Fast.tw15949968529572614517 : True := True.intro
theorem PySem.W.Fast.tw9448661410092242153 : True := True.intro
theorem PySem.W.Fast.tw14886553592393567557 : True := True.intro
theorem PySem.W.Fast.tw14788485172220283007 : True := True.intro
theorem PySem.W.Fast.tw5293545211289384871 : True := True.intro
theorem PySem.W.Fast.tw6654165415845910568 : True := True.intro
theorem PySem.W.Fast.tw8277878247843059455 : True := True.intro
theorem PySem.W.Fast.tw9898875944369522878 : True := True.intro
theorem PySem.W.Fast.tw17369962224035097384 : True := True.intro
theorem PySem.W.Fast.tw14174651712787126917 : True := True.intro
theorem PySem.W.Fast.tw7977893598675035065 : True := True.intro
theorem PySem.W.Fast.tw12715016439420877310 : True := True.intro
theorem PySem.W.Fast.tw12107808560651376453 : True := True.intro
theorem PySem.W.Fast.tw520225708592104712 : True := True.intro
theorem PySem.W.Fast.tw16094032706732273762 : True := True.intro
theorem PySem.W.Fast.tw8904283252197080721 : True := True.intro
theorem PySem.W.Fast.tw3463601303919778298 : True := True.intro
theorem PySem.W.Fast.tw6601164360413997589 : True := True.intro
theorem PySem.W.Fast.tw3350004538371430192 : True := True.intro
theorem PySem.W.Fast.tw8458863071075179443 : True := True.intro
theorem PySem.W.Fast.tw16661385603337781564 : True := True.intro
theorem PySem.W.Fast.tw17308368313267710074 : True := True.intro
theorem PySem.W.Fast.tw7703411631847691393 : True := True.intro
theorem PySem.W.Fast.tw3287169847045448539 : True := True.intro
theorem PySem.W.Fast.tw9744179734032741644 : True := True.intro
theorem PySem.W.Fast.tw2686764238630400370 : True := True.intro
theorem PySem.W.Fast.tw6374874279433244927 : True := True.intro
theorem PySem.W.Fast.tw12307643611665025597 : True := True.intro
theorem PySem.W.Fast.tw14539895574992595843 : True := True.intro
theorem PySem.W.Fast.tw1619783347559358817 : True := True.intro
theorem PySem.W.Fast.tw9434515472884848411 : True := True.intro
theorem PySem.W.Fast.tw7306717209459303019 : True := True.intro
theorem PySem.W.Fast.tw6159672201175179314 : True := True.intro
theorem PySem.W.Fast.tw439058499811820766 : True := True.intro
theorem PySem.W.Fast.tw3943149645110935893 : True := True.intro
theorem PySem.W.Fast.tw6753124500762873748 : True := True.intro
theorem PySem.W.Fast.tw1816616908301791827 : True := True.intro
theorem PySem.W.Fast.tw12753831906115179401 : True := True.intro
theorem PySem.W.Fast.tw6081141704265776264 : True := True.intro
theorem PySem.W.Fast.tw9792093437120902507 : True := True.intro
theorem PySem.W.Fast.tw8438206106918919074 : True := True.intro
theorem PySem.W.Fast.tw12696206616300623224 : True := True.intro
theorem PySem.W.Fast.tw14095058700667321179 : True := True.intro
theorem PySem.W.Fast.tw3160300241049663824 : True := True.intro
theorem PySem.W.Fast.tw17423539415209988090 : True := True.intro
theorem PySem.W.Fast.tw11978094777159120504 : True := True.intro
theorem PySem.W.Fast.tw3202769004848291832 : True := True.intro
theorem PySem.W.Fast.tw7968186937673074917 : True := True.intro
theorem PySem.W.Fast.tw2385107875193939850 : True := True.intro
theorem PySem.W.Fast.tw5951697928876535292 : True := True.intro
theorem PySem.W.Fast.tw9333200667062186284 : True := True.intro
theorem PySem.W.Fast.tw8398478386781343212 : True := True.intro
theorem PySem.W.Fast.tw18320012656969582641 : True := True.intro
theorem PySem.W.Fast.tw7254868932923879412 : True := True.intro
theorem PySem.W.Fast.tw10847885921993376720 : True := True.intro
theorem PySem.W.Fast.tw5362631203128007242 : True := True.intro
theorem PySem.W.Fast.tw12021421834894751324 : True := True.intro
theorem PySem.W.Fast.tw4438414326231836354 : True := True.intro
theorem PySem.W.Fast.tw6931657569994257382 : True := True.intro
theorem PySem.W.Fast.tw7340625615851031547 : True := True.intro
theorem PySem.W.Fast.tw4321501497140903525 : True := True.intro
theorem PySem.W.Fast.tw3860859269052036550 : True := True.intro
theorem PySem.W.Fast.tw4298154722400370906 : True := True.intro
theorem PySem.W.Fast.tw16823155024823024779 : True := True.intro
theorem PySem.W.Fast.tw4440996551057445547 : True := True.intro
theorem PySem.W.Fast.tw15550151099216783220 : True := True.intro
theorem PySem.W.Fast.tw1091896805505886970 : True := True.intro
theorem PySem.W.Fast.tw5645954348003401061 : True := True.intro
theorem PySem.W.Fast.tw4618308287152796142 : True := True.intro
theorem PySem.W.Fast.tw17141800190239299811 : True := True.intro
theorem PySem.W.Fast.tw7403030272701945680 : True := True.intro
theorem PySem.W.Fast.tw7329592928740687973 : True := True.intro
theorem PySem.W.Fast.tw14738755934138679207 : True := True.intro
theorem PySem.W.Fast.tw764994241034990282 : True := True.intro
theorem PySem.W.Fast.tw13326979758622037843 : True := True.intro
theorem PySem.W.Fast.tw253187597101100218 : True := True.intro
theorem PySem.W.Fast.tw3865566100623718982 : True := True.intro
theorem PySem.W.Fast.tw9060392779972509049 : True := True.intro
theorem PySem.W.Fast.tw10864853732520162304 : True := True.intro
theorem PySem.W.Fast.tw1059919562800861644 : True := True.intro
theorem PySem.W.Fast.tw12517923607354261292 : True := True.intro
theorem PySem.W.Fast.tw12756152411082977105 : True := True.intro
theorem PySem.W.Fast.tw8719663744144294508 : True := True.intro
theorem PySem.W.Fast.tw8255878066280160899 : True := True.intro
theorem PySem.W.Fast.tw8090078326587944991 : True := True.intro
theorem PySem.W.Fast.tw14119716960790766542 : True := True.intro
theorem PySem.W.Fast.tw6767909973322511365 : True := True.intro
theorem PySem.W.Fast.tw8327507509682895198 : True := True.intro
theorem PySem.W.Fast.tw16659762643628359361 : True := True.intro
theorem PySem.W.Fast.tw17596423725576183966 : True := True.intro
theorem PySem.W.Fast.tw11198738236328486247 : True := True.intro
theorem PySem.W.Fast.tw15335303798063091162 : True := True.intro
theorem PySem.W.Fast.tw13395955943635898681 : True := True.intro
theorem PySem.W.Fast.tw8946201228676584072 : True := True.intro
theorem PySem.W.Fast.tw5517837380096569063 : True := True.intro
theorem PySem.W.Fast.tw161445062349463978 : True := True.intro
theorem PySem.W.Fast.tw11980324496660750723 : True := True.intro
theorem PySem.W.Fast.tw9887922041183622773 : True := True.intro
theorem PySem.W.Fast.tw8686074468487303644 : True := True.intro
theorem PySem.W.Fast.tw8708183803826075675 : True := True.intro
theorem PySem.W.Fast.tw1335981107522743741 : True := True.intro
theorem PySem.W.Fast.tw8148235613331603155 : True := True.intro
theorem PySem.W.Fast.tw11610492681110982592 : True := True.intro
theorem PySem.W.Fast.tw7838397084084688827 : True := True.intro
theorem PySem.W.Fast.tw11754675843396742037 : True := True.intro
theorem PySem.W.Fast.tw16867185485097258922 : True := True.intro
theorem PySem.W.Fast.tw16392878575732267667 : True := True.intro
theorem PySem.W.Fast.tw15585854954663944745 : True := True.intro
theorem PySem.W.Fast.tw4705975125678932102 : True := True.intro
theorem PySem.W.Fast.tw8496499668833796256 : True := True.intro
theorem PySem.W.Fast.tw9908164385006854434 : True := True.intro
theorem PySem.W.Fast.tw5381350157913904358 : True := True.intro
theorem PySem.W.Fast.tw7119495764116656447 : True := True.intro
theorem PySem.W.Fast.tw9166581822561722541 : True := True.intro
theorem PySem.W.Fast.tw6854317212786772829 : True := True.intro
theorem PySem.W.Fast.tw15181806768291132252 : True := True.intro
theorem PySem.W.Fast.tw14596608574144050456 : True := True.intro
theorem PySem.W.Fast.tw6652623704985197838 : True := True.intro
theorem PySem.W.Fast.tw7630881862111520878 : True := True.intro
theorem PySem.W.Fast.tw691548705985279163 : True := True.intro
theorem PySem.W.Fast.tw10441053416308394876 : True := True.intro
theorem PySem.W.Fast.tw762745925215687108 : True := True.intro
theorem PySem.W.Fast.tw7702884681386065896 : True := True.intro
theorem PySem.W.Fast.tw16459971640695982595 : True := True.intro
theorem PySem.W.Fast.tw10906568229945787211 : True := True.intro
theorem PySem.W.Fast.tw9481753709826149488 : True := True.intro
theorem PySem.W.Fast.tw6738565060326669313 : True := True.intro
theorem PySem.W.Fast.tw14528622500027485586 : True := True.intro
theorem PySem.W.Fast.tw11435753649954837639 : True := True.intro
theorem PySem.W.Fast.tw6873314265955506573 : True := True.intro
theorem PySem.W.Fast.tw12300773068130956747 : True := True.intro
theorem PySem.W.Fast.tw8455723898008180063 : True := True.intro
theorem PySem.W.Fast.tw12026300454246600656 : True := True.intro
theorem PySem.W.Fast.tw11926832052355920635 : True := True.intro
theorem PySem.W.Fast.tw16767203891463039874 : True := True.intro
theorem PySem.W.Fast.tw5894607884935837794 : True := True.intro
theorem PySem.W.Fast.tw10605682719909691175 : True := True.intro
theorem PySem.W.Fast.tw6906152012188498644 : True := True.intro
theorem PySem.W.Fast.tw3543308687628023566 : True := True.intro
theorem PySem.W.Fast.tw1967045509817190917 : True := True.intro
theorem PySem.W.Fast.tw948845347611552841 : True := True.intro
theorem PySem.W.Fast.tw14310251847833920313 : True := True.intro
theorem PySem.W.Fast.tw12619967596405945606 : True := True.intro
theorem PySem.W.Fast.tw12371167874155250309 : True := True.intro
theorem PySem.W.Fast.tw15215928273785077306 : True := True.intro
theorem PySem.W.Fast.tw4943184780590954926 : True := True.intro
theorem PySem.W.Fast.tw1258459795008894647 : True := True.intro
theorem PySem.W.Fast.tw7507803959791847068 : True := True.intro
theorem PySem.W.Fast.tw7281415312360846875 : True := True.intro
theorem PySem.W.Fast.tw15861823499943328667 : True := True.intro
theorem PySem.W.Fast.tw9737824580078946179 : True := True.intro
theorem PySem.W.Fast.tw1294713661077654565 : True := True.intro
theorem PySem.W.Fast.tw6746988361719223169 : True := True.intro
theorem PySem.W.Fast.tw6108499524588806629 : True := True.intro
theorem PySem.W.Fast.tw4426918625072336536 : True := True.intro
theorem PySem.W.Fast.tw14029658718426065011 : True := True.intro
theorem PySem.W.Fast.tw17253425494664239830 : True := True.intro
theorem PySem.W.Fast.tw16827238560281843310 : True := True.intro
theorem PySem.W.Fast.tw12618805743402612308 : True := True.intro
theorem PySem.W.Fast.tw12887088214788407263 : True := True.intro
theorem PySem.W.Fast.tw14119989654713064998 : True := True.intro
theorem PySem.W.Fast.tw8624150155227701992 : True := True.intro
theorem PySem.W.Fast.tw691672612101342751 : True := True.intro
theorem PySem.W.Fast.tw15444530928071731625 : True := True.intro
theorem PySem.W.Fast.tw16295085774921402113 : True := True.intro
theorem PySem.W.Fast.tw5225245219261030520 : True := True.intro
theorem PySem.W.Fast.tw7975171995519522393 : True := True.intro
theorem PySem.W.Fast.tw16601804946852155532 : True := True.intro
theorem PySem.W.Fast.tw17831144850425626405 : True := True.intro
theorem PySem.W.Fast.tw7482881912581611775 : True := True.intro
theorem PySem.W.Fast.tw13037712220325791699 : True := True.intro
theorem PySem.W.Fast.tw9402789283092073870 : True := True.intro
theorem PySem.W.Fast.tw9116445229863600395 : True := True.intro
theorem PySem.W.Fast.tw15403493263716123438 : True := True.intro
theorem PySem.W.Fast.tw14216710634185931459 : True := True.intro
theorem PySem.W.Fast.tw16433925441735170043 : True := True.intro
theorem PySem.W.Fast.tw17544700269763568866 : True := True.intro
theorem PySem.W.Fast.tw2877512478608940602 : True := True.intro
theorem PySem.W.Fast.tw5835927933164516206 : True := True.intro
theorem PySem.W.Fast.tw10430731703414496982 : True := True.intro
theorem PySem.W.Fast.tw16753734104545669219 : True := True.intro
theorem PySem.W.Fast.tw5023749344468027674 : True := True.intro
theorem PySem.W.Fast.tw5767415742558944178 : True := True.intro
theorem PySem.W.Fast.tw3558669595767636130 : True := True.intro
theorem PySem.W.Fast.tw8138825978779997924 : True := True.intro
theorem PySem.W.Fast.tw783165607066817791 : True := True.intro
theorem PySem.W.Fast.tw16007668499888385106 : True := True.intro
theorem PySem.W.Fast.tw10544115549567604722 : True := True.intro
theorem PySem.W.Fast.tw14175823300803109792 : True := True.intro
theorem PySem.W.Fast.tw11762982156381234314 : True := True.intro
theorem PySem.W.Fast.tw11769198164620115000 : True := True.intro
theorem PySem.W.Fast.tw4288611182306131764 : True := True.intro
theorem PySem.W.Fast.tw18210404971677667052 : True := True.intro
theorem PySem.W.Fast.tw11400017319286448288 : True := True.intro
theorem PySem.W.Fast.tw12845314127122712639 : True := True.intro
theorem PySem.W.Fast.tw7553593369184243124 : True := True.intro
theorem PySem.W.Fast.tw2760420052301262175 : True := True.intro
theorem PySem.W.Fast.tw12128125727981287341 : True := True.intro
theorem PySem.W.Fast.tw18345225586628528104 : True := True.intro
theorem PySem.W.Fast.tw16648639436281194745 : True := True.intro
theorem PySem.W.Fast.tw1788441034624174456 : True := True.intro
theorem PySem.W.Fast.tw1393132728476136280 : True := True.intro
theorem PySem.W.Fast.tw16547742521926467574 : True := True.intro
theorem PySem.W.Fast.tw13467407721823822319 : True := True.intro
theorem PySem.W.Fast.tw8504383197344008222 : True := True.intro
theorem PySem.W.Fast.tw9479997160690399447 : True := True.intro
theorem PySem.W.Fast.tw10869462403795132211 : True := True.intro
theorem PySem.W.Fast.tw6970674164242915646 : True := True.intro
theorem PySem.W.Fast.tw11537466334445955749 : True := True.intro
theorem PySem.W.Fast.tw657877214778757976 : True := True.intro
theorem PySem.W.Fast.tw14525442255954387434 : True := True.intro
theorem PySem.W.Fast.tw8552878825192984438 : True := True.intro
theorem PySem.W.Fast.tw13831464687710706133 : True := True.intro
theorem PySem.W.Fast.tw2810265969546407368 : True := True.intro
theorem PySem.W.Fast.tw15456930190967630702 : True := True.intro
theorem PySem.W.Fast.tw6679198963117998065 : True := True.intro
theorem PySem.W.Fast.tw7101439591249458842 : True := True.intro
theorem PySem.W.Fast.tw16771180182156398452 : True := True.intro
theorem PySem.W.Fast.tw15263430699233669103 : True := True.intro
theorem PySem.W.Fast.tw11433298891785427980 : True := True.intro
theorem PySem.W.Fast.tw8897781434899808363 : True := True.intro
theorem PySem.W.Fast.tw15693402421572659919 : True := True.intro
theorem PySem.W.Fast.tw7370177501146698439 : True := True.intro
theorem PySem.W.Fast.tw12635434578635348946 : True := True.intro
theorem PySem.W.Fast.tw10527043657632678841 : True := True.intro
theorem PySem.W.Fast.tw10400300310118621763 : True := True.intro
theorem PySem.W.Fast.tw9209124271948141462 : True := True.intro
theorem PySem.W.Fast.tw16593651567739413307 : True := True.intro
theorem PySem.W.Fast.tw18433351355891055817 : True := True.intro
theorem PySem.W.Fast.tw17023451356617804576 : True := True.intro
theorem PySem.W.Fast.tw8059904176339674028 : True := True.intro
theorem PySem.W.Fast.tw3425611330496216721 : True := True.intro
theorem PySem.W.Fast.tw2193880777813680160 : True := True.intro
theorem PySem.W.Fast.tw6290080909713775565 : True := True.intro
theorem PySem.W.Fast.tw2081092556813133307 : True := True.intro
theorem PySem.W.Fast.tw3781655857688572916 : True := True.intro
theorem PySem.W.Fast.tw1144147432901112467 : True := True.intro
theorem PySem.W.Fast.tw11146571792448603832 : True := True.intro
theorem PySem.W.Fast.tw2692078841114150489 : True := True.intro
theorem PySem.W.Fast.tw18087108539430361215 : True := True.intro
theorem PySem.W.Fast.tw13874768605721657873 : True := True.intro
theorem PySem.W.Fast.tw8942498662451864266 : True := True.intro
theorem PySem.W.Fast.tw8778206393549229340 : True := True.intro
theorem PySem.W.Fast.tw840110636149493276 : True := True.intro
theorem PySem.W.Fast.tw8673335760132075121 : True := True.intro
theorem PySem.W.Fast.tw16162095119402233660 : True := True.intro
theorem PySem.W.Fast.tw4675193457431105385 : True := True.intro
theorem PySem.W.Fast.tw12185838531358671754 : True := True.intro
theorem PySem.W.Fast.tw11436320382768832504 : True := True.intro
theorem PySem.W.Fast.tw18426310108271487411 : True := True.intro
theorem PySem.W.Fast.tw3531115917679985151 : True := True.intro
theorem PySem.W.Fast.tw2993534228128944119 : True := True.intro
theorem PySem.W.Fast.tw12975073134022402667 : True := True.intro
theorem PySem.W.Fast.tw14339092482017261901 : True := True.intro
theorem PySem.W.Fast.tw619930474886819141 : True := True.intro
theorem PySem.W.Fast.tw2578444842520733189 : True := True.intro
theorem PySem.W.Fast.tw14638026137033274521 : True := True.intro
theorem PySem.W.Fast.tw6664043776592319120 : True := True.intro
theorem PySem.W.Fast.tw11793706777172323322 : True := True.intro
theorem PySem.W.Fast.tw3451510331689840213 : True := True.intro
theorem PySem.W.Fast.tw1224190314239679248 : True := True.intro
theorem PySem.W.Fast.tw492020954207449932 : True := True.intro
theorem PySem.W.Fast.tw12810649451588271551 : True := True.intro
theorem PySem.W.Fast.tw18027392290777701734 : True := True.intro
theorem PySem.W.Fast.tw3575519542612282756 : True := True.intro
theorem PySem.W.Fast.tw4392544143852545101 : True := True.intro
theorem PySem.W.Fast.tw14044607004823955457 : True := True.intro
theorem PySem.W.Fast.tw15084610218839900205 : True := True.intro
theorem PySem.W.Fast.tw3634704779873472294 : True := True.intro
theorem PySem.W.Fast.tw4299629391352052039 : True := True.intro
theorem PySem.W.Fast.tw1765270164561050090 : True := True.intro
theorem PySem.W.Fast.tw9725786803384568047 : True := True.intro
theorem PySem.W.Fast.tw2239674644429187559 : True := True.intro
theorem PySem.W.Fast.tw781611169597393524 : True := True.intro
theorem PySem.W.Fast.tw7822914971661691474 : True := True.intro
theorem PySem.W.Fast.tw14075241620811882184 : True := True.intro
theorem PySem.W.Fast.tw10129200226605912154 : True := True.intro
theorem PySem.W.Fast.tw2501176757622477169 : True := True.intro
theorem PySem.W.Fast.tw14339446853568507784 : True := True.intro
theorem PySem.W.Fast.tw17929209019402814913 : True := True.intro
theorem PySem.W.Fast.tw5339741645083367897 : True := True.intro
theorem PySem.W.Fast.tw5240884297769676234 : True := True.intro
theorem PySem.W.Fast.tw8128395852668529019 : True := True.intro
theorem PySem.W.Fast.tw9309134587193760309 : True := True.intro
theorem PySem.W.Fast.tw15212627734300860706 : True := True.intro
theorem PySem.W.Fast.tw1584916930702766163 : True := True.intro
theorem PySem.W.Fast.tw190246420030263038 : True := True.intro
theorem PySem.W.Fast.tw16213172280850800165 : True := True.intro
theorem PySem.W.Fast.tw10890836830996470696 : True := True.intro
theorem PySem.W.Fast.tw6367154545615047487 : True := True.intro
theorem PySem.W.Fast.tw3902656747525447693 : True := True.intro
theorem PySem.W.Fast.tw8376754569062622320 : True := True.intro
theorem PySem.W.Fast.tw7452853980176540804 : True := True.intro
theorem PySem.W.Fast.tw116465850839126010 : True := True.intro
theorem PySem.W.Fast.tw13817377265376992777 : True := True.intro
theorem PySem.W.Fast.tw14484167605705245490 : True := True.intro
theorem PySem.W.Fast.tw15040212939821651209 : True := True.intro
theorem PySem.W.Fast.tw15623536922102250086 : True := True.intro
theorem PySem.W.Fast.tw7568897316115872896 : True := True.intro
theorem PySem.W.Fast.tw1990720561773220131 : True := True.intro
theorem PySem.W.Fast.tw3221385770530879795 : True := True.intro
theorem PySem.W.Fast.tw9767632068020119014 : True := True.intro
theorem PySem.W.Fast.tw9891121477079091383 : True := True.intro
theorem PySem.W.Fast.tw13687241913077468773 : True := True.intro
theorem PySem.W.Fast.tw6486280773219111443 : True := True.intro
theorem PySem.W.Fast.tw17356004617062882307 : True := True.intro
theorem PySem.W.Fast.tw412964058605255351 : True := True.intro
theorem PySem.W.Fast.tw12021652434724210621 : True := True.intro
theorem PySem.W.Fast.tw7460946609111889227 : True := True.intro
theorem PySem.W.Fast.tw6410011082680622222 : True := True.intro
theorem PySem.W.Fast.tw17278553404159877611 : True := True.intro
theorem PySem.W.Fast.tw654212419762978588 : True := True.intro
theorem PySem.W.Fast.tw17526182994608270022 : True := True.intro
theorem PySem.W.Fast.tw13006123279656126811 : True := True.intro
theorem PySem.W.Fast.tw17877740453153111678 : True := True.intro
theorem PySem.W.Fast.tw12736434782371189652 : True := True.intro
theorem PySem.W.Fast.tw5427603124402203900 : True := True.intro
theorem PySem.W.Fast.tw15636804636836781897 : True := True.intro
theorem PySem.W.Fast.tw11561246503963326055 : True := True.intro
theorem PySem.W.Fast.tw3787777043413804904 : True := True.intro
theorem PySem.W.Fast.tw4165487366685722723 : True := True.intro
theorem PySem.W.Fast.tw15070089563791509749 : True := True.intro
theorem PySem.W.Fast.tw12106234202338335973 : True := True.intro
theorem PySem.W.Fast.tw6412954647127367448 : True := True.intro
theorem PySem.W.Fast.tw17052221872558529118 : True := True.intro
theorem PySem.W.Fast.tw4486834017961176365 : True := True.intro
theorem PySem.W.Fast.tw2132556263876625707 : True := True.intro
theorem PySem.W.Fast.tw5996397199948217221 : True := True.intro
theorem PySem.W.Fast.tw8336394251043321343 : True := True.intro
theorem PySem.W.Fast.tw7270199529863859584 : True := True.intro
theorem PySem.W.Fast.tw778770042886122872 : True := True.intro
theorem PySem.W.Fast.tw18187894950810657045 : True := True.intro
theorem PySem.W.Fast.tw1504974839079151262 : True := True.intro
theorem PySem.W.Fast.tw1591085038932895706 : True := True.intro
theorem PySem.W.Fast.tw17032774544481783048 : True := True.intro
theorem PySem.W.Fast.tw14620761172877867808 : True := True.intro
theorem PySem.W.Fast.tw14056825749567599293 : True := True.intro
theorem PySem.W.Fast.tw9538146281550347132 : True := True.intro
theorem PySem.W.Fast.tw9700606641128721024 : True := True.intro
theorem PySem.W.Fast.tw16005206085885006576 : True := True.intro
theorem PySem.W.Fast.tw3068858482020430016 : True := True.intro
theorem PySem.W.Fast.tw3950357696651045583 : True := True.intro
theorem PySem.W.Fast.tw8362980446323337224 : True := True.intro
theorem PySem.W.Fast.tw9201229809215031067 : True := True.intro
theorem PySem.W.Fast.tw1570960253252868794 : True := True.intro
theorem PySem.W.Fast.tw6661414169175892010 : True := True.intro
theorem PySem.W.Fast.tw13581410321318018207 : True := True.intro
theorem PySem.W.Fast.tw9669569093395908035 : True := True.intro
theorem PySem.W.Fast.tw12818640886618814731 : True := True.intro
theorem PySem.W.Fast.tw14168026800064095334 : True := True.intro
theorem PySem.W.Fast.tw4350716124383352240 : True := True.intro
theorem PySem.W.Fast.tw14891660777224842740 : True := True.intro
theorem PySem.W.Fast.tw4940870803151342922 : True := True.intro
theorem PySem.W.Fast.tw14158274309901179693 : True := True.intro
theorem PySem.W.Fast.tw14994176214800648393 : True := True.intro
theorem PySem.W.Fast.tw4707850239083661612 : True := True.intro
theorem PySem.W.Fast.tw4676206409387032296 : True := True.intro
theorem PySem.W.Fast.tw4986222328145281034 : True := True.intro
theorem PySem.W.Fast.tw17528960321293430036 : True := True.intro
theorem PySem.W.Fast.tw12621253051520184109 : True := True.intro
theorem PySem.W.Fast.tw3881073362235646185 : True := True.intro
theorem PySem.W.Fast.tw14578455560605159251 : True := True.intro
theorem PySem.W.Fast.tw8667671209681826450 : True := True.intro
theorem PySem.W.Fast.tw15240704364375142844 : True := True.intro
theorem PySem.W.Fast.tw16940609664606830513 : True := True.intro
theorem PySem.W.Fast.tw8429704012386151197 : True := True.intro
theorem PySem.W.Fast.tw7556563873977646884 : True := True.intro
theorem PySem.W.Fast.tw12459569043018013109 : True := True.intro
theorem PySem.W.Fast.tw12162036117213135131 : True := True.intro
theorem PySem.W.Fast.tw16283209333194973986 : True := True.intro
theorem PySem.W.Fast.tw17361253194665398284 : True := True.intro
theorem PySem.W.Fast.tw15389317115700769307 : True := True.intro
theorem PySem.W.Fast.tw17224099819466025807 : True := True.intro
theorem PySem.W.Fast.tw9523552603958212349 : True := True.intro
theorem PySem.W.Fast.tw15794647918371703570 : True := True.intro
theorem PySem.W.Fast.tw17011935516150905647 : True := True.intro
theorem PySem.W.Fast.tw12386977057176536104 : True := True.intro
theorem PySem.W.Fast.tw12513593720899702464 : True := True.intro
theorem PySem.W.Fast.tw13084471044009451527 : True := True.intro
theorem PySem.W.Fast.tw5071619801786913812 : True := True.intro
theorem PySem.W.Fast.tw10582548687350260520 : True := True.intro
theorem PySem.W.Fast.tw4898923904570777203 : True := True.intro
theorem PySem.W.Fast.tw9120800782373019768 : True := True.intro
theorem PySem.W.Fast.tw10273914562768178225 : True := True.intro
theorem PySem.W.Fast.tw18099556813102074964 : True := True.intro
theorem PySem.W.Fast.tw2721269375352308516 : True := True.intro
theorem PySem.W.Fast.tw11925593861380812333 : True := True.intro
theorem PySem.W.Fast.tw9641516305724376090 : True := True.intro
theorem PySem.W.Fast.tw7488955641930102665 : True := True.intro
theorem PySem.W.Fast.tw13306820226678327159 : True := True.intro
theorem PySem.W.Fast.tw7731142137029602741 : True := True.intro
theorem PySem.W.Fast.tw10574562402708901182 : True := True.intro
theorem PySem.W.Fast.tw17136439638085358367 : True := True.intro
theorem PySem.W.Fast.tw9800909512192214652 : True := True.intro
theorem PySem.W.Fast.tw10649552465957294405 : True := True.intro
theorem PySem.W.Fast.tw9494574072889802348 : True := True.intro
theorem PySem.W.Fast.tw12029641354547811956 : True := True.intro
theorem PySem.W.Fast.tw4057713577127675706 : True := True.intro
theorem PySem.W.Fast.tw8133330389660980749 : True := True.intro
theorem PySem.W.Fast.tw12840498706058946244 : True := True.intro
theorem PySem.W.Fast.tw9688949952635941230 : True := True.intro
theorem PySem.W.Fast.tw12612112305894807252 : True := True.intro
theorem PySem.W.Fast.tw11656428273409669713 : True := True.intro
theorem PySem.W.Fast.tw8189669455661661804 : True := True.intro
theorem PySem.W.Fast.tw10155614417311252315 : True := True.intro
theorem PySem.W.Fast.tw4489783468400200708 : True := True.intro
theorem PySem.W.Fast.tw7133849996063204763 : True := True.intro
theorem PySem.W.Fast.tw10738593514257960664 : True := True.intro
theorem PySem.W.Fast.tw3879728737189890217 : True := True.intro
theorem PySem.W.Fast.tw7192001457458792652 : True := True.intro
theorem PySem.W.Fast.tw1222239837457156001 : True := True.intro
theorem PySem.W.Fast.tw1052784900299364481 : True := True.intro
theorem PySem.W.Fast.tw11163443798954588327 : True := True.intro
theorem PySem.W.Fast.tw1226096610168982838 : True := True.intro
theorem PySem.W.Fast.tw14747882455991162363 : True := True.intro
theorem PySem.W.Fast.tw17638265260035989435 : True := True.intro
theorem PySem.W.Fast.tw12037269633540232278 : True := True.intro
theorem PySem.W.Fast.tw5643873570677199378 : True := True.intro
theorem PySem.W.Fast.tw15579119145205037957 : True := True.intro
theorem PySem.W.Fast.tw14310953268565366253 : True := True.intro
theorem PySem.W.Fast.tw10441092937043116348 : True := True.intro
theorem PySem.W.Fast.tw18108882234665586103 : True := True.intro
theorem PySem.W.Fast.tw1528680717008694396 : True := True.intro
theorem PySem.W.Fast.tw17487109478910926570 : True := True.intro
theorem PySem.W.Fast.tw8303905404510194861 : True := True.intro
theorem PySem.W.Fast.tw13034288359452097510 : True := True.intro
theorem PySem.W.Fast.tw10431386340221018490 : True := True.intro
theorem PySem.W.Fast.tw10023388438890514591 : True := True.intro
theorem PySem.W.Fast.tw2037726132160925725 : True := True.intro
theorem PySem.W.Fast.tw16341472578110044409 : True := True.intro
theorem PySem.W.Fast.tw18042159132871469859 : True := True.intro
theorem PySem.W.Fast.tw14694380880855450481 : True := True.intro
theorem PySem.W.Fast.tw13404893284730053590 : True := True.intro
theorem PySem.W.Fast.tw17505439561052440070 : True := True.intro
theorem PySem.W.Fast.tw15102633841833603374 : True := True.intro
theorem PySem.W.Fast.tw5042750230858494958 : True := True.intro
theorem PySem.W.Fast.tw3424148552005730387 : True := True.intro
theorem PySem.W.Fast.tw10345345015370816270 : True := True.intro
theorem PySem.W.Fast.tw17413948990398068322 : True := True.intro
theorem PySem.W.Fast.tw14083566951632448042 : True := True.intro
theorem PySem.W.Fast.tw15098870371801442830 : True := True.intro
theorem PySem.W.Fast.tw14555539851522680890 : True := True.intro
theorem PySem.W.Fast.tw15184155716786266079 : True := True.intro
theorem PySem.W.Fast.tw14514199843493331597 : True := True.intro
theorem PySem.W.Fast.tw17106059597834352740 : True := True.intro
theorem PySem.W.Fast.tw13088520277631320526 : True := True.intro
theorem PySem.W.Fast.tw7743772115317488244 : True := True.intro
theorem PySem.W.Fast.tw3302843665226023548 : True := True.intro
theorem PySem.W.Fast.tw8685275251139799844 : True := True.intro
theorem PySem.W.Fast.tw17308048642924039608 : True := True.intro
theorem PySem.W.Fast.tw3970576726903507499 : True := True.intro
theorem PySem.W.Fast.tw4371956550969236944 : True := True.intro
theorem PySem.W.Fast.tw10877002784506113584 : True := True.intro
theorem PySem.W.Fast.tw11504586098995492296 : True := True.intro
theorem PySem.W.Fast.tw15543104014432880513 : True := True.intro
theorem PySem.W.Fast.tw13383607446774158462 : True := True.intro
theorem PySem.W.Fast.tw18010198838397724245 : True := True.intro
theorem PySem.W.Fast.tw16482621111868848455 : True := True.intro
theorem PySem.W.Fast.tw16385154823652513126 : True := True.intro
theorem PySem.W.Fast.tw11992754320738691320 : True := True.intro
theorem PySem.W.Fast.tw14355061760938799068 : True := True.intro
theorem PySem.W.Fast.tw5370038001640744983 : True := True.intro
theorem PySem.W.Fast.tw5950629739073345998 : True := True.intro
theorem PySem.W.Fast.tw12803697248993253022 : True := True.intro
theorem PySem.W.Fast.tw3332110637166484303 : True := True.intro
theorem PySem.W.Fast.tw13628202578326818564 : True := True.intro
theorem PySem.W.Fast.tw17124843081297672717 : True := True.intro
theorem PySem.W.Fast.tw8915576550309675487 : True := True.intro
theorem PySem.W.Fast.tw17108058929884642155 : True := True.intro
theorem PySem.W.Fast.tw453229594512566516 : True := True.intro
theorem PySem.W.Fast.tw3180524163687344136 : True := True.intro
theorem PySem.W.Fast.tw13511107710971689613 : True := True.intro
theorem PySem.W.Fast.tw12309070699463157230 : True := True.intro
theorem PySem.W.Fast.tw15673251185360532071 : True := True.intro
theorem PySem.W.Fast.tw13644053114464022153 : True := True.intro
theorem PySem.W.Fast.tw5646574239782110387 : True := True.intro
theorem PySem.W.Fast.tw9810404653005962404 : True := True.intro
theorem PySem.W.Fast.tw15774754969877405263 : True := True.intro
theorem PySem.W.Fast.tw14097827465311688102 : True := True.intro
theorem PySem.W.Fast.tw8987008707881377576 : True := True.intro
theorem PySem.W.Fast.tw9106388681198016948 : True := True.intro
theorem PySem.W.Fast.tw9461101145438640945 : True := True.intro
theorem PySem.W.Fast.tw17327041440880791478 : True := True.intro
theorem PySem.W.Fast.tw14169929637607100644 : True := True.intro
theorem PySem.W.Fast.tw4437176472824561427 : True := True.intro
theorem PySem.W.Fast.tw3062579897891283478 : True := True.intro
theorem PySem.W.Fast.tw5993301292286323289 : True := True.intro
theorem PySem.W.Fast.tw7066144180442892613 : True := True.intro
theorem PySem.W.Fast.tw13000992382125670307 : True := True.intro
theorem PySem.W.Fast.tw18069176804719875833 : True := True.intro
theorem PySem.W.Fast.tw13397357564394122830 : True := True.intro
theorem PySem.W.Fast.tw15385105889534156443 : True := True.intro
theorem PySem.W.Fast.tw14733798283224261998 : True := True.intro
theorem PySem.W.Fast.tw2388803936812803127 : True := True.intro
theorem PySem.W.Fast.tw6340765626405749230 : True := True.intro
theorem PySem.W.Fast.tw4906754523783797799 : True := True.intro
theorem PySem.W.Fast.tw5907854931659695291 : True := True.intro
theorem PySem.W.Fast.tw2108286582962277815 : True := True.intro
theorem PySem.W.Fast.tw728248325612009996 : True := True.intro
theorem PySem.W.Fast.tw6659890322548707894 : True := True.intro
theorem PySem.W.Fast.tw9101749638618519167 : True := True.intro
theorem PySem.W.Fast.tw13584366412757956025 : True := True.intro
theorem PySem.W.Fast.tw18134698099368274247 : True := True.intro
theorem PySem.W.Fast.tw15266158168114829670 : True := True.intro
theorem PySem.W.Fast.tw11504613050824290917 : True := True.intro
theorem PySem.W.Fast.tw16893445258784308908 : True := True.intro
theorem PySem.W.Fast.tw10306110609081007279 : True := True.intro
theorem PySem.W.Fast.tw15290281430129332011 : True := True.intro
theorem PySem.W.Fast.tw16714397990056406537 : True := True.intro
theorem PySem.W.Fast.tw5774222947847037552 : True := True.intro
theorem PySem.W.Fast.tw2053689391879589962 : True := True.intro
theorem PySem.W.Fast.tw5061729743792666575 : True := True.intro
theorem PySem.W.Fast.tw9246175547677488078 : True := True.intro
theorem PySem.W.Fast.tw12518654962887249087 : True := True.intro
theorem PySem.W.Fast.tw11597779597232667026 : True := True.intro
theorem PySem.W.Fast.tw2402075040244553232 : True := True.intro
theorem PySem.W.Fast.tw12214581499484085911 : True := True.intro
theorem PySem.W.Fast.tw11464161215935295817 : True := True.intro
theorem PySem.W.Fast.tw2620717248385526988 : True := True.intro
theorem PySem.W.Fast.tw5704125029814883621 : True := True.intro
theorem PySem.W.Fast.tw17913200607802731834 : True := True.intro
theorem PySem.W.Fast.tw17097459149958308476 : True := True.intro
theorem PySem.W.Fast.tw17561798711645325307 : True := True.intro
theorem PySem.W.Fast.tw6898846946914855986 : True := True.intro
theorem PySem.W.Fast.tw3851246494438367066 : True := True.intro
theorem PySem.W.Fast.tw14111081530517728819 : True := True.intro
theorem PySem.W.Fast.tw2514587801828510373 : True := True.intro
theorem PySem.W.Fast.tw1611345860900377224 : True := True.intro
theorem PySem.W.Fast.tw18184607968491427699 : True := True.intro
theorem PySem.W.Fast.tw2971296600494937222 : True := True.intro
theorem PySem.W.Fast.tw1100179580747652886 : True := True.intro
theorem PySem.W.Fast.tw12691066702116502072 : True := True.intro
theorem PySem.W.Fast.tw3944694836129112053 : True := True.intro
theorem PySem.W.Fast.tw3709270589986497517 : True := True.intro
theorem PySem.W.Fast.tw1930148731875833789 : True := True.intro
theorem PySem.W.Fast.tw13561781266434182690 : True := True.intro
theorem PySem.W.Fast.tw1196190351187378823 : True := True.intro
theorem PySem.W.Fast.tw15426239594736029781 : True := True.intro
theorem PySem.W.Fast.tw17994713015091913698 : True := True.intro
theorem PySem.W.Fast.tw4575144077684266964 : True := True.intro
theorem PySem.W.Fast.tw14105646137936597766 : True := True.intro
theorem PySem.W.Fast.tw9776450879789923792 : True := True.intro
theorem PySem.W.Fast.tw978216977733346082 : True := True.intro
theorem PySem.W.Fast.tw2178839208587989287 : True := True.intro
theorem PySem.W.Fast.tw345598768991015506 : True := True.intro
theorem PySem.W.Fast.tw9925155255309876400 : True := True.intro
theorem PySem.W.Fast.tw15653093354681082471 : True := True.intro
theorem PySem.W.Fast.tw14769655503218667585 : True := True.intro
theorem PySem.W.Fast.tw16879893350728863268 : True := True.intro
theorem PySem.W.Fast.tw8483789724528786294 : True := True.intro
theorem PySem.W.Fast.tw6549873221293423110 : True := True.intro
theorem PySem.W.Fast.tw17816413545168042880 : True := True.intro
theorem PySem.W.Fast.tw1183346458453923978 : True := True.intro
theorem PySem.W.Fast.tw7270951582509672646 : True := True.intro
theorem PySem.W.Fast.tw15384470803238456285 : True := True.intro
theorem PySem.W.Fast.tw6454509298966348537 : True := True.intro
theorem PySem.W.Fast.tw13963904571009262325 : True := True.intro
theorem PySem.W.Fast.tw9181436538322719442 : True := True.intro
theorem PySem.W.Fast.tw13556358188351312890 : True := True.intro
theorem PySem.W.Fast.tw5710086915519167522 : True := True.intro
theorem PySem.W.Fast.tw13563367400635944392 : True := True.intro
theorem PySem.W.Fast.tw15579945723057808152 : True := True.intro
theorem PySem.W.Fast.tw3568013238347101469 : True := True.intro
theorem PySem.W.Fast.tw6353876054390221801 : True := True.intro
theorem PySem.W.Fast.tw12901557170777698571 : True := True.intro
theorem PySem.W.Fast.tw17473483622012267997 : True := True.intro
theorem PySem.W.Fast.tw4419758027573064176 : True := True.intro
theorem PySem.W.Fast.tw8039042890345127336 : True := True.intro
theorem PySem.W.Fast.tw17916931378292118457 : True := True.intro
theorem PySem.W.Fast.tw11390872529609934583 : True := True.intro
theorem PySem.W.Fast.tw3249444636652546321 : True := True.intro
theorem PySem.W.Fast.tw18239762310318973924 : True := True.intro
theorem PySem.W.Fast.tw13352296209386478996 : True := True.intro
theorem PySem.W.Fast.tw14619470984869456563 : True := True.intro
theorem PySem.W.Fast.tw6161098363682909305 : True := True.intro
theorem PySem.W.Fast.tw9556130682626627943 : True := True.intro
theorem PySem.W.Fast.tw16295528285294694498 : True := True.intro
theorem PySem.W.Fast.tw7361728798807601022 : True := True.intro
theorem PySem.W.Fast.tw11524519261866465739 : True := True.intro
theorem PySem.W.Fast.tw8499990102758594938 : True := True.intro
theorem PySem.W.Fast.tw15718873962717123623 : True := True.intro
theorem PySem.W.Fast.tw9734404531642611958 : True := True.intro
theorem PySem.W.Fast.tw7780697669404112312 : True := True.intro
theorem PySem.W.Fast.tw9194273310232903367 : True := True.intro
theorem PySem.W.Fast.tw4360415110017282934 : True := True.intro
theorem PySem.W.Fast.tw13451609391169063532 : True := True.intro
theorem PySem.W.Fast.tw8418830002443395224 : True := True.intro
theorem PySem.W.Fast.tw13542680512398115638 : True := True.intro
theorem PySem.W.Fast.tw15502492173242490186 : True := True.intro
theorem PySem.W.Fast.tw11836079208616130723 : True := True.intro
theorem PySem.W.Fast.tw2764238502000935763 : True := True.intro
theorem PySem.W.Fast.tw7511299237602236155 : True := True.intro
theorem PySem.W.Fast.tw5622596562512655176 : True := True.intro
theorem PySem.W.Fast.tw63057185251448660 : True := True.intro
theorem PySem.W.Fast.tw2563345651240567635 : True := True.intro
theorem PySem.W.Fast.tw2003871813297140650 : True := True.intro
theorem PySem.W.Fast.tw18231732205126684324 : True := True.intro
theorem PySem.W.Fast.tw5198473002250929782 : True := True.intro
theorem PySem.W.Fast.tw11242795735383635410 : True := True.intro
theorem PySem.W.Fast.tw16708172470845887451 : True := True.intro
theorem PySem.W.Fast.tw5385524519475154975 : True := True.intro
theorem PySem.W.Fast.tw923144980247448301 : True := True.intro
theorem PySem.W.Fast.tw16454453559201437150 : True := True.intro
theorem PySem.W.Fast.tw2463500562712550909 : True := True.intro
theorem PySem.W.Fast.tw9882677201407077525 : True := True.intro
theorem PySem.W.Fast.tw3618965570595655891 : True := True.intro
theorem PySem.W.Fast.tw5368636485620765816 : True := True.intro
theorem PySem.W.Fast.tw16829759193014228826 : True := True.intro
theorem PySem.W.Fast.tw13268002657767900646 : True := True.intro
theorem PySem.W.Fast.tw15698393509271388218 : True := True.intro
theorem PySem.W.Fast.tw5140978914107945779 : True := True.intro
theorem PySem.W.Fast.tw13857489340971222697 : True := True.intro
theorem PySem.W.Fast.tw14120984434094133389 : True := True.intro
theorem PySem.W.Fast.tw16428552720838225671 : True := True.intro
theorem PySem.W.Fast.tw1267937040588232606 : True := True.intro
theorem PySem.W.Fast.tw4943339472655922198 : True := True.intro
theorem PySem.W.Fast.tw11892976769249606052 : True := True.intro
theorem PySem.W.Fast.tw13184551696837198214 : True := True.intro
theorem PySem.W.Fast.tw10671723682837995001 : True := True.intro
theorem PySem.W.Fast.tw5847738591733005772 : True := True.intro
theorem PySem.W.Fast.tw2791355942091631162 : True := True.intro
theorem PySem.W.Fast.tw2329001010414063628 : True := True.intro
theorem PySem.W.Fast.tw16095287496811464455 : True := True.intro
theorem PySem.W.Fast.tw2009805120401841021 : True := True.intro
theorem PySem.W.Fast.tw17958137461818760574 : True := True.intro
theorem PySem.W.Fast.tw10311842672415529332 : True := True.intro
theorem PySem.W.Fast.tw17188950948792530970 : True := True.intro
theorem PySem.W.Fast.tw10760371985707965325 : True := True.intro
theorem PySem.W.Fast.tw5547613921665678322 : True := True.intro
theorem PySem.W.Fast.tw9229880885002341008 : True := True.intro
theorem PySem.W.Fast.tw891524131505617675 : True := True.intro
theorem PySem.W.Fast.tw10054057170689061305 : True := True.intro
theorem PySem.W.Fast.tw17158761227769406779 : True := True.intro
theorem PySem.W.Fast.tw857207675933786600 : True := True.intro
theorem PySem.W.Fast.tw15344063942671303558 : True := True.intro
theorem PySem.W.Fast.tw9603485920698613390 : True := True.intro
theorem PySem.W.Fast.tw6590487102618860558 : True := True.intro
theorem PySem.W.Fast.tw2956792655286735449 : True := True.intro
theorem PySem.W.Fast.tw4320577479292225800 : True := True.intro
theorem PySem.W.Fast.tw5178895470808241640 : True := True.intro
theorem PySem.W.Fast.tw3048455521299735950 : True := True.intro
theorem PySem.W.Fast.tw1001525159991335712 : True := True.intro
theorem PySem.W.Fast.tw2154625254871464449 : True := True.intro
theorem PySem.W.Fast.tw15691969568103198687 : True := True.intro
theorem PySem.W.Fast.tw1788598949078774484 : True := True.intro
theorem PySem.W.Fast.tw11173545465683565523 : True := True.intro
theorem PySem.W.Fast.tw1075318530989928494 : True := True.intro
theorem PySem.W.Fast.tw16820088611181593699 : True := True.intro
theorem PySem.W.Fast.tw4762933061748497720 : True := True.intro
theorem PySem.W.Fast.tw1608180890465761371 : True := True.intro
theorem PySem.W.Fast.tw9716787846695972923 : True := True.intro
theorem PySem.W.Fast.tw6197953936247017350 : True := True.intro
theorem PySem.W.Fast.tw12282295985352308676 : True := True.intro
theorem PySem.W.Fast.tw7178769177871741589 : True := True.intro
theorem PySem.W.Fast.tw6324933400026607273 : True := True.intro
theorem PySem.W.Fast.tw6051419044460636067 : True := True.intro
theorem PySem.W.Fast.tw4955182758602563040 : True := True.intro
theorem PySem.W.Fast.tw4273499000986421695 : True := True.intro
theorem PySem.W.Fast.tw15756768974797959725 : True := True.intro
theorem PySem.W.Fast.tw4502165190308804071 : True := True.intro
theorem PySem.W.Fast.tw1278575219669986820 : True := True.intro
theorem PySem.W.Fast.tw4075086382600266638 : True := True.intro
theorem PySem.W.Fast.tw6264268152578046242 : True := True.intro
theorem PySem.W.Fast.tw10563802175642784213 : True := True.intro
theorem PySem.W.Fast.tw5083131902902808642 : True := True.intro
theorem PySem.W.Fast.tw7671153346104624172 : True := True.intro
theorem PySem.W.Fast.tw5601627247612896468 : True := True.intro
theorem PySem.W.Fast.tw4969935976950659161 : True := True.intro
theorem PySem.W.Fast.tw15956286957097688079 : True := True.intro
theorem PySem.W.Fast.tw13089113415124840102 : True := True.intro
theorem PySem.W.Fast.tw434251421729446768 : True := True.intro
theorem PySem.W.Fast.tw3761177965765535890 : True := True.intro
theorem PySem.W.Fast.tw8267731126851765166 : True := True.intro
theorem PySem.W.Fast.tw3142736585939164281 : True := True.intro
theorem PySem.W.Fast.tw9712624329204238146 : True := True.intro
theorem PySem.W.Fast.tw410314879521925387 : True := True.intro
theorem PySem.W.Fast.tw14027199875687633000 : True := True.intro
theorem PySem.W.Fast.tw9990561975243798614 : True := True.intro
theorem PySem.W.Fast.tw4796684319617682624 : True := True.intro
theorem PySem.W.Fast.tw9943435693354494648 : True := True.intro
theorem PySem.W.Fast.tw4814643841503768279 : True := True.intro
theorem PySem.W.Fast.tw10468894922297898037 : True := True.intro
theorem PySem.W.Fast.tw17925049360797261683 : True := True.intro
theorem PySem.W.Fast.tw4310682335920646765 : True := True.intro
theorem PySem.W.Fast.tw5222566121651451993 : True := True.intro
theorem PySem.W.Fast.tw8024121796330591675 : True := True.intro
theorem PySem.W.Fast.tw14380415770583607097 : True := True.intro
theorem PySem.W.Fast.tw2521398604902858449 : True := True.intro
theorem PySem.W.Fast.tw3923638841008956505 : True := True.intro
theorem PySem.W.Fast.tw8621160253445211484 : True := True.intro
theorem PySem.W.Fast.tw2441115660657754514 : True := True.intro
theorem PySem.W.Fast.tw2387767688673674771 : True := True.intro
theorem PySem.W.Fast.tw6769017378049019771 : True := True.intro
theorem PySem.W.Fast.tw1844753784167322935 : True := True.intro
theorem PySem.W.Fast.tw2566135873628204314 : True := True.intro
theorem PySem.W.Fast.tw10802671339288843392 : True := True.intro
theorem PySem.W.Fast.tw6185805612954989151 : True := True.intro
theorem PySem.W.Fast.tw10794703027991649002 : True := True.intro
theorem PySem.W.Fast.tw10917296889553976314 : True := True.intro
theorem PySem.W.Fast.tw3777243101367049791 : True := True.intro
theorem PySem.W.Fast.tw15028631869227052450 : True := True.intro
theorem PySem.W.Fast.tw11757065631664685718 : True := True.intro
theorem PySem.W.Fast.tw7587569583414375300 : True := True.intro
theorem PySem.W.Fast.tw60686399949327869 : True := True.intro
theorem PySem.W.Fast.tw13586160984702383250 : True := True.intro
theorem PySem.W.Fast.tw1894171663336025339 : True := True.intro
theorem PySem.W.Fast.tw14381237599981261200 : True := True.intro
theorem PySem.W.Fast.tw16740810311348906294 : True := True.intro
theorem PySem.W.Fast.tw17077907290271975445 : True := True.intro
theorem PySem.W.Fast.tw6677981952344507602 : True := True.intro
theorem PySem.W.Fast.tw6892111973893322748 : True := True.intro
theorem PySem.W.Fast.tw14407103608695687562 : True := True.intro
theorem PySem.W.Fast.tw13282559860591768204 : True := True.intro
theorem PySem.W.Fast.tw3873434141006473840 : True := True.intro
theorem PySem.W.Fast.tw4759724363331044054 : True := True.intro
theorem PySem.W.Fast.tw16896729144392522779 : True := True.intro
theorem PySem.W.Fast.tw540168891691113061 : True := True.intro
theorem PySem.W.Fast.tw7095808293439467644 : True := True.intro
theorem PySem.W.Fast.tw1460651637133658970 : True := True.intro
theorem PySem.W.Fast.tw17761927335757675541 : True := True.intro
theorem PySem.W.Fast.tw13963941323844027652 : True := True.intro
theorem PySem.W.Fast.tw8158259306549260814 : True := True.intro
theorem PySem.W.Fast.tw749752322575258465 : True := True.intro
theorem PySem.W.Fast.tw11835336365701786737 : True := True.intro
theorem PySem.W.Fast.tw8414442598502194883 : True := True.intro
theorem PySem.W.Fast.tw1839181726997470637 : True := True.intro
theorem PySem.W.Fast.tw13117411254414264246 : True := True.intro
theorem PySem.W.Fast.tw10701114978604106926 : True := True.intro
theorem PySem.W.Fast.tw974176066519339560 : True := True.intro
theorem PySem.W.Fast.tw504617144953717679 : True := True.intro
theorem PySem.W.Fast.tw5779073434363679381 : True := True.intro
theorem PySem.W.Fast.tw11200308697834615986 : True := True.intro
theorem PySem.W.Fast.tw79242825057590565 : True := True.intro
theorem PySem.W.Fast.tw4642863819888552559 : True := True.intro
theorem PySem.W.Fast.tw12169302341728497118 : True := True.intro
theorem PySem.W.Fast.tw11381289496349434634 : True := True.intro
theorem PySem.W.Fast.tw11287259908331938752 : True := True.intro
theorem PySem.W.Fast.tw5908856609896433834 : True := True.intro
theorem PySem.W.Fast.tw14711773961098619236 : True := True.intro
theorem PySem.W.Fast.tw5993657695926719630 : True := True.intro
theorem PySem.W.Fast.tw7560221342131715481 : True := True.intro
theorem PySem.W.Fast.tw10070738828732367857 : True := True.intro
theorem PySem.W.Fast.tw367364916141677322 : True := True.intro
theorem PySem.W.Fast.tw8676439060922775516 : True := True.intro
theorem PySem.W.Fast.tw4995885158584870731 : True := True.intro
theorem PySem.W.Fast.tw11636559010247867143 : True := True.intro
theorem PySem.W.Fast.tw14229599870748718340 : True := True.intro
theorem PySem.W.Fast.tw13802227842516696883 : True := True.intro
theorem PySem.W.Fast.tw14482004263778125239 : True := True.intro
theorem PySem.W.Fast.tw416788346640581783 : True := True.intro
theorem PySem.W.Fast.tw13607418896467921586 : True := True.intro
theorem PySem.W.Fast.tw653048293586669223 : True := True.intro
theorem PySem.W.Fast.tw5571451322430433712 : True := True.intro
theorem PySem.W.Fast.tw5157546888638408242 : True := True.intro
theorem PySem.W.Fast.tw7057722786563913500 : True := True.intro
theorem PySem.W.Fast.tw7686861880246298100 : True := True.intro
theorem PySem.W.Fast.tw7398198367824648517 : True := True.intro
theorem PySem.W.Fast.tw11894493146944366972 : True := True.intro
theorem PySem.W.Fast.tw14716944813315541087 : True := True.intro
theorem PySem.W.Fast.tw11193323130786456339 : True := True.intro
theorem PySem.W.Fast.tw15657808188065595409 : True := True.intro
theorem PySem.W.Fast.tw8076320875562508916 : True := True.intro
theorem PySem.W.Fast.tw8753458095597540980 : True := True.intro
theorem PySem.W.Fast.tw15430800397567441616 : True := True.intro
theorem PySem.W.Fast.tw3835367608318866401 : True := True.intro
theorem PySem.W.Fast.tw9351322976677697206 : True := True.intro
theorem PySem.W.Fast.tw3563145400557457791 : True := True.intro
theorem PySem.W.Fast.tw6756216575451908598 : True := True.intro
theorem PySem.W.Fast.tw16416879039614475707 : True := True.intro
theorem PySem.W.Fast.tw3219771456700298934 : True := True.intro
theorem PySem.W.Fast.tw9846099847209976425 : True := True.intro
theorem PySem.W.Fast.tw12476304826212709605 : True := True.intro
theorem PySem.W.Fast.tw14914823159133164163 : True := True.intro
theorem PySem.W.Fast.tw17880405387125351802 : True := True.intro
theorem PySem.W.Fast.tw6261040961812862899 : True := True.intro
theorem PySem.W.Fast.tw10222511824607263168 : True := True.intro
theorem PySem.W.Fast.tw14116349430865771089 : True := True.intro
theorem PySem.W.Fast.tw4695949573942953567 : True := True.intro
theorem PySem.W.Fast.tw4143373244712988838 : True := True.intro
theorem PySem.W.Fast.tw15281002814589701806 : True := True.intro
theorem PySem.W.Fast.tw15663551189593948068 : True := True.intro
theorem PySem.W.Fast.tw11441568871837024240 : True := True.intro
theorem PySem.W.Fast.tw5258486341302562151 : True := True.intro
theorem PySem.W.Fast.tw6196475083740205565 : True := True.intro
theorem PySem.W.Fast.tw9581979429765048738 : True := True.intro
theorem PySem.W.Fast.tw2331120507826077216 : True := True.intro
theorem PySem.W.Fast.tw1786826919129070443 : True := True.intro
theorem PySem.W.Fast.tw5649653901963875048 : True := True.intro
theorem PySem.W.Fast.tw5608235424283925503 : True := True.intro
theorem PySem.W.Fast.tw12590426198999117036 : True := True.intro
theorem PySem.W.Fast.tw8154743776950386867 : True := True.intro
theorem PySem.W.Fast.tw5630897052842068883 : True := True.intro
theorem PySem.W.Fast.tw15194595008595572006 : True := True.intro
theorem PySem.W.Fast.tw3880852850672418856 : True := True.intro
theorem PySem.W.Fast.tw11980290266992174634 : True := True.intro
theorem PySem.W.Fast.tw11310903588455655246 : True := True.intro
theorem PySem.W.Fast.tw2864188791861852598 : True := True.intro
theorem PySem.W.Fast.tw9416900889584975296 : True := True.intro
theorem PySem.W.Fast.tw933994576098060852 : True := True.intro
theorem PySem.W.Fast.tw16377086828372102732 : True := True.intro
theorem PySem.W.Fast.tw15904052112469253230 : True := True.intro
theorem PySem.W.Fast.tw6452150284881612179 : True := True.intro
theorem PySem.W.Fast.tw18227042467972898237 : True := True.intro
theorem PySem.W.Fast.tw14310266359569988483 : True := True.intro
theorem PySem.W.Fast.tw8595397357738733964 : True := True.intro
theorem PySem.W.Fast.tw3509328701552621606 : True := True.intro
theorem PySem.W.Fast.tw13658671658197630307 : True := True.intro
theorem PySem.W.Fast.tw7685916561828937226 : True := True.intro
theorem PySem.W.Fast.tw8279037775577017705 : True := True.intro
theorem PySem.W.Fast.tw3896482662574006545 : True := True.intro
theorem PySem.W.Fast.tw166631055826601394 : True := True.intro
theorem PySem.W.Fast.tw15625985655973629612 : True := True.intro
theorem PySem.W.Fast.tw1910532857083447126 : True := True.intro
theorem PySem.W.Fast.tw14154026581288003312 : True := True.intro
theorem PySem.W.Fast.tw16811686406464035886 : True := True.intro
theorem PySem.W.Fast.tw10948566386329081636 : True := True.intro
theorem PySem.W.Fast.tw11282520970540036366 : True := True.intro
theorem PySem.W.Fast.tw3477182320002892627 : True := True.intro
theorem PySem.W.Fast.tw7877082822022416774 : True := True.intro
theorem PySem.W.Fast.tw5173006618317406833 : True := True.intro
theorem PySem.W.Fast.tw17089423642419561284 : True := True.intro
theorem PySem.W.Fast.tw980521418958039923 : True := True.intro
theorem PySem.W.Fast.tw3823748725335614393 : True := True.intro
theorem PySem.W.Fast.tw325802505467243435 : True := True.intro
theorem PySem.W.Fast.tw10616734029863266363 : True := True.intro
theorem PySem.W.Fast.tw2060869402407145412 : True := True.intro
theorem PySem.W.Fast.tw15350203384154581378 : True := True.intro
theorem PySem.W.Fast.tw7066853353122663995 : True := True.intro
theorem PySem.W.Fast.tw16512572139189030037 : True := True.intro
theorem PySem.W.Fast.tw6216277588410736684 : True := True.intro
theorem PySem.W.Fast.tw4892491921338967780 : True := True.intro
theorem PySem.W.Fast.tw14610918518418791831 : True := True.intro
theorem PySem.W.Fast.tw9813462872987763259 : True := True.intro
theorem PySem.W.Fast.tw1326548239478611173 : True := True.intro
theorem PySem.W.Fast.tw7265365225388749423 : True := True.intro
theorem PySem.W.Fast.tw17658496919666991815 : True := True.intro
theorem PySem.W.Fast.tw8249790156634586554 : True := True.intro
theorem PySem.W.Fast.tw12150016668212150126 : True := True.intro
theorem PySem.W.Fast.tw8679702530537430653 : True := True.intro
theorem PySem.W.Fast.tw2277352887003874921 : True := True.intro
theorem PySem.W.Fast.tw9145721579921298307 : True := True.intro
theorem PySem.W.Fast.tw1875585462804939200 : True := True.intro
theorem PySem.W.Fast.tw9289127274226815280 : True := True.intro
theorem PySem.W.Fast.tw3362554253174751394 : True := True.intro
theorem PySem.W.Fast.tw13588922010985938564 : True := True.intro
theorem PySem.W.Fast.tw4887641411253787190 : True := True.intro
theorem PySem.W.Fast.tw7406390425786017613 : True := True.intro
theorem PySem.W.Fast.tw96272767387412082 : True := True.intro
theorem PySem.W.Fast.tw6881657433494963053 : True := True.intro
theorem PySem.W.Fast.tw12353689276488918240 : True := True.intro
theorem PySem.W.Fast.tw13868809354341803769 : True := True.intro
theorem PySem.W.Fast.tw87522833466898622 : True := True.intro
theorem PySem.W.Fast.tw6213754669480528629 : True := True.intro
theorem PySem.W.Fast.tw8467434515848874720 : True := True.intro
theorem PySem.W.Fast.tw8598171089031088844 : True := True.intro
theorem PySem.W.Fast.tw1020726735054726316 : True := True.intro
theorem PySem.W.Fast.tw14641107081082214640 : True := True.intro
theorem PySem.W.Fast.tw11031294133756282665 : True := True.intro
theorem PySem.W.Fast.tw11784240676742663823 : True := True.intro
theorem PySem.W.Fast.tw10090767174383588924 : True := True.intro
theorem PySem.W.Fast.tw5048223693929081210 : True := True.intro
theorem PySem.W.Fast.tw9429849853863531909 : True := True.intro
theorem PySem.W.Fast.tw4493850124080523082 : True := True.intro
theorem PySem.W.Fast.tw15695111228273813727 : True := True.intro
theorem PySem.W.Fast.tw3397559048222641565 : True := True.intro
theorem PySem.W.Fast.tw3449189518200190254 : True := True.intro
theorem PySem.W.Fast.tw2438071645257782211 : True := True.intro
theorem PySem.W.Fast.tw3000678572928237332 : True := True.intro
theorem PySem.W.Fast.tw1971799415157030175 : True := True.intro
theorem PySem.W.Fast.tw12061542040761093913 : True := True.intro
theorem PySem.W.Fast.tw11022995606383481525 : True := True.intro
theorem PySem.W.Fast.tw2442065492580258068 : True := True.intro
theorem PySem.W.Fast.tw13241468611750964008 : True := True.intro
theorem PySem.W.Fast.tw12460492522854544621 : True := True.intro
theorem PySem.W.Fast.tw6427014226199401851 : True := True.intro
theorem PySem.W.Fast.tw10206667019666223649 : True := True.intro
theorem PySem.W.Fast.tw14230745849381236897 : True := True.intro
theorem PySem.W.Fast.tw5805870652561551739 : True := True.intro
theorem PySem.W.Fast.tw12837965046692014539 : True := True.intro
theorem PySem.W.Fast.tw194954854181273161 : True := True.intro
theorem PySem.W.Fast.tw6102291283516920073 : True := True.intro
theorem PySem.W.Fast.tw16745513961066355382 : True := True.intro
theorem PySem.W.Fast.tw17221791670141519445 : True := True.intro
theorem PySem.W.Fast.tw8849119634998699388 : True := True.intro
theorem PySem.W.Fast.tw11710591491732686047 : True := True.intro
theorem PySem.W.Fast.tw11197954208695454252 : True := True.intro
theorem PySem.W.Fast.tw7336409790631241090 : True := True.intro
theorem PySem.W.Fast.tw8549866723678031246 : True := True.intro
theorem PySem.W.Fast.tw10171193379310591415 : True := True.intro
theorem PySem.W.Fast.tw10885098204394329374 : True := True.intro
theorem PySem.W.Fast.tw17339427606769162060 : True := True.intro
theorem PySem.W.Fast.tw1065160665061766958 : True := True.intro
theorem PySem.W.Fast.tw8730345733681994858 : True := True.intro
theorem PySem.W.Fast.tw9874895746234319230 : True := True.intro
theorem PySem.W.Fast.tw15604796567723937795 : True := True.intro
theorem PySem.W.Fast.tw17588162707470499835 : True := True.intro
theorem PySem.W.Fast.tw2671006245957068058 : True := True.intro
theorem PySem.W.Fast.tw12408576008406536909 : True := True.intro
theorem PySem.W.Fast.tw12893689555105750043 : True := True.intro
theorem PySem.W.Fast.tw919894714407906681 : True := True.intro
theorem PySem.W.Fast.tw17785957167625208057 : True := True.intro
theorem PySem.W.Fast.tw15692253624176813458 : True := True.intro
theorem PySem.W.Fast.tw6482464059719324705 : True := True.intro
theorem PySem.W.Fast.tw10934485886502837103 : True := True.intro
theorem PySem.W.Fast.tw13680387983989726737 : True := True.intro
theorem PySem.W.Fast.tw16852424596632041673 : True := True.intro
theorem PySem.W.Fast.tw14111854332802687726 : True := True.intro
theorem PySem.W.Fast.tw17728934058256917238 : True := True.intro
theorem PySem.W.Fast.tw11760752594970357616 : True := True.intro
theorem PySem.W.Fast.tw14472895457232630760 : True := True.intro
theorem PySem.W.Fast.tw15101024576090108099 : True := True.intro
theorem PySem.W.Fast.tw7960307231258004690 : True := True.intro
theorem PySem.W.Fast.tw3825643901687916181 : True := True.intro
theorem PySem.W.Fast.tw966343180782872318 : True := True.intro
theorem PySem.W.Fast.tw3890267654633386246 : True := True.intro
theorem PySem.W.Fast.tw12556158885528546660 : True := True.intro
theorem PySem.W.Fast.tw7021089559684327628 : True := True.intro
theorem PySem.W.Fast.tw17521730090298123451 : True := True.intro
theorem PySem.W.Fast.tw8467884234620266280 : True := True.intro
theorem PySem.W.Fast.tw6906333790326773482 : True := True.intro
theorem PySem.W.Fast.tw16965264799044291412 : True := True.intro
theorem PySem.W.Fast.tw6266376924360795549 : True := True.intro
theorem PySem.W.Fast.tw11555702020065867595 : True := True.intro
theorem PySem.W.Fast.tw11196187020347924417 : True := True.intro
theorem PySem.W.Fast.tw8421729997150204527 : True := True.intro
theorem PySem.W.Fast.tw6422867872999896314 : True := True.intro
theorem PySem.W.Fast.tw12358829157145947158 : True := True.intro
theorem PySem.W.Fast.tw3933178487768382730 : True := True.intro
theorem PySem.W.Fast.tw7970585436616675442 : True := True.intro
theorem PySem.W.Fast.tw6929848033690454221 : True := True.intro
theorem PySem.W.Fast.tw5340466667682870318 : True := True.intro
theorem PySem.W.Fast.tw7027698496748010715 : True := True.intro
theorem PySem.W.Fast.tw2217004083426153893 : True := True.intro
theorem PySem.W.Fast.tw8203581771321429387 : True := True.intro
theorem PySem.W.Fast.tw3295629034329850160 : True := True.intro
theorem PySem.W.Fast.tw15172979418213916175 : True := True.intro
theorem PySem.W.Fast.tw10840557724014557519 : True := True.intro
theorem PySem.W.Fast.tw3894054922653927615 : True := True.intro
theorem PySem.W.Fast.tw3283662403103010750 : True := True.intro
theorem PySem.W.Fast.tw11960448141206938546 : True := True.intro
theorem PySem.W.Fast.tw3089974389088851833 : True := True.intro
theorem PySem.W.Fast.tw14063050763367576815 : True := True.intro
theorem PySem.W.Fast.tw12445203887123882940 : True := True.intro
theorem PySem.W.Fast.tw14383548983916087026 : True := True.intro
theorem PySem.W.Fast.tw10259074599724905191 : True := True.intro
theorem PySem.W.Fast.tw172099109601287670 : True := True.intro
theorem PySem.W.Fast.tw12923580139939585753 : True := True.intro
theorem PySem.W.Fast.tw7803143418292734829 : True := True.intro
theorem PySem.W.Fast.tw5936353478535685899 : True := True.intro
theorem PySem.W.Fast.tw10225121152824650788 : True := True.intro
theorem PySem.W.Fast.tw11041354128435685808 : True := True.intro
theorem PySem.W.Fast.tw3172353092400252028 : True := True.intro
theorem PySem.W.Fast.tw10153612204730757278 : True := True.intro
theorem PySem.W.Fast.tw494247148912655125 : True := True.intro
theorem PySem.W.Fast.tw16099053924071968058 : True := True.intro
theorem PySem.W.Fast.tw3674180534978582900 : True := True.intro
theorem PySem.W.Fast.tw5671026686893975839 : True := True.intro
theorem PySem.W.Fast.tw671958793196366187 : True := True.intro
theorem PySem.W.Fast.tw7856814305582831839 : True := True.intro
theorem PySem.W.Fast.tw16726555150442095522 : True := True.intro
theorem PySem.W.Fast.tw16581872378987149819 : True := True.intro
theorem PySem.W.Fast.tw7656026669823833214 : True := True.intro
theorem PySem.W.Fast.tw18019220529976700146 : True := True.intro
theorem PySem.W.Fast.tw6673508088246573456 : True := True.intro
theorem PySem.W.Fast.tw2766789875186899559 : True := True.intro
theorem PySem.W.Fast.tw9693244741294835064 : True := True.intro
theorem PySem.W.Fast.tw12591731400726774118 : True := True.intro
theorem PySem.W.Fast.tw15348157560695572059 : True := True.intro
theorem PySem.W.Fast.tw16089172220270546500 : True := True.intro
theorem PySem.W.Fast.tw7596836958892658479 : True := True.intro
theorem PySem.W.Fast.tw14800828519489350386 : True := True.intro
theorem PySem.W.Fast.tw817016484158571269 : True := True.intro
theorem PySem.W.Fast.tw8641620484365781411 : True := True.intro
theorem PySem.W.Fast.tw8571111329193126124 : True := True.intro
theorem PySem.W.Fast.tw11721109844228605742 : True := True.intro
theorem PySem.W.Fast.tw7162480020053113936 : True := True.intro
theorem PySem.W.Fast.tw9054669588551417300 : True := True.intro
theorem PySem.W.Fast.tw11045923861631607622 : True := True.intro
theorem PySem.W.Fast.tw16654563381460554598 : True := True.intro
theorem PySem.W.Fast.tw7748616414564651204 : True := True.intro
theorem PySem.W.Fast.tw724805732962633800 : True := True.intro
theorem PySem.W.Fast.tw4212455388475545203 : True := True.intro
theorem PySem.W.Fast.tw9545692336182094658 : True := True.intro
theorem PySem.W.Fast.tw4863406554372027575 : True := True.intro
theorem PySem.W.Fast.tw12988973611493031630 : True := True.intro
theorem PySem.W.Fast.tw3949584564055043444 : True := True.intro
theorem PySem.W.Fast.tw866768810981783187 : True := True.intro
theorem PySem.W.Fast.tw1246918669853547410 : True := True.intro
theorem PySem.W.Fast.tw16808718302917711101 : True := True.intro
theorem PySem.W.Fast.tw10005399032357046665 : True := True.intro
theorem PySem.W.Fast.tw11422355178433371172 : True := True.intro
theorem PySem.W.Fast.tw6959877428755507347 : True := True.intro
theorem PySem.W.Fast.tw5887208464293584912 : True := True.intro
theorem PySem.W.Fast.tw464348063967538304 : True := True.intro
theorem PySem.W.Fast.tw10680647586441152666 : True := True.intro
theorem PySem.W.Fast.tw3900196130542331549 : True := True.intro
theorem PySem.W.Fast.tw9545574473178080272 : True := True.intro
theorem PySem.W.Fast.tw9647605261978258769 : True := True.intro
theorem PySem.W.Fast.tw2816360664811099274 : True := True.intro
theorem PySem.W.Fast.tw15809280772015080920 : True := True.intro
theorem PySem.W.Fast.tw3889843055316620529 : True := True.intro
theorem PySem.W.Fast.tw13121080740830985092 : True := True.intro
theorem PySem.W.Fast.tw14633382197813212154 : True := True.intro
theorem PySem.W.Fast.tw2186897232562506000 : True := True.intro
theorem PySem.W.Fast.tw18067871964448031073 : True := True.intro
theorem PySem.W.Fast.tw6634963771301715229 : True := True.intro
theorem PySem.W.Fast.tw13429838377003582667 : True := True.intro
theorem PySem.W.Fast.tw9174403389458568538 : True := True.intro
theorem PySem.W.Fast.tw10325845300150773462 : True := True.intro
theorem PySem.W.Fast.tw11213124369243218524 : True := True.intro
theorem PySem.W.Fast.tw3677218131665036332 : True := True.intro
theorem PySem.W.Fast.tw17384172842585913915 : True := True.intro
theorem PySem.W.Fast.tw16080170437720811066 : True := True.intro
theorem PySem.W.Fast.tw8541337576958044529 : True := True.intro
theorem PySem.W.Fast.tw4343434320891109555 : True := True.intro
theorem PySem.W.Fast.tw12056083105707832924 : True := True.intro
theorem PySem.W.Fast.tw16152415167902572720 : True := True.intro
theorem PySem.W.Fast.tw7356611351999888015 : True := True.intro
theorem PySem.W.Fast.tw11460750577342610998 : True := True.intro
theorem PySem.W.Fast.tw9652233379154223822 : True := True.intro
theorem PySem.W.Fast.tw10835020728170937237 : True := True.intro
theorem PySem.W.Fast.tw10681519672486337702 : True := True.intro
theorem PySem.W.Fast.tw11510105973392523350 : True := True.intro
theorem PySem.W.Fast.tw10483353626197995194 : True := True.intro
theorem PySem.W.Fast.tw10967606984668868851 : True := True.intro
theorem PySem.W.Fast.tw13072138967272640185 : True := True.intro
theorem PySem.W.Fast.tw5546670611732062731 : True := True.intro
theorem PySem.W.Fast.tw6803537202828918267 : True := True.intro
theorem PySem.W.Fast.tw4168563103880714348 : True := True.intro
theorem PySem.W.Fast.tw8460798429132495766 : True := True.intro
theorem PySem.W.Fast.tw3965971426611893491 : True := True.intro
theorem PySem.W.Fast.tw684420587708026930 : True := True.intro
theorem PySem.W.Fast.tw3660831914947140497 : True := True.intro
theorem PySem.W.Fast.tw17982222028662372224 : True := True.intro
theorem PySem.W.Fast.tw15628018241970207266 : True := True.intro
theorem PySem.W.Fast.tw10318557852401423844 : True := True.intro
theorem PySem.W.Fast.tw16009554409459671624 : True := True.intro
theorem PySem.W.Fast.tw3626070748519066380 : True := True.intro
theorem PySem.W.Fast.tw1059770956394847545 : True := True.intro
theorem PySem.W.Fast.tw2142920585740424278 : True := True.intro
theorem PySem.W.Fast.tw16490541009219777021 : True := True.intro
theorem PySem.W.Fast.tw11053420397395750430 : True := True.intro
theorem PySem.W.Fast.tw5072431452675797255 : True := True.intro
theorem PySem.W.Fast.tw17997628959359368562 : True := True.intro
theorem PySem.W.Fast.tw17125488838691716645 : True := True.intro
theorem PySem.W.Fast.tw4946297990933133528 : True := True.intro
theorem PySem.W.Fast.tw5035043619878340547 : True := True.intro
theorem PySem.W.Fast.tw11238075363190077080 : True := True.intro
theorem PySem.W.Fast.tw14260457961305342237 : True := True.intro
theorem PySem.W.Fast.tw15615767804467904035 : True := True.intro
theorem PySem.W.Fast.tw9467439721059329445 : True := True.intro
theorem PySem.W.Fast.tw2319593410675334397 : True := True.intro
theorem PySem.W.Fast.tw15176282958817856803 : True := True.intro
theorem PySem.W.Fast.tw5812074422705033335 : True := True.intro
theorem PySem.W.Fast.tw12792811185795981051 : True := True.intro
theorem PySem.W.Fast.tw7336677037320519102 : True := True.intro
theorem PySem.W.Fast.tw7498410025285732633 : True := True.intro
theorem PySem.W.Fast.tw14635017600205090563 : True := True.intro
theorem PySem.W.Fast.tw6211770704904787051 : True := True.intro
theorem PySem.W.Fast.tw9217113776020284116 : True := True.intro
theorem PySem.W.Fast.tw12760062377065710830 : True := True.intro
theorem PySem.W.Fast.tw14483755656186337566 : True := True.intro
theorem PySem.W.Fast.tw14842383658952649481 : True := True.intro
theorem PySem.W.Fast.tw8565534314328280724 : True := True.intro
theorem PySem.W.Fast.tw3107817778140399461 : True := True.intro
theorem PySem.W.Fast.tw10546354314743200570 : True := True.intro
theorem PySem.W.Fast.tw15331519815915234415 : True := True.intro
theorem PySem.W.Fast.tw14115351937080154554 : True := True.intro
theorem PySem.W.Fast.tw6160894147936701940 : True := True.intro
theorem PySem.W.Fast.tw6396822091980211002 : True := True.intro
theorem PySem.W.Fast.tw9883535897613691267 : True := True.intro
theorem PySem.W.Fast.tw6200779228683335239 : True := True.intro
theorem PySem.W.Fast.tw14008019766727410887 : True := True.intro
theorem PySem.W.Fast.tw10143940640299961214 : True := True.intro
theorem PySem.W.Fast.tw3703365355763150106 : True := True.intro
theorem PySem.W.Fast.tw11619862989462769107 : True := True.intro
theorem PySem.W.Fast.tw6935174445941092756 : True := True.intro
theorem PySem.W.Fast.tw11204882590223692385 : True := True.intro
theorem PySem.W.Fast.tw334720484605754585 : True := True.intro
theorem PySem.W.Fast.tw16927852869887616275 : True := True.intro
theorem PySem.W.Fast.tw12083065946202285640 : True := True.intro
theorem PySem.W.Fast.tw6792215021301732025 : True := True.intro
theorem PySem.W.Fast.tw6165690063110562602 : True := True.intro
theorem PySem.W.Fast.tw15850359720417066153 : True := True.intro
theorem PySem.W.Fast.tw4468678326194176794 : True := True.intro
theorem PySem.W.Fast.tw14052568570649597389 : True := True.intro
theorem PySem.W.Fast.tw4362795279467858306 : True := True.intro
theorem PySem.W.Fast.tw18206141572264852232 : True := True.intro
theorem PySem.W.Fast.tw546081888644008441 : True := True.intro
theorem PySem.W.Fast.tw9159456355743436701 : True := True.intro
theorem PySem.W.Fast.tw5398266193493978055 : True := True.intro
theorem PySem.W.Fast.tw5119503851349390880 : True := True.intro
theorem PySem.W.Fast.tw7490343982775601458 : True := True.intro
theorem PySem.W.Fast.tw4114501088003624521 : True := True.intro
theorem PySem.W.Fast.tw5461538836002614099 : True := True.intro
theorem PySem.W.Fast.tw5884304085038461477 : True := True.intro
theorem PySem.W.Fast.tw15219130694493432268 : True := True.intro
theorem PySem.W.Fast.tw17523551483466782564 : True := True.intro
theorem PySem.W.Fast.tw14517635351043539431 : True := True.intro
theorem PySem.W.Fast.tw675930977758667010 : True := True.intro
theorem PySem.W.Fast.tw10918851172782430532 : True := True.intro
theorem PySem.W.Fast.tw16138935962331484417 : True := True.intro
theorem PySem.W.Fast.tw17407911465891116966 : True := True.intro
theorem PySem.W.Fast.tw1986573672944516157 : True := True.intro
theorem PySem.W.Fast.tw17080766296829379909 : True := True.intro
theorem PySem.W.Fast.tw4829162418778059467 : True := True.intro
theorem PySem.W.Fast.tw12660799237369173861 : True := True.intro
theorem PySem.W.Fast.tw2699096381100738714 : True := True.intro
theorem PySem.W.Fast.tw6187729616222890936 : True := True.intro
theorem PySem.W.Fast.tw8561124725868930587 : True := True.intro
theorem PySem.W.Fast.tw15935989631338611144 : True := True.intro
theorem PySem.W.Fast.tw6958897610484951282 : True := True.intro
theorem PySem.W.Fast.tw2344181998846840635 : True := True.intro
theorem PySem.W.Fast.tw17624253526470151799 : True := True.intro
theorem PySem.W.Fast.tw16791476309703912407 : True := True.intro
theorem PySem.W.Fast.tw12825754047923211527 : True := True.intro
theorem PySem.W.Fast.tw13672766693097698859 : True := True.intro
theorem PySem.W.Fast.tw16952131733736202773 : True := True.intro
theorem PySem.W.Fast.tw17285351096316503637 : True := True.intro
theorem PySem.W.Fast.tw18251659312656239837 : True := True.intro
theorem PySem.W.Fast.tw13751346243303421087 : True := True.intro
theorem PySem.W.Fast.tw18160899448786781040 : True := True.intro
theorem PySem.W.Fast.tw11464849822479748065 : True := True.intro
theorem PySem.W.Fast.tw15454607528081281471 : True := True.intro
theorem PySem.W.Fast.tw2868965494820255974 : True := True.intro
theorem PySem.W.Fast.tw8459034441333042346 : True := True.intro
theorem PySem.W.Fast.tw10647747773057814887 : True := True.intro
theorem PySem.W.Fast.tw13515175485110247910 : True := True.intro
theorem PySem.W.Fast.tw2190161646238899096 : True := True.intro
theorem PySem.W.Fast.tw5060947606754787102 : True := True.intro
theorem PySem.W.Fast.tw10839699770110318786 : True := True.intro
theorem PySem.W.Fast.tw11404185738885001341 : True := True.intro
theorem PySem.W.Fast.tw4077602383012962472 : True := True.intro
theorem PySem.W.Fast.tw9237820126197048708 : True := True.intro
theorem PySem.W.Fast.tw14742303820978617385 : True := True.intro
theorem PySem.W.Fast.tw9465307511116541967 : True := True.intro
theorem PySem.W.Fast.tw14157336156396466507 : True := True.intro
theorem PySem.W.Fast.tw1146252799765251448 : True := True.intro
theorem PySem.W.Fast.tw9408555101459988557 : True := True.intro
theorem PySem.W.Fast.tw3727789059772486717 : True := True.intro
theorem PySem.W.Fast.tw5486045731978981094 : True := True.intro
theorem PySem.W.Fast.tw16201909222768005414 : True := True.intro
theorem PySem.W.Fast.tw7102304959661542257 : True := True.intro
theorem PySem.W.Fast.tw15835281540267297555 : True := True.intro
theorem PySem.W.Fast.tw17335400025571473994 : True := True.intro
theorem PySem.W.Fast.tw12438149247175997680 : True := True.intro
theorem PySem.W.Fast.tw6829142873388650002 : True := True.intro
theorem PySem.W.Fast.tw17151702921868378607 : True := True.intro
theorem PySem.W.Fast.tw16527955992461855420 : True := True.intro
theorem PySem.W.Fast.tw17499857614121017248 : True := True.intro
theorem PySem.W.Fast.tw14640866280218351244 : True := True.intro
theorem PySem.W.Fast.tw3883925973064532537 : True := True.intro
theorem PySem.W.Fast.tw16892795682741235511 : True := True.intro
theorem PySem.W.Fast.tw5863587066985057004 : True := True.intro
theorem PySem.W.Fast.tw11085089139641756613 : True := True.intro
theorem PySem.W.Fast.tw9199383477533650404 : True := True.intro
theorem PySem.W.Fast.tw15704317611090487577 : True := True.intro
theorem PySem.W.Fast.tw1429607940210900470 : True := True.intro
theorem PySem.W.Fast.tw2755995178328309850 : True := True.intro
theorem PySem.W.Fast.tw13558223980747294110 : True := True.intro
theorem PySem.W.Fast.tw10569159706572445254 : True := True.intro
theorem PySem.W.Fast.tw14479802172461295578 : True := True.intro
theorem PySem.W.Fast.tw8402990931393505563 : True := True.intro
theorem PySem.W.Fast.tw14767443644029746514 : True := True.intro
theorem PySem.W.Fast.tw17340137919764261821 : True := True.intro
theorem PySem.W.Fast.tw2362067205192737841 : True := True.intro
theorem PySem.W.Fast.tw9322137864923050651 : True := True.intro
theorem PySem.W.Fast.tw13128680262910765482 : True := True.intro
theorem PySem.W.Fast.tw3368659974347429086 : True := True.intro
theorem PySem.W.Fast.tw3920555537926536139 : True := True.intro
theorem PySem.W.Fast.tw9300997271971542767 : True := True.intro
theorem PySem.W.Fast.tw15490571051996543730 : True := True.intro
theorem PySem.W.Fast.tw6636589447538394197 : True := True.intro
theorem PySem.W.Fast.tw7627379914602318081 : True := True.intro
theorem PySem.W.Fast.tw14620365055702960544 : True := True.intro
theorem PySem.W.Fast.tw1088945220263085887 : True := True.intro
theorem PySem.W.Fast.tw10342611243942426631 : True := True.intro
theorem PySem.W.Fast.tw18371520554036158690 : True := True.intro
theorem PySem.W.Fast.tw10323325818613485673 : True := True.intro
theorem PySem.W.Fast.tw387985277459981439 : True := True.intro
theorem PySem.W.Fast.tw8851820436391298426 : True := True.intro
theorem PySem.W.Fast.tw11390917135789321220 : True := True.intro
theorem PySem.W.Fast.tw14036003067360201892 : True := True.intro
theorem PySem.W.Fast.tw111350253016130865 : True := True.intro
theorem PySem.W.Fast.tw4429641390503186319 : True := True.intro
theorem PySem.W.Fast.tw8418852962740778896 : True := True.intro
theorem PySem.W.Fast.tw10891030920745954231 : True := True.intro
theorem PySem.W.Fast.tw3225767144996268920 : True := True.intro
theorem PySem.W.Fast.tw3478435770133796632 : True := True.intro
theorem PySem.W.Fast.tw17630541009915906333 : True := True.intro
theorem PySem.W.Fast.tw10589575595709794379 : True := True.intro
theorem PySem.W.Fast.tw544990127352957269 : True := True.intro
theorem PySem.W.Fast.tw5827919429473704278 : True := True.intro
theorem PySem.W.Fast.tw7546840915269100382 : True := True.intro
theorem PySem.W.Fast.tw11645347132785920623 : True := True.intro
theorem PySem.W.Fast.tw5453244465043916606 : True := True.intro
theorem PySem.W.Fast.tw6355069318858347071 : True := True.intro
theorem PySem.W.Fast.tw3754360868657616301 : True := True.intro
theorem PySem.W.Fast.tw9097256181811874808 : True := True.intro
theorem PySem.W.Fast.tw14540966962150136236 : True := True.intro
theorem PySem.W.Fast.tw17363947800812755165 : True := True.intro
theorem PySem.W.Fast.tw1618723590268539466 : True := True.intro
theorem PySem.W.Fast.tw16877869980645693727 : True := True.intro
theorem PySem.W.Fast.tw12215077205564985486 : True := True.intro
theorem PySem.W.Fast.tw10346219949812185631 : True := True.intro
theorem PySem.W.Fast.tw9436723496951154804 : True := True.intro
theorem PySem.W.Fast.tw14084410798902360158 : True := True.intro
theorem PySem.W.Fast.tw6354288763301717460 : True := True.intro
theorem PySem.W.Fast.tw3024660949247648573 : True := True.intro
theorem PySem.W.Fast.tw11914565281767656540 : True := True.intro
theorem PySem.W.Fast.tw14565259036195237194 : True := True.intro
theorem PySem.W.Fast.tw14632521211251519672 : True := True.intro
theorem PySem.W.Fast.tw8041931260415146437 : True := True.intro
theorem PySem.W.Fast.tw16630343444442744641 : True := True.intro
theorem PySem.W.Fast.tw17113756662937200349 : True := True.intro
theorem PySem.W.Fast.tw14102670374065139198 : True := True.intro
theorem PySem.W.Fast.tw6669622804573169146 : True := True.intro
theorem PySem.W.Fast.tw16063201603191787958 : True := True.intro
theorem PySem.W.Fast.tw9860987379281928780 : True := True.intro
theorem PySem.W.Fast.tw10936184176215018831 : True := True.intro
theorem PySem.W.Fast.tw17915188770639834117 : True := True.intro
theorem PySem.W.Fast.tw15472871937646380420 : True := True.intro
theorem PySem.W.Fast.tw1410451057733420135 : True := True.intro
theorem PySem.W.Fast.tw16807488161399533391 : True := True.intro
theorem PySem.W.Fast.tw17045950633724353258 : True := True.intro
theorem PySem.W.Fast.tw8893962016454423053 : True := True.intro
theorem PySem.W.Fast.tw5192295343710935257 : True := True.intro
theorem PySem.W.Fast.tw4887857389844313700 : True := True.intro
theorem PySem.W.Fast.tw13200362017939540972 : True := True.intro
theorem PySem.W.Fast.tw2478162799775423245 : True := True.intro
theorem PySem.W.Fast.tw12039224688428490157 : True := True.intro
theorem PySem.W.Fast.tw16213692126444555555 : True := True.intro
theorem PySem.W.Fast.tw12734588375868671728 : True := True.intro
theorem PySem.W.Fast.tw5685917496780190951 : True := True.intro
theorem PySem.W.Fast.tw8609235929553339715 : True := True.intro
theorem PySem.W.Fast.tw11731351198559731944 : True := True.intro
theorem PySem.W.Fast.tw12664140054635296441 : True := True.intro
theorem PySem.W.Fast.tw8463784783333644808 : True := True.intro
theorem PySem.W.Fast.tw12787720032356121449 : True := True.intro
theorem PySem.W.Fast.tw15095274182020343742 : True := True.intro
theorem PySem.W.Fast.tw1959428478897536557 : True := True.intro
theorem PySem.W.Fast.tw5651166170231430882 : True := True.intro
theorem PySem.W.Fast.tw12424760703607402802 : True := True.intro
theorem PySem.W.Fast.tw4108918755649307399 : True := True.intro
theorem PySem.W.Fast.tw14694124540832346701 : True := True.intro
theorem PySem.W.Fast.tw13580976976258336231 : True := True.intro
theorem PySem.W.Fast.tw14114988522272706938 : True := True.intro
theorem PySem.W.Fast.tw7620104702445904537 : True := True.intro
theorem PySem.W.Fast.tw12113951099184102454 : True := True.intro
theorem PySem.W.Fast.tw12561138611900512983 : True := True.intro
theorem PySem.W.Fast.tw1709278964679210306 : True := True.intro
theorem PySem.W.Fast.tw1818894104192109063 : True := True.intro
theorem PySem.W.Fast.tw11205667530376030474 : True := True.intro
theorem PySem.W.Fast.tw15183836415058050024 : True := True.intro
theorem PySem.W.Fast.tw16535732417841920642 : True := True.intro
theorem PySem.W.Fast.tw7271727724353496238 : True := True.intro
theorem PySem.W.Fast.tw14601934967811911662 : True := True.intro
theorem PySem.W.Fast.tw9068523754169228095 : True := True.intro
theorem PySem.W.Fast.tw15440599009303437415 : True := True.intro
theorem PySem.W.Fast.tw10739278583830361905 : True := True.intro
theorem PySem.W.Fast.tw6816048600702156960 : True := True.intro
theorem PySem.W.Fast.tw5293039778795379373 : True := True.intro
theorem PySem.W.Fast.tw11284047836286849841 : True := True.intro
theorem PySem.W.Fast.tw6254651510864442466 : True := True.intro
theorem PySem.W.Fast.tw8585907388834341585 : True := True.intro
theorem PySem.W.Fast.tw12764604241581619843 : True := True.intro
theorem PySem.W.Fast.tw13800670223822529441 : True := True.intro
theorem PySem.W.Fast.tw65574343135684689 : True := True.intro
theorem PySem.W.Fast.tw16119803387121309346 : True := True.intro
theorem PySem.W.Fast.tw13990696177890709627 : True := True.intro
theorem PySem.W.Fast.tw1039964983515751867 : True := True.intro
theorem PySem.W.Fast.tw13735817060874437992 : True := True.intro
theorem PySem.W.Fast.tw17306985801608091621 : True := True.intro
theorem PySem.W.Fast.tw2467634893425317799 : True := True.intro
theorem PySem.W.Fast.tw10148410888435679699 : True := True.intro
theorem PySem.W.Fast.tw9856935849121143034 : True := True.intro
theorem PySem.W.Fast.tw14522975060645363108 : True := True.intro
theorem PySem.W.Fast.tw14996001049421462403 : True := True.intro
theorem PySem.W.Fast.tw11947580153631681512 : True := True.intro
theorem PySem.W.Fast.tw15459312252611339165 : True := True.intro
theorem PySem.W.Fast.tw1379457893352712916 : True := True.intro
theorem PySem.W.Fast.tw8072006060358025029 : True := True.intro
theorem PySem.W.Fast.tw9688581173858838964 : True := True.intro
theorem PySem.W.Fast.tw17833445510506065266 : True := True.intro
theorem PySem.W.Fast.tw16696791264438836663 : True := True.intro
theorem PySem.W.Fast.tw7648206859699852279 : True := True.intro
theorem PySem.W.Fast.tw12410367972671155379 : True := True.intro
theorem PySem.W.Fast.tw10499892640472248616 : True := True.intro
theorem PySem.W.Fast.tw9253425714823694650 : True := True.intro
theorem PySem.W.Fast.tw15846509863660581108 : True := True.intro
theorem PySem.W.Fast.tw10036495042754484593 : True := True.intro
theorem PySem.W.Fast.tw12727406670705230743 : True := True.intro
theorem PySem.W.Fast.tw17070097206078927768 : True := True.intro
theorem PySem.W.Fast.tw7601213194093933492 : True := True.intro
theorem PySem.W.Fast.tw14320443031969347213 : True := True.intro
theorem PySem.W.Fast.tw6796104281562648785 : True := True.intro
theorem PySem.W.Fast.tw17663915173881405449 : True := True.intro
theorem PySem.W.Fast.tw7710524076001450976 : True := True.intro
theorem PySem.W.Fast.tw2698071843207296360 : True := True.intro
theorem PySem.W.Fast.tw1210945656092810694 : True := True.intro
theorem PySem.W.Fast.tw7545805565836020301 : True := True.intro
theorem PySem.W.Fast.tw6592336962726849287 : True := True.intro
theorem PySem.W.Fast.tw6190679088608403129 : True := True.intro
theorem PySem.W.Fast.tw9611859005844616846 : True := True.intro
theorem PySem.W.Fast.tw1822952136393950216 : True := True.intro
theorem PySem.W.Fast.tw4677541885256959145 : True := True.intro
theorem PySem.W.Fast.tw8051979353666787328 : True := True.intro
theorem PySem.W.Fast.tw1443090513753186220 : True := True.intro
theorem PySem.W.Fast.tw2283321896765863851 : True := True.intro
theorem PySem.W.Fast.tw18371390165329744414 : True := True.intro
theorem PySem.W.Fast.tw18308307370641601328 : True := True.intro
theorem PySem.W.Fast.tw16471078152361864161 : True := True.intro
theorem PySem.W.Fast.tw12954464839851880652 : True := True.intro
theorem PySem.W.Fast.tw732520070052840625 : True := True.intro
theorem PySem.W.Fast.tw1504742502631325207 : True := True.intro
theorem PySem.W.Fast.tw10520986218077344926 : True := True.intro
theorem PySem.W.Fast.tw5293945470212737044 : True := True.intro
theorem PySem.W.Fast.tw12025369805969543960 : True := True.intro
theorem PySem.W.Fast.tw2093374822066280605 : True := True.intro
theorem PySem.W.Fast.tw16688240205362504822 : True := True.intro
theorem PySem.W.Fast.tw7734598862687048449 : True := True.intro
theorem PySem.W.Fast.tw5694188636108896981 : True := True.intro
theorem PySem.W.Fast.tw8965865550089975678 : True := True.intro
theorem PySem.W.Fast.tw4430711877278048109 : True := True.intro
theorem PySem.W.Fast.tw4192743697917930803 : True := True.intro
theorem PySem.W.Fast.tw13472084019161886546 : True := True.intro
theorem PySem.W.Fast.tw6807193720675798381 : True := True.intro
theorem PySem.W.Fast.tw2083099828161904304 : True := True.intro
theorem PySem.W.Fast.tw14916732676049090577 : True := True.intro
theorem PySem.W.Fast.tw1119273313588968714 : True := True.intro
theorem PySem.W.Fast.tw9878022216024560372 : True := True.intro
theorem PySem.W.Fast.tw15397739257338928244 : True := True.intro
theorem PySem.W.Fast.tw4079634327869279506 : True := True.intro
theorem PySem.W.Fast.tw13466309746919787952 : True := True.intro
theorem PySem.W.Fast.tw18264146329581173181 : True := True.intro
theorem PySem.W.Fast.tw15705171322200600450 : True := True.intro
theorem PySem.W.Fast.tw11686065786848305589 : True := True.intro
theorem PySem.W.Fast.tw5902893426074990899 : True := True.intro
theorem PySem.W.Fast.tw17815461437420349580 : True := True.intro
theorem PySem.W.Fast.tw15438062746823455878 : True := True.intro
theorem PySem.W.Fast.tw11884832957433782601 : True := True.intro
theorem PySem.W.Fast.tw15086139496319969269 : True := True.intro
theorem PySem.W.Fast.tw17883502337139664528 : True := True.intro
theorem PySem.W.Fast.tw17194480792220265132 : True := True.intro
theorem PySem.W.Fast.tw6109452224846355300 : True := True.intro
theorem PySem.W.Fast.tw9358688103600459330 : True := True.intro
theorem PySem.W.Fast.tw7219384491886624561 : True := True.intro
theorem PySem.W.Fast.tw15764283511978468404 : True := True.intro
theorem PySem.W.Fast.tw2834573722995959835 : True := True.intro
theorem PySem.W.Fast.tw3405634196343623283 : True := True.intro
theorem PySem.W.Fast.tw1119057075476186215 : True := True.intro
theorem PySem.W.Fast.tw18068693457617739535 : True := True.intro
theorem PySem.W.Fast.tw15916207585422516953 : True := True.intro
theorem PySem.W.Fast.tw10113488732539538367 : True := True.intro
theorem PySem.W.Fast.tw1116786551153925693 : True := True.intro
theorem PySem.W.Fast.tw13180760626675652760 : True := True.intro
theorem PySem.W.Fast.tw15687353983830876557 : True := True.intro
theorem PySem.W.Fast.tw9436967895314733700 : True := True.intro
theorem PySem.W.Fast.tw1716671919249086073 : True := True.intro
theorem PySem.W.Fast.tw17852364145440658021 : True := True.intro
theorem PySem.W.Fast.tw18289706728604750966 : True := True.intro
theorem PySem.W.Fast.tw11676446847607320611 : True := True.intro
theorem PySem.W.Fast.tw3473963146821167829 : True := True.intro
theorem PySem.W.Fast.tw2347893647979550710 : True := True.intro
theorem PySem.W.Fast.tw5310831922591509169 : True := True.intro
theorem PySem.W.Fast.tw15405255402919711585 : True := True.intro
theorem PySem.W.Fast.tw7475269440071601766 : True := True.intro
theorem PySem.W.Fast.tw6397164239638441317 : True := True.intro
theorem PySem.W.Fast.tw10956342843966619332 : True := True.intro
theorem PySem.W.Fast.tw9501107661148605076 : True := True.intro
theorem PySem.W.Fast.tw4716325658487146874 : True := True.intro
theorem PySem.W.Fast.tw18439187499331926600 : True := True.intro
theorem PySem.W.Fast.tw2960951021134468986 : True := True.intro
theorem PySem.W.Fast.tw15201078718192696228 : True := True.intro
theorem PySem.W.Fast.tw16559197421266368796 : True := True.intro
theorem PySem.W.Fast.tw17887424581136460310 : True := True.intro
theorem PySem.W.Fast.tw9364852818270162967 : True := True.intro
theorem PySem.W.Fast.tw16325420514883921955 : True := True.intro
theorem PySem.W.Fast.tw8050606167618459477 : True := True.intro
theorem PySem.W.Fast.tw5462925880484499319 : True := True.intro
theorem PySem.W.Fast.tw15563257529121584324 : True := True.intro
theorem PySem.W.Fast.tw16838882729547096802 : True := True.intro
theorem PySem.W.Fast.tw5302356355460167891 : True := True.intro
theorem PySem.W.Fast.tw16467121530012174753 : True := True.intro
theorem PySem.W.Fast.tw9645107043915243358 : True := True.intro
theorem PySem.W.Fast.tw13530994147939281051 : True := True.intro
theorem PySem.W.Fast.tw4642188155924678015 : True := True.intro
theorem PySem.W.Fast.tw2313553800908744723 : True := True.intro
theorem PySem.W.Fast.tw15142271325948059412 : True := True.intro
theorem PySem.W.Fast.tw17902245149015896379 : True := True.intro
theorem PySem.W.Fast.tw30849069870114141 : True := True.intro
theorem PySem.W.Fast.tw12870734570087048013 : True := True.intro
theorem PySem.W.Fast.tw10748017114834593053 : True := True.intro
theorem PySem.W.Fast.tw12854364481245865386 : True := True.intro
theorem PySem.W.Fast.tw12831464465770409703 : True := True.intro
theorem PySem.W.Fast.tw4386443256142843238 : True := True.intro
theorem PySem.W.Fast.tw11864531233464637397 : True := True.intro
theorem PySem.W.Fast.tw6530370219364714143 : True := True.intro
theorem PySem.W.Fast.tw461620652901265893 : True := True.intro
theorem PySem.W.Fast.tw2732709435654877527 : True := True.intro
theorem PySem.W.Fast.tw6643942657803107310 : True := True.intro
theorem PySem.W.Fast.tw11159050862162704100 : True := True.intro
theorem PySem.W.Fast.tw16561860184572176948 : True := True.intro
theorem PySem.W.Fast.tw8906506675557894453 : True := True.intro
theorem PySem.W.Fast.tw9974809764629853188 : True := True.intro
theorem PySem.W.Fast.tw11550835800683756289 : True := True.intro
theorem PySem.W.Fast.tw14956087521529219401 : True := True.intro
theorem PySem.W.Fast.tw617269717760101285 : True := True.intro
theorem PySem.W.Fast.tw4591231517924575768 : True := True.intro
theorem PySem.W.Fast.tw15672173792115310694 : True := True.intro
theorem PySem.W.Fast.tw7412944213107359817 : True := True.intro
theorem PySem.W.Fast.tw14618497725659862666 : True := True.intro
theorem PySem.W.Fast.tw7439697356787012626 : True := True.intro
theorem PySem.W.Fast.tw11040055737673197643 : True := True.intro
theorem PySem.W.Fast.tw12919252547911235341 : True := True.intro
theorem PySem.W.Fast.tw12508789656064862592 : True := True.intro
theorem PySem.W.Fast.tw16417612910619509112 : True := True.intro
theorem PySem.W.Fast.tw11818847502722892457 : True := True.intro
theorem PySem.W.Fast.tw12114845251798780499 : True := True.intro
theorem PySem.W.Fast.tw6877606611272299190 : True := True.intro
theorem PySem.W.Fast.tw1201996776778656400 : True := True.intro
theorem PySem.W.Fast.tw12630483971978656177 : True := True.intro
theorem PySem.W.Fast.tw8449228845004473164 : True := True.intro
theorem PySem.W.Fast.tw2203826023010367924 : True := True.intro
theorem PySem.W.Fast.tw12191542877019797722 : True := True.intro
theorem PySem.W.Fast.tw13991942292891047780 : True := True.intro
theorem PySem.W.Fast.tw7662403695084290284 : True := True.intro
theorem PySem.W.Fast.tw1423996392187552596 : True := True.intro
theorem PySem.W.Fast.tw972126685647028226 : True := True.intro
theorem PySem.W.Fast.tw3488602435067671187 : True := True.intro
theorem PySem.W.Fast.tw11452500329644247398 : True := True.intro
theorem PySem.W.Fast.tw10490013357201912378 : True := True.intro
theorem PySem.W.Fast.tw10804202450613416893 : True := True.intro
theorem PySem.W.Fast.tw9974267823149118913 : True := True.intro
theorem PySem.W.Fast.tw16056295664554038654 : True := True.intro
theorem PySem.W.Fast.tw7079523703081167683 : True := True.intro
theorem PySem.W.Fast.tw12998533582875232346 : True := True.intro
theorem PySem.W.Fast.tw10645825746043180218 : True := True.intro
theorem PySem.W.Fast.tw3142041899447494157 : True := True.intro
theorem PySem.W.Fast.tw11039026032482578037 : True := True.intro
theorem PySem.W.Fast.tw1277371101532269267 : True := True.intro
theorem PySem.W.Fast.tw15774512480941926200 : True := True.intro
theorem PySem.W.Fast.tw8321693310105345502 : True := True.intro
theorem PySem.W.Fast.tw15409337475296935219 : True := True.intro
theorem PySem.W.Fast.tw2782742036562242221 : True := True.intro
theorem PySem.W.Fast.tw258369680884408361 : True := True.intro
theorem PySem.W.Fast.tw4998307430186081106 : True := True.intro
theorem PySem.W.Fast.tw16382465300663726945 : True := True.intro
theorem PySem.W.Fast.tw1672049432393171422 : True := True.intro
theorem PySem.W.Fast.tw18118320604931831833 : True := True.intro
theorem PySem.W.Fast.tw14140156631273670321 : True := True.intro
theorem PySem.W.Fast.tw13014181015555233315 : True := True.intro
theorem PySem.W.Fast.tw8860843142961865097 : True := True.intro
theorem PySem.W.Fast.tw13201149691216405514 : True := True.intro
theorem PySem.W.Fast.tw9073916981907144080 : True := True.intro
theorem PySem.W.Fast.tw5113877262338517472 : True := True.intro
theorem PySem.W.Fast.tw15226791816732444927 : True := True.intro
theorem PySem.W.Fast.tw4867296545824336006 : True := True.intro
theorem PySem.W.Fast.tw17515339046968809953 : True := True.intro
theorem PySem.W.Fast.tw7039765416518129164 : True := True.intro
theorem PySem.W.Fast.tw6106393054156317136 : True := True.intro
theorem PySem.W.Fast.tw15145830442657010017 : True := True.intro
theorem PySem.W.Fast.tw14273835057260623002 : True := True.intro
theorem PySem.W.Fast.tw4889520193892500092 : True := True.intro
theorem PySem.W.Fast.tw14321645265484234511 : True := True.intro
theorem PySem.W.Fast.tw6596768854974213601 : True := True.intro
theorem PySem.W.Fast.tw2557091784160320221 : True := True.intro
theorem PySem.W.Fast.tw12959371209013767381 : True := True.intro
theorem PySem.W.Fast.tw10125548915053341576 : True := True.intro
theorem PySem.W.Fast.tw15866817319819456527 : True := True.intro
theorem PySem.W.Fast.tw17299616479534741378 : True := True.intro
theorem PySem.W.Fast.tw13127882370859629160 : True := True.intro
theorem PySem.W.Fast.tw17508497106735549229 : True := True.intro
theorem PySem.W.Fast.tw2755644824726640635 : True := True.intro
theorem PySem.W.Fast.tw8026426972040695381 : True := True.intro
theorem PySem.W.Fast.tw7924449582187743340 : True := True.intro
theorem PySem.W.Fast.tw14544150269258940306 : True := True.intro
theorem PySem.W.Fast.tw15431108782459252719 : True := True.intro
theorem PySem.W.Fast.tw13020963311346663427 : True := True.intro
theorem PySem.W.Fast.tw84305437629640824 : True := True.intro
theorem PySem.W.Fast.tw15767491840107301174 : True := True.intro
theorem PySem.W.Fast.tw16905050319564501921 : True := True.intro
theorem PySem.W.Fast.tw16043370125246331880 : True := True.intro
theorem PySem.W.Fast.tw10227359845010804418 : True := True.intro
theorem PySem.W.Fast.tw5356493596450997706 : True := True.intro
theorem PySem.W.Fast.tw9977392515096164883 : True := True.intro
theorem PySem.W.Fast.tw2903724140183156502 : True := True.intro
theorem PySem.W.Fast.tw4172454503383948807 : True := True.intro
theorem PySem.W.Fast.tw6873871800726055348 : True := True.intro
theorem PySem.W.Fast.tw14593396479941520874 : True := True.intro
theorem PySem.W.Fast.tw6497718998932912394 : True := True.intro
theorem PySem.W.Fast.tw12795155698009221185 : True := True.intro
theorem PySem.W.Fast.tw15616080553383900036 : True := True.intro
theorem PySem.W.Fast.tw11266647583600325200 : True := True.intro
theorem PySem.W.Fast.tw7839943022559400496 : True := True.intro
theorem PySem.W.Fast.tw1547745991270879027 : True := True.intro
theorem PySem.W.Fast.tw16627013555855447331 : True := True.intro
theorem PySem.W.Fast.tw479923362601615448 : True := True.intro
theorem PySem.W.Fast.tw3136058128957032557 : True := True.intro
theorem PySem.W.Fast.tw17134712159657350360 : True := True.intro
theorem PySem.W.Fast.tw9597282458209319327 : True := True.intro
theorem PySem.W.Fast.tw14093364791578285215 : True := True.intro
theorem PySem.W.Fast.tw8158214227047573191 : True := True.intro
theorem PySem.W.Fast.tw17284987589033932459 : True := True.intro
theorem PySem.W.Fast.tw3495993428035578840 : True := True.intro
theorem PySem.W.Fast.tw12523740610705673134 : True := True.intro
theorem PySem.W.Fast.tw12754325699840013074 : True := True.intro
theorem PySem.W.Fast.tw15814349275524214932 : True := True.intro
theorem PySem.W.Fast.tw11528759757934450871 : True := True.intro
theorem PySem.W.Fast.tw9369727163462840706 : True := True.intro
theorem PySem.W.Fast.tw2349507263309901732 : True := True.intro
theorem PySem.W.Fast.tw11609008682219088075 : True := True.intro
theorem PySem.W.Fast.tw10182858045702529490 : True := True.intro
theorem PySem.W.Fast.tw13551653625190531079 : True := True.intro
theorem PySem.W.Fast.tw13161256856444366627 : True := True.intro
theorem PySem.W.Fast.tw13986091064241848031 : True := True.intro
theorem PySem.W.Fast.tw1876639066582354409 : True := True.intro
theorem PySem.W.Fast.tw6960580660918647711 : True := True.intro
theorem PySem.W.Fast.tw3776952339607024501 : True := True.intro
theorem PySem.W.Fast.tw16024745876218206282 : True := True.intro
theorem PySem.W.Fast.tw5551714114712019649 : True := True.intro
theorem PySem.W.Fast.tw3468920775507237943 : True := True.intro
theorem PySem.W.Fast.tw11185715176493822269 : True := True.intro
theorem PySem.W.Fast.tw12421643670962330313 : True := True.intro
theorem PySem.W.Fast.tw12646068908348918144 : True := True.intro
theorem PySem.W.Fast.tw13506073664181725800 : True := True.intro
theorem PySem.W.Fast.tw13670635549039201180 : True := True.intro
theorem PySem.W.Fast.tw9254289010047258497 : True := True.intro
theorem PySem.W.Fast.tw4937013908455977525 : True := True.intro
theorem PySem.W.Fast.tw2657236283421877597 : True := True.intro
theorem PySem.W.Fast.tw11015375281849234478 : True := True.intro
theorem PySem.W.Fast.tw6569543873351337879 : True := True.intro
theorem PySem.W.Fast.tw1521761890899839760 : True := True.intro
theorem PySem.W.Fast.tw11840977884927487766 : True := True.intro
theorem PySem.W.Fast.tw7981841174219573802 : True := True.intro
theorem PySem.W.Fast.tw1142986584660715246 : True := True.intro
theorem PySem.W.Fast.tw10758886018009799228 : True := True.intro
theorem PySem.W.Fast.tw6757004609720627628 : True := True.intro
theorem PySem.W.Fast.tw1167590608922028408 : True := True.intro
theorem PySem.W.Fast.tw15964596616130832968 : True := True.intro
theorem PySem.W.Fast.tw14099070623333726484 : True := True.intro
theorem PySem.W.Fast.tw13207341168426112323 : True := True.intro
theorem PySem.W.Fast.tw6613401438939158875 : True := True.intro
theorem PySem.W.Fast.tw18084195315810566767 : True := True.intro
theorem PySem.W.Fast.tw14994758943741164015 : True := True.intro
theorem PySem.W.Fast.tw5764985647404288838 : True := True.intro
theorem PySem.W.Fast.tw5884022346995767312 : True := True.intro
theorem PySem.W.Fast.tw1873841273969915098 : True := True.intro
theorem PySem.W.Fast.tw11839319562142169835 : True := True.intro
theorem PySem.W.Fast.tw16787635284414332181 : True := True.intro
theorem PySem.W.Fast.tw7924449532846693036 : True := True.intro
theorem PySem.W.Fast.tw1746969303486234148 : True := True.intro
theorem PySem.W.Fast.tw11192346348685341826 : True := True.intro
theorem PySem.W.Fast.tw6698898215936954125 : True := True.intro
theorem PySem.W.Fast.tw6319476093126817973 : True := True.intro
theorem PySem.W.Fast.tw7042300057001392815 : True := True.intro
theorem PySem.W.Fast.tw8228146282022747298 : True := True.intro
theorem PySem.W.Fast.tw3698966236379107834 : True := True.intro
theorem PySem.W.Fast.tw11414774674436706949 : True := True.intro
theorem PySem.W.Fast.tw17051183918362486571 : True := True.intro
theorem PySem.W.Fast.tw1333821115851490708 : True := True.intro
theorem PySem.W.Fast.tw9710379689226140577 : True := True.intro
theorem PySem.W.Fast.tw6225951928958091729 : True := True.intro
theorem PySem.W.Fast.tw2555715281332736606 : True := True.intro
theorem PySem.W.Fast.tw15274100710855415954 : True := True.intro
theorem PySem.W.Fast.tw8843899628858589698 : True := True.intro
theorem PySem.W.Fast.tw10490464620049243063 : True := True.intro
theorem PySem.W.Fast.tw7223612268675176973 : True := True.intro
theorem PySem.W.Fast.tw4921511903957103355 : True := True.intro
theorem PySem.W.Fast.tw6024108430598083216 : True := True.intro
theorem PySem.W.Fast.tw6327938326041526043 : True := True.intro
theorem PySem.W.Fast.tw9775761527395307738 : True := True.intro
theorem PySem.W.Fast.tw11842361883945242422 : True := True.intro
theorem PySem.W.Fast.tw16274699537147050183 : True := True.intro
theorem PySem.W.Fast.tw7621818115545960795 : True := True.intro
theorem PySem.W.Fast.tw9930015331684539396 : True := True.intro
theorem PySem.W.Fast.tw2379468841258838303 : True := True.intro
theorem PySem.W.Fast.tw1429822264519963306 : True := True.intro
theorem PySem.W.Fast.tw14298593938734027779 : True := True.intro
theorem PySem.W.Fast.tw13004798607707492655 : True := True.intro
theorem PySem.W.Fast.tw853761992717216781 : True := True.intro
theorem PySem.W.Fast.tw10552975193548426245 : True := True.intro
theorem PySem.W.Fast.tw10989993693664543824 : True := True.intro
theorem PySem.W.Fast.tw6259290796604469611 : True := True.intro
theorem PySem.W.Fast.tw13492414771662790408 : True := True.intro
theorem PySem.W.Fast.tw1709001222531861028 : True := True.intro
theorem PySem.W.Fast.tw10837398733477971991 : True := True.intro
theorem PySem.W.Fast.tw14691665284112057799 : True := True.intro
theorem PySem.W.Fast.tw1359676027165133462 : True := True.intro
theorem PySem.W.Fast.tw10653785922608276358 : True := True.intro
theorem PySem.W.Fast.tw9947186386619454943 : True := True.intro
theorem PySem.W.Fast.tw518094907341535799 : True := True.intro
theorem PySem.W.Fast.tw8970456834645243884 : True := True.intro
theorem PySem.W.Fast.tw2762378607255822314 : True := True.intro
theorem PySem.W.Fast.tw5064397364401407030 : True := True.intro
theorem PySem.W.Fast.tw11680600990707571197 : True := True.intro
theorem PySem.W.Fast.tw11933983165714997706 : True := True.intro
theorem PySem.W.Fast.tw17218472265014837071 : True := True.intro
theorem PySem.W.Fast.tw7934474022956025544 : True := True.intro
theorem PySem.W.Fast.tw14943655215458909622 : True := True.intro
theorem PySem.W.Fast.tw2169742925351404378 : True := True.intro
theorem PySem.W.Fast.tw6386968157534559944 : True := True.intro
theorem PySem.W.Fast.tw11431604105722463332 : True := True.intro
theorem PySem.W.Fast.tw13944518639375977554 : True := True.intro
theorem PySem.W.Fast.tw12502502431204075638 : True := True.intro
theorem PySem.W.Fast.tw6996919978190807982 : True := True.intro
theorem PySem.W.Fast.tw11772232739644831008 : True := True.intro
theorem PySem.W.Fast.tw14574109612749686232 : True := True.intro
theorem PySem.W.Fast.tw12452091961281514881 : True := True.intro
theorem PySem.W.Fast.tw14359730937751960290 : True := True.intro
theorem PySem.W.Fast.tw7529599988259262125 : True := True.intro
theorem PySem.W.Fast.tw16095903103026489033 : True := True.intro
theorem PySem.W.Fast.tw9473003261046294447 : True := True.intro
theorem PySem.W.Fast.tw14847274284266152683 : True := True.intro
theorem PySem.W.Fast.tw5270756264936350613 : True := True.intro
theorem PySem.W.Fast.tw7100919328809478680 : True := True.intro
theorem PySem.W.Fast.tw2455685018906359928 : True := True.intro
theorem PySem.W.Fast.tw4951641142546860470 : True := True.intro
theorem PySem.W.Fast.tw15602003746892349405 : True := True.intro
theorem PySem.W.Fast.tw16047499620817208434 : True := True.intro
theorem PySem.W.Fast.tw9045165805746982793 : True := True.intro
theorem PySem.W.Fast.tw5257274946508701289 : True := True.intro
theorem PySem.W.Fast.tw8979684881816372917 : True := True.intro
theorem PySem.W.Fast.tw11197767548036872098 : True := True.intro
theorem PySem.W.Fast.tw3824494277383305992 : True := True.intro
theorem PySem.W.Fast.tw17095371514899345194 : True := True.intro
theorem PySem.W.Fast.tw6141125814053520033 : True := True.intro
theorem PySem.W.Fast.tw7752783747171725437 : True := True.intro
theorem PySem.W.Fast.tw596814842160861746 : True := True.intro
theorem PySem.W.Fast.tw1670176731480016504 : True := True.intro
theorem PySem.W.Fast.tw1459088302804083434 : True := True.intro
theorem PySem.W.Fast.tw9851836966932560796 : True := True.intro
theorem PySem.W.Fast.tw16443504186295135651 : True := True.intro
theorem PySem.W.Fast.tw8962825380293042779 : True := True.intro
theorem PySem.W.Fast.tw11440415939092194352 : True := True.intro
theorem PySem.W.Fast.tw18308591349715449777 : True := True.intro
theorem PySem.W.Fast.tw13428221142783519365 : True := True.intro
theorem PySem.W.Fast.tw9756137153530548189 : True := True.intro
theorem PySem.W.Fast.tw1356512125320916819 : True := True.intro
theorem PySem.W.Fast.tw16133562468386678339 : True := True.intro
theorem PySem.W.Fast.tw8362352690612559791 : True := True.intro
theorem PySem.W.Fast.tw17081036730862551394 : True := True.intro
theorem PySem.W.Fast.tw2770255786185512901 : True := True.intro
theorem PySem.W.Fast.tw15570917086947230283 : True := True.intro
theorem PySem.W.Fast.tw7074936093451666556 : True := True.intro
theorem PySem.W.Fast.tw12521591884786890973 : True := True.intro
theorem PySem.W.Fast.tw17225446594424804319 : True := True.intro
theorem PySem.W.Fast.tw361246328027580815 : True := True.intro
theorem PySem.W.Fast.tw8024223815342241944 : True := True.intro
theorem PySem.W.Fast.tw8735562396127056774 : True := True.intro
theorem PySem.W.Fast.tw9455017949995830688 : True := True.intro
theorem PySem.W.Fast.tw3302707385025143489 : True := True.intro
theorem PySem.W.Fast.tw13563116032839215824 : True := True.intro
theorem PySem.W.Fast.tw1734302853117878858 : True := True.intro
theorem PySem.W.Fast.tw2408403823235792537 : True := True.intro
theorem PySem.W.Fast.tw5700651198807654565 : True := True.intro
theorem PySem.W.Fast.tw13011737896690935638 : True := True.intro
theorem PySem.W.Fast.tw6135668467709330685 : True := True.intro
theorem PySem.W.Fast.tw16867463748244422152 : True := True.intro
theorem PySem.W.Fast.tw7981798051633026391 : True := True.intro
theorem PySem.W.Fast.tw14173658418524842226 : True := True.intro
theorem PySem.W.Fast.tw4767455909766862315 : True := True.intro
theorem PySem.W.Fast.tw287666742140668986 : True := True.intro
theorem PySem.W.Fast.tw4029996768320604934 : True := True.intro
theorem PySem.W.Fast.tw8180249646346047891 : True := True.intro
theorem PySem.W.Fast.tw6185693118111112429 : True := True.intro
theorem PySem.W.Fast.tw8852890478888869369 : True := True.intro
theorem PySem.W.Fast.tw12025920628383775666 : True := True.intro
theorem PySem.W.Fast.tw11601004522989231602 : True := True.intro
theorem PySem.W.Fast.tw6936413419548026837 : True := True.intro
theorem PySem.W.Fast.tw16205313725615009537 : True := True.intro
theorem PySem.W.Fast.tw11474502631255807141 : True := True.intro
theorem PySem.W.Fast.tw15825096741551630274 : True := True.intro
theorem PySem.W.Fast.tw8224027490878350932 : True := True.intro
theorem PySem.W.Fast.tw12458616693420056868 : True := True.intro
theorem PySem.W.Fast.tw11953901094144917818 : True := True.intro
theorem PySem.W.Fast.tw2920374435356976424 : True := True.intro
theorem PySem.W.Fast.tw17325279651860467172 : True := True.intro
theorem PySem.W.Fast.tw5253187374779592220 : True := True.intro
theorem PySem.W.Fast.tw7820456752962811293 : True := True.intro
theorem PySem.W.Fast.tw18391929799242999241 : True := True.intro
theorem PySem.W.Fast.tw9869200955590416962 : True := True.intro
theorem PySem.W.Fast.tw5351771830516006688 : True := True.intro
theorem PySem.W.Fast.tw4054177143560201131 : True := True.intro
theorem PySem.W.Fast.tw7234188060675140422 : True := True.intro
theorem PySem.W.Fast.tw144361937711311256 : True := True.intro
theorem PySem.W.Fast.tw7501294260886154500 : True := True.intro
theorem PySem.W.Fast.tw9401688146999777088 : True := True.intro
theorem PySem.W.Fast.tw5353390847992163575 : True := True.intro
theorem PySem.W.Fast.tw14014742217547141355 : True := True.intro
theorem PySem.W.Fast.tw12513382697054456648 : True := True.intro
theorem PySem.W.Fast.tw9535359371376645992 : True := True.intro
theorem PySem.W.Fast.tw10964915127393448169 : True := True.intro
theorem PySem.W.Fast.tw12455233521689976700 : True := True.intro
theorem PySem.W.Fast.tw3602910362427995378 : True := True.intro
theorem PySem.W.Fast.tw15043700609023775938 : True := True.intro
theorem PySem.W.Fast.tw5364616638563036046 : True := True.intro
theorem PySem.W.Fast.tw7670066764257610050 : True := True.intro
theorem PySem.W.Fast.tw14437011859093930222 : True := True.intro
theorem PySem.W.Fast.tw3139832366199103434 : True := True.intro
theorem PySem.W.Fast.tw7622922583907956970 : True := True.intro
theorem PySem.W.Fast.tw14278324213901460700 : True := True.intro
theorem PySem.W.Fast.tw15060337179042551856 : True := True.intro
theorem PySem.W.Fast.tw17005444935360004742 : True := True.intro
theorem PySem.W.Fast.tw2263918248752697197 : True := True.intro
theorem PySem.W.Fast.tw10206107391447243680 : True := True.intro
theorem PySem.W.Fast.tw13866564301560489936 : True := True.intro
theorem PySem.W.Fast.tw16817825633496881606 : True := True.intro
theorem PySem.W.Fast.tw14992737192323179200 : True := True.intro
theorem PySem.W.Fast.tw4591200959096400549 : True := True.intro
theorem PySem.W.Fast.tw15997753344344270351 : True := True.intro
theorem PySem.W.Fast.tw16852017600735468092 : True := True.intro
theorem PySem.W.Fast.tw11177279048175497345 : True := True.intro
theorem PySem.W.Fast.tw10669450110881873422 : True := True.intro
theorem PySem.W.Fast.tw1449535318460831377 : True := True.intro
theorem PySem.W.Fast.tw10148530780288168031 : True := True.intro
theorem PySem.W.Fast.tw3700112926197712639 : True := True.intro
theorem PySem.W.Fast.tw17507335317442879013 : True := True.intro
theorem PySem.W.Fast.tw2543834667643764302 : True := True.intro
theorem PySem.W.Fast.tw9574679482925059985 : True := True.intro
theorem PySem.W.Fast.tw11956680601333826404 : True := True.intro
theorem PySem.W.Fast.tw7880344062407640532 : True := True.intro
theorem PySem.W.Fast.tw17830485058373754859 : True := True.intro
theorem PySem.W.Fast.tw12182583933529105149 : True := True.intro
theorem PySem.W.Fast.tw10903062974496941729 : True := True.intro
theorem PySem.W.Fast.tw6877338061217436639 : True := True.intro
theorem PySem.W.Fast.tw1416809411616999802 : True := True.intro
theorem PySem.W.Fast.tw6988735507771241978 : True := True.intro
theorem PySem.W.Fast.tw18339580092624828869 : True := True.intro
theorem PySem.W.Fast.tw2784899184777212600 : True := True.intro
theorem PySem.W.Fast.tw325839046265880576 : True := True.intro
theorem PySem.W.Fast.tw4845928500660295361 : True := True.intro
theorem PySem.W.Fast.tw15948964314001099507 : True := True.intro
theorem PySem.W.Fast.tw5957904106004589298 : True := True.intro
theorem PySem.W.Fast.tw17775113913121852536 : True := True.intro
theorem PySem.W.Fast.tw14095979738011420529 : True := True.intro
theorem PySem.W.Fast.tw16815187574478073784 : True := True.intro
theorem PySem.W.Fast.tw5828536303202368573 : True := True.intro
theorem PySem.W.Fast.tw17009246847072246012 : True := True.intro
theorem PySem.W.Fast.tw8210187811715151954 : True := True.intro
theorem PySem.W.Fast.tw1170300410613939845 : True := True.intro
theorem PySem.W.Fast.tw15148914998669116424 : True := True.intro
theorem PySem.W.Fast.tw7923899157849561559 : True := True.intro
theorem PySem.W.Fast.tw13380760499206438485 : True := True.intro
theorem PySem.W.Fast.tw12660062763074354310 : True := True.intro
theorem PySem.W.Fast.tw7453471953965023633 : True := True.intro
theorem PySem.W.Fast.tw16556717109326254846 : True := True.intro
theorem PySem.W.Fast.tw14017284527921944317 : True := True.intro
theorem PySem.W.Fast.tw3274372536961379478 : True := True.intro
theorem PySem.W.Fast.tw5570122612823572518 : True := True.intro
theorem PySem.W.Fast.tw14667824964800192208 : True := True.intro
theorem PySem.W.Fast.tw10928328779941335962 : True := True.intro
theorem PySem.W.Fast.tw1429249475653492977 : True := True.intro
theorem PySem.W.Fast.tw11746303846537480979 : True := True.intro
theorem PySem.W.Fast.tw18134056129028518721 : True := True.intro
theorem PySem.W.Fast.tw13663307686770356645 : True := True.intro
theorem PySem.W.Fast.tw7058082596613458893 : True := True.intro
theorem PySem.W.Fast.tw10953159613195683327 : True := True.intro
theorem PySem.W.Fast.tw1168581270774851536 : True := True.intro
theorem PySem.W.Fast.tw2624478648691501803 : True := True.intro
theorem PySem.W.Fast.tw14166265918483324395 : True := True.intro
theorem PySem.W.Fast.tw11854774189068014802 : True := True.intro
theorem PySem.W.Fast.tw14478498416188305432 : True := True.intro
theorem PySem.W.Fast.tw9971015229684116931 : True := True.intro
theorem PySem.W.Fast.tw4560335434841225634 : True := True.intro
theorem PySem.W.Fast.tw2077282371840984395 : True := True.intro
theorem PySem.W.Fast.tw16676415958782119890 : True := True.intro
theorem PySem.W.Fast.tw11007108229072298960 : True := True.intro
theorem PySem.W.Fast.tw14999338342451845232 : True := True.intro
theorem PySem.W.Fast.tw14863516540362014281 : True := True.intro
theorem PySem.W.Fast.tw10972359439148308276 : True := True.intro
theorem PySem.W.Fast.tw16457238990584223938 : True := True.intro
theorem PySem.W.Fast.tw810800714628099132 : True := True.intro
theorem PySem.W.Fast.tw5167945289704491254 : True := True.intro
theorem PySem.W.Fast.tw3289345053321836535 : True := True.intro
theorem PySem.W.Fast.tw7137805726103956869 : True := True.intro
theorem PySem.W.Fast.tw474538514270203347 : True := True.intro
theorem PySem.W.Fast.tw8400454324921893854 : True := True.intro
theorem PySem.W.Fast.tw17037554474133502144 : True := True.intro
theorem PySem.W.Fast.tw401457788410098760 : True := True.intro
theorem PySem.W.Fast.tw9016300365044793861 : True := True.intro
theorem PySem.W.Fast.tw2958583409772345875 : True := True.intro
theorem PySem.W.Fast.tw16628263394630119253 : True := True.intro
theorem PySem.W.Fast.tw13670768057531138298 : True := True.intro
theorem PySem.W.Fast.tw15819425870130291168 : True := True.intro
theorem PySem.W.Fast.tw7090217862184614013 : True := True.intro
theorem PySem.W.Fast.tw8810841549367425846 : True := True.intro
theorem PySem.W.Fast.tw3464721281899793287 : True := True.intro
theorem PySem.W.Fast.tw3330274790455579085 : True := True.intro
theorem PySem.W.Fast.tw18082885414527569737 : True := True.intro
theorem PySem.W.Fast.tw1717676058448090316 : True := True.intro
theorem PySem.W.Fast.tw7973935019278014159 : True := True.intro
theorem PySem.W.Fast.tw14239205482836078918 : True := True.intro
theorem PySem.W.Fast.tw17248067283693770976 : True := True.intro
theorem PySem.W.Fast.tw10009984713783246779 : True := True.intro
theorem PySem.W.Fast.tw10723225162680293176 : True := True.intro
theorem PySem.W.Fast.tw2383746732577435884 : True := True.intro
theorem PySem.W.Fast.tw8215761459165716891 : True := True.intro
theorem PySem.W.Fast.tw4691198994389212511 : True := True.intro
theorem PySem.W.Fast.tw13184746963038352132 : True := True.intro
theorem PySem.W.Fast.tw469679828041179109 : True := True.intro
theorem PySem.W.Fast.tw9280592350768673337 : True := True.intro
theorem PySem.W.Fast.tw3857074719946403656 : True := True.intro
theorem PySem.W.Fast.tw581347984953837516 : True := True.intro
theorem PySem.W.Fast.tw8609833294003980686 : True := True.intro
theorem PySem.W.Fast.tw521673554727290542 : True := True.intro
theorem PySem.W.Fast.tw4321505726608598709 : True := True.intro
theorem PySem.W.Fast.tw12707915488280667079 : True := True.intro
theorem PySem.W.Fast.tw16800403734491204073 : True := True.intro
theorem PySem.W.Fast.tw1913410192646921449 : True := True.intro
theorem PySem.W.Fast.tw9519841166776180667 : True := True.intro
theorem PySem.W.Fast.tw7698585834091358826 : True := True.intro
theorem PySem.W.Fast.tw8018792719991368572 : True := True.intro
theorem PySem.W.Fast.tw350158098877934183 : True := True.intro
theorem PySem.W.Fast.tw12932965625544452070 : True := True.intro
theorem PySem.W.Fast.tw5835354532038007090 : True := True.intro
theorem PySem.W.Fast.tw15832672258265912836 : True := True.intro
theorem PySem.W.Fast.tw5608692155720046723 : True := True.intro
theorem PySem.W.Fast.tw10026218968972416937 : True := True.intro
theorem PySem.W.Fast.tw4826768691029417362 : True := True.intro
theorem PySem.W.Fast.tw953710148906436828 : True := True.intro
theorem PySem.W.Fast.tw11471124296953879309 : True := True.intro
theorem PySem.W.Fast.tw5455892799957004362 : True := True.intro
theorem PySem.W.Fast.tw14682872131363217296 : True := True.intro
theorem PySem.W.Fast.tw4705868815268824054 : True := True.intro
theorem PySem.W.Fast.tw12464974691098122631 : True := True.intro
theorem PySem.W.Fast.tw1684601961844840510 : True := True.intro
theorem PySem.W.Fast.tw7518687561771472322 : True := True.intro
theorem PySem.W.Fast.tw9541040479328245907 : True := True.intro
theorem PySem.W.Fast.tw6438115667831668373 : True := True.intro
theorem PySem.W.Fast.tw15732336770016901874 : True := True.intro
theorem PySem.W.Fast.tw4518982910001011068 : True := True.intro
theorem PySem.W.Fast.tw16712580872664528526 : True := True.intro
theorem PySem.W.Fast.tw5269514360935549204 : True := True.intro
theorem PySem.W.Fast.tw1135002341545465327 : True := True.intro
theorem PySem.W.Fast.tw6558282739109106634 : True := True.intro
theorem PySem.W.Fast.tw8818530460570871151 : True := True.intro
theorem PySem.W.Fast.tw8134299259678757509 : True := True.intro
theorem PySem.W.Fast.tw203020746786972374 : True := True.intro
theorem PySem.W.Fast.tw7308636629676577781 : True := True.intro
theorem PySem.W.Fast.tw13858097062664903343 : True := True.intro
theorem PySem.W.Fast.tw2260149557243398347 : True := True.intro
theorem PySem.W.Fast.tw11417228614324727132 : True := True.intro
theorem PySem.W.Fast.tw10525978284557436022 : True := True.intro
theorem PySem.W.Fast.tw2048337193390539087 : True := True.intro
theorem PySem.W.Fast.tw8222124985027268278 : True := True.intro
theorem PySem.W.Fast.tw1581534053680527828 : True := True.intro
theorem PySem.W.Fast.tw18157505148072580473 : True := True.intro
theorem PySem.W.Fast.tw18016218619349421550 : True := True.intro
theorem PySem.W.Fast.tw15065443337821668484 : True := True.intro
theorem PySem.W.Fast.tw16633742463957201677 : True := True.intro
theorem PySem.W.Fast.tw12835278509791700236 : True := True.intro
theorem PySem.W.Fast.tw3925475238611588538 : True := True.intro
theorem PySem.W.Fast.tw5316485213661116757 : True := True.intro
theorem PySem.W.Fast.tw6862608243425927840 : True := True.intro
theorem PySem.W.Fast.tw13330775978831851118 : True := True.intro
theorem PySem.W.Fast.tw1821379321123949897 : True := True.intro
theorem PySem.W.Fast.tw7901249767976998771 : True := True.intro
theorem PySem.W.Fast.tw12730390964003506893 : True := True.intro
theorem PySem.W.Fast.tw6727333063661299292 : True := True.intro
theorem PySem.W.Fast.tw10553738975359045904 : True := True.intro
theorem PySem.W.Fast.tw7868108917875526293 : True := True.intro
theorem PySem.W.Fast.tw9305126705562108360 : True := True.intro
theorem PySem.W.Fast.tw16627167109397626054 : True := True.intro
theorem PySem.W.Fast.tw3450315500795815649 : True := True.intro
theorem PySem.W.Fast.tw8848358410330101197 : True := True.intro
theorem PySem.W.Fast.tw15283107951752903445 : True := True.intro
theorem PySem.W.Fast.tw17123296638769968076 : True := True.intro
theorem PySem.W.Fast.tw11621697408357850484 : True := True.intro
theorem PySem.W.Fast.tw11903719297050925934 : True := True.intro
theorem PySem.W.Fast.tw6575167670496249200 : True := True.intro
theorem PySem.W.Fast.tw9160984265819068326 : True := True.intro
theorem PySem.W.Fast.tw16519920466692875796 : True := True.intro
theorem PySem.W.Fast.tw9753697358911300757 : True := True.intro
theorem PySem.W.Fast.tw10954299160214047484 : True := True.intro
theorem PySem.W.Fast.tw5885014816128923927 : True := True.intro
theorem PySem.W.Fast.tw640962052910754025 : True := True.intro
theorem PySem.W.Fast.tw5511370135776540680 : True := True.intro
theorem PySem.W.Fast.tw9384321137822064869 : True := True.intro
theorem PySem.W.Fast.tw8575851810145076641 : True := True.intro
theorem PySem.W.Fast.tw13286691919383823128 : True := True.intro
theorem PySem.W.Fast.tw14459430662040644602 : True := True.intro
theorem PySem.W.Fast.tw11491689556327958808 : True := True.intro
theorem PySem.W.Fast.tw17901836959189112504 : True := True.intro
theorem PySem.W.Fast.tw17883234742801359913 : True := True.intro
theorem PySem.W.Fast.tw8522084976903526140 : True := True.intro
theorem PySem.W.Fast.tw743623469457276157 : True := True.intro
theorem PySem.W.Fast.tw8100103550756479429 : True := True.intro
theorem PySem.W.Fast.tw6950092799913449253 : True := True.intro
theorem PySem.W.Fast.tw5910430506918474332 : True := True.intro
theorem PySem.W.Fast.tw1486401802042351366 : True := True.intro
theorem PySem.W.Fast.tw4756798006109258715 : True := True.intro
theorem PySem.W.Fast.tw7396424673623566245 : True := True.intro
theorem PySem.W.Fast.tw12356927176983193858 : True := True.intro
theorem PySem.W.Fast.tw15422694412894300962 : True := True.intro
theorem PySem.W.Fast.tw3697115654336433801 : True := True.intro
theorem PySem.W.Fast.tw11370026860392519318 : True := True.intro
theorem PySem.W.Fast.tw15128164229747915913 : True := True.intro
theorem PySem.W.Fast.tw15801323693023775403 : True := True.intro
theorem PySem.W.Fast.tw13996001313666468480 : True := True.intro
theorem PySem.W.Fast.tw2553528781936918659 : True := True.intro
theorem PySem.W.Fast.tw16863335403326248003 : True := True.intro
theorem PySem.W.Fast.tw7076888752143047256 : True := True.intro
theorem PySem.W.Fast.tw16357248264245491841 : True := True.intro
theorem PySem.W.Fast.tw10623198242554104279 : True := True.intro
theorem PySem.W.Fast.tw3141874051421467982 : True := True.intro
theorem PySem.W.Fast.tw6680803905792182293 : True := True.intro
theorem PySem.W.Fast.tw3428167078910518357 : True := True.intro
theorem PySem.W.Fast.tw5900508492053206628 : True := True.intro
theorem PySem.W.Fast.tw11020988599219638970 : True := True.intro
theorem PySem.W.Fast.tw7485454548876687520 : True := True.intro
theorem PySem.W.Fast.tw7228061121585636923 : True := True.intro
theorem PySem.W.Fast.tw12235828584032465450 : True := True.intro
theorem PySem.W.Fast.tw11883047204862794404 : True := True.intro
theorem PySem.W.Fast.tw16737039016870957127 : True := True.intro
theorem PySem.W.Fast.tw1356779722259303799 : True := True.intro
theorem PySem.W.Fast.tw16470170943428579645 : True := True.intro
theorem PySem.W.Fast.tw637191497832295615 : True := True.intro
theorem PySem.W.Fast.tw4498569688606890393 : True := True.intro
theorem PySem.W.Fast.tw8088783382323590550 : True := True.intro
theorem PySem.W.Fast.tw7287924059219680923 : True := True.intro
theorem PySem.W.Fast.tw16994293438547750004 : True := True.intro
theorem PySem.W.Fast.tw4886847341189619516 : True := True.intro
theorem PySem.W.Fast.tw7422186460828734055 : True := True.intro
theorem PySem.W.Fast.tw1432293726196878073 : True := True.intro
theorem PySem.W.Fast.tw6129918516212711847 : True := True.intro
theorem PySem.W.Fast.tw17712747947500904238 : True := True.intro
theorem PySem.W.Fast.tw11309748325515231429 : True := True.intro
theorem PySem.W.Fast.tw7373473396216227057 : True := True.intro
theorem PySem.W.Fast.tw13541673911933014374 : True := True.intro
theorem PySem.W.Fast.tw5898149101101656537 : True := True.intro
theorem PySem.W.Fast.tw9541490546045255008 : True := True.intro
theorem PySem.W.Fast.tw6830354123349327474 : True := True.intro
theorem PySem.W.Fast.tw12076317653428477439 : True := True.intro
theorem PySem.W.Fast.tw1189107773315162854 : True := True.intro
theorem PySem.W.Fast.tw3274622411233738030 : True := True.intro
theorem PySem.W.Fast.tw13424803147866257613 : True := True.intro
theorem PySem.W.Fast.tw8722813566265587164 : True := True.intro
theorem PySem.W.Fast.tw10479608411679556266 : True := True.intro
theorem PySem.W.Fast.tw4124221693001326290 : True := True.intro
theorem PySem.W.Fast.tw1060437878255323890 : True := True.intro
theorem PySem.W.Fast.tw7551954834692247470 : True := True.intro
theorem PySem.W.Fast.tw11891192189952355832 : True := True.intro
theorem PySem.W.Fast.tw8267624346753149829 : True := True.intro
theorem PySem.W.Fast.tw10171172030439494947 : True := True.intro
theorem PySem.W.Fast.tw2052748506258433435 : True := True.intro
theorem PySem.W.Fast.tw14628377586868431916 : True := True.intro
theorem PySem.W.Fast.tw13448273199516448037 : True := True.intro
theorem PySem.W.Fast.tw9971939247696119280 : True := True.intro
theorem PySem.W.Fast.tw2131619883985331390 : True := True.intro
theorem PySem.W.Fast.tw7577827930964538580 : True := True.intro
theorem PySem.W.Fast.tw3648997030392276256 : True := True.intro
theorem PySem.W.Fast.tw8636999220175338020 : True := True.intro
theorem PySem.W.Fast.tw871091328558794077 : True := True.intro
theorem PySem.W.Fast.tw16735354496501443833 : True := True.intro
theorem PySem.W.Fast.tw16807203661331322010 : True := True.intro
theorem PySem.W.Fast.tw14704377846867138797 : True := True.intro
theorem PySem.W.Fast.tw15462239167958327964 : True := True.intro
theorem PySem.W.Fast.tw15274288182478729158 : True := True.intro
theorem PySem.W.Fast.tw11962090832982233569 : True := True.intro
theorem PySem.W.Fast.tw4443888738191912753 : True := True.intro
theorem PySem.W.Fast.tw11455996503084500358 : True := True.intro
theorem PySem.W.Fast.tw11018888576306613257 : True := True.intro
theorem PySem.W.Fast.tw5225475602196670223 : True := True.intro
theorem PySem.W.Fast.tw8103900956829946934 : True := True.intro
theorem PySem.W.Fast.tw17352471979401491299 : True := True.intro
theorem PySem.W.Fast.tw70504310081465788 : True := True.intro
theorem PySem.W.Fast.tw16287394944151525425 : True := True.intro
theorem PySem.W.Fast.tw5226774300046954420 : True := True.intro
theorem PySem.W.Fast.tw18389381654626860913 : True := True.intro
theorem PySem.W.Fast.tw12777982477330954360 : True := True.intro
theorem PySem.W.Fast.tw1656409975788301322 : True := True.intro
theorem PySem.W.Fast.tw180546095179475360 : True := True.intro
theorem PySem.W.Fast.tw4949546485041547376 : True := True.intro
theorem PySem.W.Fast.tw1495552448284980396 : True := True.intro
theorem PySem.W.Fast.tw8626308912321112357 : True := True.intro
theorem PySem.W.Fast.tw14600887457346148494 : True := True.intro
theorem PySem.W.Fast.tw14029490341871717304 : True := True.intro
theorem PySem.W.Fast.tw5189242389291468501 : True := True.intro
theorem PySem.W.Fast.tw15198392133411065997 : True := True.intro
theorem PySem.W.Fast.tw5625013450060844130 : True := True.intro
theorem PySem.W.Fast.tw13108263454602250573 : True := True.intro
theorem PySem.W.Fast.tw3255017350925929872 : True := True.intro
theorem PySem.W.Fast.tw5325253468603784526 : True := True.intro
open PySem PySem.W PyProof.Rows in
set_option maxRecDepth 100000 in
set_option maxHeartbeats 0 in
theorem PySem.Challenge.cw_neverlate_k11_tables_holds : PySem.Challenge.rw_neverlate_k11_tables.Holds := by
  w_on; o_law; k_head; (case hw => w_witness2)
  k_fill
  refine My.walk (l := PySem.Challenge.rw_neverlate_k11_tables) rfl rfl (fun w h Y => PySem.W.kIn_of Y) ?hF
  case hF =>
    intro w mg fa h KX G hmg
    refine' My.all_mk KX G hmg ?z_abs ?z_bool ?z_int ?z_isinstance ?z_len ?z_list ?z_max ?z_min ?z_range ?z_tuple ?z_zip ?z_lcm ?g_law_row ?l_law_row ?c_law_row ?k_law_row ?g_law_numbers ?l_law_numbers ?c_law_numbers ?k_law_numbers ?g_repeated ?l_repeated ?c_repeated ?k_repeated ?g_rotated ?l_rotated ?c_rotated ?k_rotated ?g_common_length ?l_common_length ?c_common_length ?k_common_length ?g_common ?l_common ?c_common ?k_common ?g_reduced ?l_reduced ?c_reduced ?k_reduced ?g_shortest ?l_shortest ?c_shortest ?k_shortest ?g_repeatedu ?l_repeatedu ?c_repeatedu ?k_repeatedu ?g_rotatedu ?l_rotatedu ?c_rotatedu ?k_rotatedu ?g_common_lengthu ?l_common_lengthu ?c_common_lengthu ?k_common_lengthu ?g_commonu ?l_commonu ?c_commonu ?k_commonu ?g_reducedu ?l_reducedu ?c_reducedu ?k_reducedu ?g_shortestu ?l_shortestu ?c_shortestu ?k_shortestu ?g_joined ?l_joined ?c_joined ?k_joined ?g_repeatedn ?l_repeatedn ?c_repeatedn ?k_repeatedn ?g_rotatedn ?l_rotatedn ?c_rotatedn ?k_rotatedn ?g_shortestn ?l_shortestn ?c_shortestn ?k_shortestn ?g_joinedn ?l_joinedn ?c_joinedn ?k_joinedn ?g_are_alike ?l_are_alike ?c_are_alike ?k_are_alike ?g_are_alikeu ?l_are_alikeu ?c_are_alikeu ?k_are_alikeu ?g_least_rotation ?l_least_rotation ?c_least_rotation ?k_least_rotation ?g_first_rotation ?l_first_rotation ?c_first_rotation ?k_first_rotation ?g_are_rotations ?l_are_rotations ?c_are_rotations ?k_are_rotations ?g_law_slot ?l_law_slot ?c_law_slot ?k_law_slot ?g_law_is_table ?l_law_is_table ?c_law_is_table ?k_law_is_table ?g_law_alike ?l_law_alike ?c_law_alike ?k_law_alike ?g_law_tables ?l_law_tables ?c_law_tables ?k_law_tables ?g_law_shortest ?l_law_shortest ?c_law_shortest ?k_law_shortest ?g_law_least_rotation ?l_law_least_rotation ?c_law_least_rotation ?k_law_least_rotation ?g_law_new_lists ?l_law_new_lists ?c_law_new_lists ?k_law_new_lists ?g_law ?l_law ?c_law ?k_law
    (case z_abs => k_is)
    (case z_bool => k_is)
    (case z_int => k_is)
    (case z_isinstance => k_is)
    (case z_len => k_is)
    (case z_list => k_is)
    (case z_max => k_is)
    (case z_min => k_is)
    (case z_range => k_is)
    (case z_tuple => k_is)
    (case z_zip => k_is)
    (case z_lcm => k_is)
    (case g_law_row => k_is)
    (case l_law_row => k_is)
    (case c_law_row => k_is)
    (case k_law_row => k_is)
    (case g_law_numbers => k_is)
    (case l_law_numbers => k_is)
    (case c_law_numbers => k_is)
    (case k_law_numbers => k_is)
    (case g_repeated => k_is)
    (case l_repeated => k_is)
    (case c_repeated => k_is)
    (case k_repeated => k_is)
    (case g_rotated => k_is)
    (case l_rotated => k_is)
    (case c_rotated => k_is)
    (case k_rotated => k_is)
    (case g_common_length => k_is)
    (case l_common_length => k_is)
    (case c_common_length => k_is)
    (case k_common_length => k_is)
    (case g_common => k_is)
    (case l_common => k_is)
    (case c_common => k_is)
    (case k_common => k_is)
    (case g_reduced => k_is)
    (case l_reduced => k_is)
    (case c_reduced => k_is)
    (case k_reduced => k_is)
    (case g_shortest => k_is)
    (case l_shortest => k_is)
    (case c_shortest => k_is)
    (case k_shortest => k_is)
    (case g_repeatedu => k_is)
    (case l_repeatedu => k_is)
    (case c_repeatedu => k_is)
    (case k_repeatedu => k_is)
    (case g_rotatedu => k_is)
    (case l_rotatedu => k_is)
    (case c_rotatedu => k_is)
    (case k_rotatedu => k_is)
    (case g_common_lengthu => k_is)
    (case l_common_lengthu => k_is)
    (case c_common_lengthu => k_is)
    (case k_common_lengthu => k_is)
    (case g_commonu => k_is)
    (case l_commonu => k_is)
    (case c_commonu => k_is)
    (case k_commonu => k_is)
    (case g_reducedu => k_is)
    (case l_reducedu => k_is)
    (case c_reducedu => k_is)
    (case k_reducedu => k_is)
    (case g_shortestu => k_is)
    (case l_shortestu => k_is)
    (case c_shortestu => k_is)
    (case k_shortestu => k_is)
    (case g_joined => k_is)
    (case l_joined => k_is)
    (case c_joined => k_is)
    (case k_joined => k_is)
    (case g_repeatedn => k_is)
    (case l_repeatedn => k_is)
    (case c_repeatedn => k_is)
    (case k_repeatedn => k_is)
    (case g_rotatedn => k_is)
    (case l_rotatedn => k_is)
    (case c_rotatedn => k_is)
    (case k_rotatedn => k_is)
    (case g_shortestn => k_is)
    (case l_shortestn => k_is)
    (case c_shortestn => k_is)
    (case k_shortestn => k_is)
    (case g_joinedn => k_is)
    (case l_joinedn => k_is)
    (case c_joinedn => k_is)
    (case k_joinedn => k_is)
    (case g_are_alike => k_is)
    (case l_are_alike => k_is)
    (case c_are_alike => k_is)
    (case k_are_alike => k_is)
    (case g_are_alikeu => k_is)
    (case l_are_alikeu => k_is)
    (case c_are_alikeu => k_is)
    (case k_are_alikeu => k_is)
    (case g_least_rotation => k_is)
    (case l_least_rotation => k_is)
    (case c_least_rotation => k_is)
    (case k_least_rotation => k_is)
    (case g_first_rotation => k_is)
    (case l_first_rotation => k_is)
    (case c_first_rotation => k_is)
    (case k_first_rotation => k_is)
    (case g_are_rotations => k_is)
    (case l_are_rotations => k_is)
    (case c_are_rotations => k_is)
    (case k_are_rotations => k_is)
    (case g_law_slot => k_is)
    (case l_law_slot => k_is)
    (case c_law_slot => k_is)
    (case k_law_slot => k_is)
    (case g_law_is_table => k_is)
    (case l_law_is_table => k_is)
    (case c_law_is_table => k_is)
    (case k_law_is_table => k_is)
    (case g_law_alike => k_is)
    (case l_law_alike => k_is)
    (case c_law_alike => k_is)
    (case k_law_alike => k_is)
    (case g_law_tables => k_is)
    (case l_law_tables => k_is)
    (case c_law_tables => k_is)
    (case k_law_tables => k_is)
    (case g_law_shortest => k_is)
    (case l_law_shortest => k_is)
    (case c_law_shortest => k_is)
    (case k_law_shortest => k_is)
    (case g_law_least_rotation => k_is)
    (case l_law_least_rotation => k_is)
    (case c_law_least_rotation => k_is)
    (case k_law_least_rotation => k_is)
    (case g_law_new_lists => k_is)
    (case l_law_new_lists => k_is)
    (case c_law_new_lists => k_is)
    (case k_law_new_lists => k_is)
    (case g_law => k_is)
    (case l_law => k_is)
    (case c_law => k_is)
    (case k_law => k_is)
