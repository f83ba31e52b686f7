import PyProof.Rows.All
import KE.DataMinMax
import KE.GoesEnumKw
import KE.GoesRev
import HandS.RepeatKit
import Wide.All
import OpenK.AllK
import Wide.FinOn
import HandS.ForMost
import HandS.ForExc
import HandS.IsInst
import HandS.Gcd
import HandS.Wide
import HandS.Property
import HandS.MakeKw
import HandS.MakeKwOnly
import HandS.Iter
import HandS.Strs
import HandS.Text
import KE.GoesMore
import PyProof.EnumMake
import KE.DataEq
import HandS.Style
import KE.KTupSum
import KE.DatumOrd
import HandS.SortKw
import HandS.Defaults
import KE.KMathGC
import KE.GoesZip
import KE.GoesEnum
import KE.SortData
import KE.DataCmp
import HandS.CallSlots
import HandS.ExcIs
import HandS.ExcField
import HandS.ExcInit
import HandS.Nested
import HandS.FStr
import HandS.ExcSuper
import HandS.TryOnly
import KE.KExcSuper
import KE.KExcIs
import PyProof.FitsInt
import PyProof.StrBlock2
import HandS.RaiseMore
import HandS.StrMore
import PyProof.NoPylong
import PyProof.Rows.RuleDivmod
import PyProof.Rows.InDataRows
import PyProof.StrLawsIn
import KE.IntTextLaws
import KE.KDictZip
import HandS.Dict
import PySem.Challenge.RW_neverlate_k82_servers
set_option Elab.async false
set_option linter.all false
set_option maxRecDepth 100000
set_option maxHeartbeats 0
namespace Nz
open PySem PySem.Spec PyProof.Rows L2
/-- data that never changes any more -/
inductive D where
  | non | bl (b : Bool) | int (i : Int) | str (s : Str)
  | tup (xs : List D) | lst (xs : List D) | obj (c : Str) (fs : List (Str × D))
  | dK (kvs : List (Key × D)) | dT (kvs : List (List Key × D))
abbrev Frag := PySem.W.Frag
abbrev Mg := Str → Option Value
mutual
inductive Rep (K : Frag) (mg : Mg) (F : Hp) : D → V → Prop
  | non : Rep K mg F .non .non
  | bl (b : Bool) : Rep K mg F (.bl b) (.bl b)
  | int (i : Int) : Rep K mg F (.int i) (.int i)
  | str (s : Str) : Rep K mg F (.str s) (.str s)
  | tup {a : Addr} {ds : List D} {vs : List V} : SqT K F a vs → Reps K mg F ds vs → Rep K mg F (.tup ds) (.ref a)
  | lst {a : Addr} {ds : List D} {vs : List V} : SqL K F a vs → Reps K mg F ds vs → Rep K mg F (.lst ds) (.ref a)
  | obj {a dx C : Addr} {c : Str} {fs : List (Str × D)} {vs : List (Str × V)} : mg c = some (.ref C) → F a = some (.ins C dx vs) → F dx = some (.own a) →
      RepF K mg F fs vs → Rep K mg F (.obj c fs) (.ref a)
  | dK {a : Addr} {kvs : List (Key × D)} {vs : List (Key × V)} : F a = some (.dK vs) → kvs.map Prod.fst = vs.map Prod.fst → Reps K mg F (kvs.map Prod.snd) (vs.map Prod.snd) → Rep K mg F (.dK kvs) (.ref a)
  | dT {a : Addr} {kvs : List (List Key × D)} {vs : List (List Key × V)} : F a = some (.dT vs) → kvs.map Prod.fst = vs.map Prod.fst → Reps K mg F (kvs.map Prod.snd) (vs.map Prod.snd) → Rep K mg F (.dT kvs) (.ref a)
inductive Reps (K : Frag) (mg : Mg) (F : Hp) : List D → List V → Prop
  | nil : Reps K mg F [] []
  | cons {d : D} {v : V} {ds : List D} {vs : List V} : Rep K mg F d v → Reps K mg F ds vs → Reps K mg F (d :: ds) (v :: vs)
inductive RepF (K : Frag) (mg : Mg) (F : Hp) : List (Str × D) → List (Str × V) → Prop
  | nil : RepF K mg F [] []
  | cons {n : Str} {d : D} {v : V} {ds : List (Str × D)} {vs : List (Str × V)} : Rep K mg F d v → RepF K mg F ds vs → RepF K mg F ((n, d) :: ds) ((n, v) :: vs)
end
theorem _root_.L2.Same.seqT {K : Frag} {H H' : Hp} {a : Addr} {xs : List V} (e : Same H H') (h : SqT K H a xs) : SqT K H' a xs := by
  rcases h with (h | ⟨o, h⟩) | h
  · exact .inl (.inl (e _ _ h))
  · exact .inl (.inr ⟨o, e _ _ h⟩)
  · exact .inr h
section
variable {K : Frag} {mg : Mg} {F F' : Hp}
mutual
theorem Rep.mono (s : Same F F') : ∀ {d : D} {v : V}, Rep K mg F d v → Rep K mg F' d v
  | _, _, .non => .non
  | _, _, .bl b => .bl b
  | _, _, .int i => .int i
  | _, _, .str x => .str x
  | _, _, .tup h r => .tup (s.seqT h) (Reps.mono s r)
  | _, _, .lst h r => .lst (s.seq h) (Reps.mono s r)
  | _, _, .obj m h1 h2 r => .obj m (s _ _ h1) (s _ _ h2) (RepF.mono s r)
  | _, _, .dK h e r => .dK (s _ _ h) e (Reps.mono s r)
  | _, _, .dT h e r => .dT (s _ _ h) e (Reps.mono s r)
theorem Reps.mono (s : Same F F') : ∀ {d : List D} {v : List V}, Reps K mg F d v → Reps K mg F' d v
  | _, _, .nil => .nil
  | _, _, .cons h r => .cons (Rep.mono s h) (Reps.mono s r)
theorem RepF.mono (s : Same F F') : ∀ {d : List (Str × D)} {v : List (Str × V)}, RepF K mg F d v → RepF K mg F' d v
  | _, _, .nil => .nil
  | _, _, .cons h r => .cons (Rep.mono s h) (RepF.mono s r)
end
theorem Reps.length : ∀ {ds : List D} {vs : List V}, Reps K mg F ds vs → ds.length = vs.length
  | _, _, .nil => rfl
  | _, _, .cons _ r => congrArg (· + 1) (Reps.length r)
theorem Reps.get : ∀ {ds : List D} {vs : List V} {i : Nat} {d : D}, Reps K mg F ds vs → ds[i]? = some d → ∃ v, vs[i]? = some v ∧ Rep K mg F d v
  | _, _, _, _, .nil, h => by simp at h
  | _, _, 0, _, .cons h r, e => by simp at e; subst e; exact ⟨_, rfl, h⟩
  | _, _, i + 1, _, .cons h r, e => by
    obtain ⟨v, h1, h2⟩ := Reps.get (i := i) r (by simpa using e)
    exact ⟨v, by simpa using h1, h2⟩
theorem Reps.append : ∀ {ds es : List D} {vs us : List V}, Reps K mg F ds vs → Reps K mg F es us → Reps K mg F (ds ++ es) (vs ++ us)
  | _, _, _, _, .nil, s => s
  | _, _, _, _, .cons h r, s => .cons h (r.append s)
theorem Reps.ints : ∀ {ns : List Int}, Reps K mg F (ns.map D.int) (ns.map V.int)
  | [] => .nil
  | _ :: ns => .cons (.int _) (Reps.ints (ns := ns))
theorem Reps.ints_eq : ∀ {ns : List Int} {vs : List V}, Reps K mg F (ns.map D.int) vs → vs = ns.map V.int
  | [], _, .nil => rfl
  | _ :: ns, _, .cons h r => by
    cases h
    rw [Reps.ints_eq (ns := ns) r]; rfl
theorem Reps.set : ∀ {ds : List D} {vs : List V} (i : Nat) {d : D} {v : V}, Reps K mg F ds vs → Rep K mg F d v → Reps K mg F (ds.set i d) (vs.set i v)
  | _, _, _, _, _, .nil, _ => .nil
  | _, _, 0, _, _, .cons _ r, h => .cons h r
  | _, _, i + 1, _, _, .cons q r, h => .cons q (r.set i h)
theorem Reps.take : ∀ {ds : List D} {vs : List V} (i : Nat), Reps K mg F ds vs → Reps K mg F (ds.take i) (vs.take i)
  | _, _, 0, _ => by simpa using Reps.nil
  | _, _, _ + 1, .nil => .nil
  | _, _, i + 1, .cons q r => .cons q (r.take i)
theorem Reps.drop : ∀ {ds : List D} {vs : List V} (i : Nat), Reps K mg F ds vs → Reps K mg F (ds.drop i) (vs.drop i)
  | _, _, 0, r => r
  | _, _, _ + 1, .nil => .nil
  | _, _, i + 1, .cons _ r => r.drop i
theorem RepF.look : ∀ {ds : List (Str × D)} {vs : List (Str × V)} {n : Str} {d : D}, RepF K mg F ds vs → ds.lookup n = some d → ∃ v, vs.lookup n = some v ∧ Rep K mg F d v
  | _, _, _, _, .nil, h => by simp at h
  | _, _, n, d, .cons (n := m) h r, e => by
    rw [List.lookup_cons] at e ⊢
    cases q : (n == m) with
    | true => rw [q] at e; cases e; exact ⟨_, rfl, h⟩
    | false => rw [q] at e; exact RepF.look r e
end
/-- a cell: frozen data, or the live object of this name -/
inductive Ce where
  | fr (d : D) | ad (n : Nat) | xv (u : V)
/-- a live object -/
inductive LO where
  | fl (ds : List D)                    -- a list of frozen data
  | cl (cs : List Ce)                   -- a list of cells
  | ins (c : Str) (fs : List (Str × Ce)) -- an instance
  | dT (kvs : List (List Key × D))
  | dK (kvs : List (Key × D))
  | dC (kvs : List (Key × Ce))
/-- a state: the slots, the live objects -/
structure S where
  ρ : List (Option Ce)
  L : List (Nat × LO)
def names (L : List (Nat × LO)) : List Nat := L.map (·.1)
def CRel (K : Frag) (mg : Mg) (F : Hp) (α : Nat → Addr) (L : List (Nat × LO)) (c : Ce) (v : V) : Prop :=
  match c with
  | .fr d => Rep K mg F d v
  | .ad n => n ∈ names L ∧ v = .ref (α n)
  | .xv u => v = u
inductive CRels (K : Frag) (mg : Mg) (F : Hp) (α : Nat → Addr) (L : List (Nat × LO)) : List Ce → List V → Prop
  | nil : CRels K mg F α L [] []
  | cons {c : Ce} {v : V} {cs : List Ce} {vs : List V} : CRel K mg F α L c v → CRels K mg F α L cs vs → CRels K mg F α L (c :: cs) (v :: vs)
inductive CRelF (K : Frag) (mg : Mg) (F : Hp) (α : Nat → Addr) (L : List (Nat × LO)) : List (Str × Ce) → List (Str × V) → Prop
  | nil : CRelF K mg F α L [] []
  | cons {n : Str} {c : Ce} {v : V} {cs : List (Str × Ce)} {vs : List (Str × V)} : CRel K mg F α L c v → CRelF K mg F α L cs vs → CRelF K mg F α L ((n, c) :: cs) ((n, v) :: vs)
inductive CRelK {κ : Type} (K : Frag) (mg : Mg) (F : Hp) (α : Nat → Addr) (L : List (Nat × LO)) : List (κ × Ce) → List (κ × V) → Prop
  | nil : CRelK K mg F α L [] []
  | cons {n : κ} {c : Ce} {v : V} {cs : List (κ × Ce)} {vs : List (κ × V)} : CRel K mg F α L c v → CRelK K mg F α L cs vs → CRelK K mg F α L ((n, c) :: cs) ((n, v) :: vs)
/-- the slots -/
inductive SlR (K : Frag) (mg : Mg) (F : Hp) (α : Nat → Addr) (L : List (Nat × LO)) : List (Option Ce) → L2.St → Prop
  | nil : SlR K mg F α L [] []
  | no {o : Option V} {cs : List (Option Ce)} {vs : L2.St} : SlR K mg F α L cs vs → SlR K mg F α L (none :: cs) (o :: vs)
  | so {c : Ce} {v : V} {cs : List (Option Ce)} {vs : L2.St} : CRel K mg F α L c v → SlR K mg F α L cs vs → SlR K mg F α L (some c :: cs) (some v :: vs)
/-- what a def was entered with: the frozen heap, the heap, what it may change -/
structure Bd where
  F0 : Hp
  H0 : Hp
  fp : Addr → Prop
  pa : Nat → Option Addr
  hpa : ∀ n, 100 ≤ n → pa n = none
/-- the live object o stands at a -/
def LAt (K : Frag) (mg : Mg) (B : Bd) (F : Hp) (α : Nat → Addr) (L : List (Nat × LO)) (H : Hp) (a : Addr) : LO → Prop
  | .fl ds => ∃ vs, H a = some (.lst vs) ∧ Reps K mg F ds vs
  | .cl cs => ∃ vs, H a = some (.lst vs) ∧ CRels K mg F α L cs vs
  | .ins c fs => ∃ C dx vs, mg c = some (.ref C) ∧ H a = some (.ins C dx vs) ∧ H dx = some (.own a) ∧ F dx = none ∧ (B.H0 dx = none ∨ B.fp dx) ∧ CRelF K mg F α L fs vs
  | .dT kvs => ∃ vs, H a = some (.dT vs) ∧ Paired (fun (p : List Key × D) (q : List Key × V) => p.1 = q.1 ∧ Rep K mg F p.2 q.2) kvs vs
  | .dK kvs => ∃ vs, H a = some (.dK vs) ∧ Paired (fun (p : Key × D) (q : Key × V) => p.1 = q.1 ∧ Rep K mg F p.2 q.2) kvs vs
  | .dC kvs => ∃ vs, H a = some (.dK vs) ∧ CRelK K mg F α L kvs vs
structure Rel (K : Frag) (mg : Mg) (B : Bd) (F : Hp) (α : Nat → Addr) (H : Hp) (σ : L2.St) (S : S) : Prop where
  sub : Same F H
  bF : Same B.F0 F
  nF : ∀ b o, F b = some o → B.F0 b = some o ∨ B.H0 b = none ∨ B.fp b
  frame : ∀ b o, B.H0 b = some o → ¬ B.fp b → H b = some o
  nd : (names S.L).Nodup
  inj : ∀ n m, n ∈ names S.L → m ∈ names S.L → α n = α m → n = m
  live : ∀ n o, (n, o) ∈ S.L → F (α n) = none ∧ (B.H0 (α n) = none ∨ B.fp (α n)) ∧ LAt K mg B F α S.L H (α n) o
  slots : SlR K mg F α S.L S.ρ σ
  fix : ∀ n a, B.pa n = some a → n ∈ names S.L → α n = a
/-- a step keeps what is frozen, and the names of what lives -/
structure Stp (F : Hp) (α : Nat → Addr) (L : List (Nat × LO)) (F' : Hp) (α' : Nat → Addr) : Prop where
  fro : Same F F'
  nm : ∀ n, n ∈ names L → α' n = α n
def wE (X : Cx) (e : Expr) (σ : L2.St) (H : Hp) (Q : VK) : Prop :=
  ∀ pins s, Inv X pins σ H s → wpAny (model X.prog X.w) X.A (eval e X.env) (EP X pins σ Q) X.xe s
def wT (X : Cx) (e : Expr) (σ : L2.St) (H : Hp) (Q : Bool → Hp → Prop) : Prop :=
  ∀ pins s, Inv X pins σ H s → wpAny (model X.prog X.w) X.A (isTrue e X.env (eval e X.env)) (TP X pins σ Q) X.xe s
def wA (X : Cx) (es : List Expr) (σ : L2.St) (H : Hp) (Q : List V → Hp → Prop) : Prop :=
  ∀ pos pins s, Inv X pins σ H s → wpAny (model X.prog X.w) X.A (spliced (backTo pos (starEach es X.env))) (AP X pins σ Q) X.xe s
def wS (X : Cx) (st : Stmt) (D : Ends) (σ : L2.St) (H : Hp) : Prop :=
  ∀ pins s, Inv X pins σ H s → wpAny (model X.prog X.w) X.A (exec st X.env) (SP X pins D) X.xe s
def wSs (X : Cx) (st : List Stmt) (D : Ends) (σ : L2.St) (H : Hp) : Prop :=
  ∀ pins s, Inv X pins σ H s → wpAny (model X.prog X.w) X.A (execs st X.env) (SP X pins D) X.xe s
theorem pe_w {X : Cx} {e : Expr} : PE X e (wE X e) := ⟨fun pins s σ H Q I h => h pins s I⟩
theorem pt_w {X : Cx} {e : Expr} : PT X e (wT X e) := ⟨fun pins s σ H Q I h => h pins s I⟩
theorem pa_w {X : Cx} {e : List Expr} : PA X e (wA X e) := ⟨fun pos pins s σ H Q I h => h pos pins s I⟩
theorem ps_w {X : Cx} {e : Stmt} : PS X e (wS X e) := ⟨fun pins s σ H Q I h => h pins s I⟩
theorem pss_w {X : Cx} {e : List Stmt} : PSs X e (wSs X e) := ⟨fun pins s σ H Q I h => h pins s I⟩
theorem wE.of {X : Cx} {e : Expr} {t : TE} {σ : L2.St} {H : Hp} {Q : VK} (h : PE X e t) (q : t σ H Q) : wE X e σ H Q := fun pins s I => h.run pins s σ H Q I q
theorem wT.of {X : Cx} {e : Expr} {t : TT} {σ : L2.St} {H : Hp} {Q : Bool → Hp → Prop} (h : PT X e t) (q : t σ H Q) : wT X e σ H Q := fun pins s I => h.run pins s σ H Q I q
theorem wA.of {X : Cx} {e : List Expr} {t : TA} {σ : L2.St} {H : Hp} {Q : List V → Hp → Prop} (h : PA X e t) (q : t σ H Q) : wA X e σ H Q := fun pos pins s I => h.run pos pins s σ H Q I q
theorem wS.of {X : Cx} {e : Stmt} {t : TS} {σ : L2.St} {H : Hp} {D : Ends} (h : PS X e t) (q : t D σ H) : wS X e D σ H := fun pins s I => h.run pins s σ H D I q
theorem wSs.of {X : Cx} {e : List Stmt} {t : TS} {σ : L2.St} {H : Hp} {D : Ends} (h : PSs X e t) (q : t D σ H) : wSs X e D σ H := fun pins s I => h.run pins s σ H D I q
abbrev RelX (X : Cx) := Rel X.K X.mg
abbrev CR (X : Cx) := CRel X.K X.mg
/-- e in the state S gives c and leaves S' -/
def Ev (X : Cx) (B : Bd) (e : Expr) (S : S) (c : Ce) (S' : Nz.S) : Prop :=
  ∀ F α H σ Q, RelX X B F α H σ S → (∀ F' α' v H', RelX X B F' α' H' σ S' → Stp F α S.L F' α' → CR X F' α' S'.L c v → Q v H') → wE X e σ H Q
def Et (X : Cx) (B : Bd) (e : Expr) (S : S) (b : Bool) (S' : Nz.S) : Prop :=
  ∀ F α H σ Q, RelX X B F α H σ S → (∀ F' α' H', RelX X B F' α' H' σ S' → Stp F α S.L F' α' → Q b H') → wT X e σ H Q
def Ea (X : Cx) (B : Bd) (es : List Expr) (S : S) (cs : List Ce) (S' : Nz.S) : Prop :=
  ∀ F α H σ Q, RelX X B F α H σ S → (∀ F' α' vs H', RelX X B F' α' H' σ S' → Stp F α S.L F' α' → CRels X.K X.mg F' α' S'.L cs vs → Q vs H') → wA X es σ H Q
/-- how a statement ends -/
inductive Out where
  | nx (S : S) | ret (c : Ce) (S : S) | bk (S : S) | ct (S : S)
structure OutOk (X : Cx) (B : Bd) (F : Hp) (K : Out → Prop) (D : Ends) : Prop where
  nx : ∀ S' F' α' H' σ', K (.nx S') → RelX X B F' α' H' σ' S' → Same F F' → D.nx σ' H'
  bk : ∀ S' F' α' H' σ', K (.bk S') → RelX X B F' α' H' σ' S' → Same F F' → D.bk σ' H'
  ct : ∀ S' F' α' H' σ', K (.ct S') → RelX X B F' α' H' σ' S' → Same F F' → D.ct σ' H'
  ret : ∀ c S' F' α' H' σ' v, K (.ret c S') → RelX X B F' α' H' σ' S' → Same F F' → CR X F' α' S'.L c v → D.rt v H'
theorem OutOk.mono {X : Cx} {B : Bd} {F F' : Hp} {K : Out → Prop} {D : Ends} (h : OutOk X B F K D) (s : Same F F') : OutOk X B F' K D :=
  ⟨fun S' F1 α' H' σ' k r q => h.nx _ _ _ _ _ k r (s.trans q), fun S' F1 α' H' σ' k r q => h.bk _ _ _ _ _ k r (s.trans q), fun S' F1 α' H' σ' k r q => h.ct _ _ _ _ _ k r (s.trans q),
    fun c S' F1 α' H' σ' v k r q z => h.ret _ _ _ _ _ _ _ k r (s.trans q) z⟩
def Ex (X : Cx) (B : Bd) (st : Stmt) (S : S) (K : Out → Prop) : Prop :=
  ∀ F α H σ D, RelX X B F α H σ S → OutOk X B F K D → wS X st D σ H
def Exs (X : Cx) (B : Bd) (st : List Stmt) (S : S) (K : Out → Prop) : Prop :=
  ∀ F α H σ D, RelX X B F α H σ S → OutOk X B F K D → wSs X st D σ H
end Nz
namespace Nz
open PySem PySem.Spec PyProof.Rows L2
def getL (n : Nat) : List (Nat × LO) → Option LO
  | [] => none
  | (m, o) :: r => if n = m then some o else getL n r
def setL (n : Nat) (o : LO) : List (Nat × LO) → List (Nat × LO)
  | [] => []
  | (m, u) :: r => if n = m then (m, o) :: r else (m, u) :: setL n o r
theorem getL_mem : ∀ {L : List (Nat × LO)} {n : Nat} {o : LO}, getL n L = some o → (n, o) ∈ L
  | (m, u) :: r, n, o, h => by
    unfold getL at h
    split at h
    · rename_i e; cases h; rw [e]; exact List.mem_cons_self
    · exact List.mem_cons_of_mem _ (getL_mem h)
theorem mem_names {L : List (Nat × LO)} {n : Nat} {o : LO} (h : (n, o) ∈ L) : n ∈ names L := List.mem_map.mpr ⟨_, h, rfl⟩
theorem names_setL : ∀ (L : List (Nat × LO)) (n : Nat) (o : LO), names (setL n o L) = names L
  | [], _, _ => rfl
  | (m, u) :: r, n, o => by
    unfold setL
    split
    · rfl
    · show m :: names (setL n o r) = m :: names r
      rw [names_setL r n o]
theorem mem_setL : ∀ {L : List (Nat × LO)} {n m : Nat} {o u : LO}, (names L).Nodup → (m, u) ∈ setL n o L → (m = n ∧ u = o) ∨ (m ≠ n ∧ (m, u) ∈ L)
  | (k, w) :: r, n, m, o, u, nd, h => by
    have nd' : k ∉ names r ∧ (names r).Nodup := List.nodup_cons.mp nd
    unfold setL at h
    split at h
    · rename_i e
      subst e
      rcases List.mem_cons.mp h with h | h
      · cases h; exact .inl ⟨rfl, rfl⟩
      · exact .inr ⟨fun q => nd'.1 (q ▸ mem_names h), List.mem_cons_of_mem _ h⟩
    · rename_i e
      rcases List.mem_cons.mp h with h | h
      · cases h; exact .inr ⟨fun q => e q.symm, List.mem_cons_self⟩
      · rcases mem_setL nd'.2 h with h | ⟨h1, h2⟩
        · exact .inl h
        · exact .inr ⟨h1, List.mem_cons_of_mem _ h2⟩
section
variable {K : Frag} {mg : Mg} {F F' : Hp} {α α' : Nat → Addr} {L L' : List (Nat × LO)}
theorem Stp.refl : Stp F α L F α := ⟨Same.refl _, fun _ _ => rfl⟩
theorem Stp.trans {F2 : Hp} {α2 : Nat → Addr} (a : Stp F α L F' α') (b : Stp F' α' L' F2 α2) (s : ∀ n, n ∈ names L → n ∈ names L') : Stp F α L F2 α2 :=
  ⟨a.fro.trans b.fro, fun n h => (b.nm n (s n h)).trans (a.nm n h)⟩
theorem CRel.step (st : Stp F α L F' α') (hs : ∀ n, n ∈ names L → n ∈ names L') : ∀ {c : Ce} {v : V}, CRel K mg F α L c v → CRel K mg F' α' L' c v
  | .fr _, _, h => Rep.mono st.fro h
  | .ad n, _, ⟨h1, h2⟩ => ⟨hs n h1, by rw [h2, st.nm n h1]⟩
  | .xv _, _, h => h
theorem CRels.step (st : Stp F α L F' α') (hs : ∀ n, n ∈ names L → n ∈ names L') : ∀ {c : List Ce} {v : List V}, CRels K mg F α L c v → CRels K mg F' α' L' c v
  | _, _, .nil => .nil
  | _, _, .cons h r => .cons (h.step st hs) (r.step st hs)
theorem CRelF.step (st : Stp F α L F' α') (hs : ∀ n, n ∈ names L → n ∈ names L') : ∀ {c : List (Str × Ce)} {v : List (Str × V)}, CRelF K mg F α L c v → CRelF K mg F' α' L' c v
  | _, _, .nil => .nil
  | _, _, .cons h r => .cons (h.step st hs) (r.step st hs)
theorem CRelK.step {κ : Type} (st : Stp F α L F' α') (hs : ∀ n, n ∈ names L → n ∈ names L') : ∀ {c : List (κ × Ce)} {v : List (κ × V)}, CRelK K mg F α L c v → CRelK K mg F' α' L' c v
  | _, _, .nil => .nil
  | _, _, .cons h r => .cons (h.step st hs) (r.step st hs)
theorem SlR.step (st : Stp F α L F' α') (hs : ∀ n, n ∈ names L → n ∈ names L') : ∀ {c : List (Option Ce)} {v : L2.St}, SlR K mg F α L c v → SlR K mg F' α' L' c v
  | _, _, .nil => .nil
  | _, _, .no r => .no (r.step st hs)
  | _, _, .so h r => .so (h.step st hs) (r.step st hs)
theorem SlR.get : ∀ {c : List (Option Ce)} {σ : L2.St} {i : Nat} {x : Ce}, SlR K mg F α L c σ → c[i]? = some (some x) → ∃ v, σ[i]? = some (some v) ∧ CRel K mg F α L x v
  | _, _, _, _, .nil, h => by simp at h
  | _, _, 0, _, .no _, h => by simp at h
  | _, _, 0, _, .so h _, e => by simp at e; subst e; exact ⟨_, rfl, h⟩
  | _, _, i + 1, _, .no r, e => by
    obtain ⟨v, h1, h2⟩ := SlR.get (i := i) r (by simpa using e)
    exact ⟨v, by simpa using h1, h2⟩
  | _, _, i + 1, _, .so _ r, e => by
    obtain ⟨v, h1, h2⟩ := SlR.get (i := i) r (by simpa using e)
    exact ⟨v, by simpa using h1, h2⟩
theorem SlR.set : ∀ {c : List (Option Ce)} {σ : L2.St} (i : Nat) {x : Ce} {v : V}, SlR K mg F α L c σ → CRel K mg F α L x v → SlR K mg F α L (c.set i (some x)) (σ.set i (some v))
  | _, _, _, _, _, .nil, _ => .nil
  | _, _, 0, _, _, .no r, h => .so h r
  | _, _, 0, _, _, .so _ r, h => .so h r
  | _, _, i + 1, _, _, .no r, h => .no (r.set i h)
  | _, _, i + 1, _, _, .so q r, h => .so q (r.set i h)
theorem CRels.fr : ∀ {ds : List D} {vs : List V}, CRels K mg F α L (ds.map Ce.fr) vs → Reps K mg F ds vs
  | [], _, .nil => .nil
  | _ :: _, _, .cons h r => .cons h (CRels.fr r)
theorem CRels.length : ∀ {c : List Ce} {v : List V}, CRels K mg F α L c v → c.length = v.length
  | _, _, .nil => rfl
  | _, _, .cons _ r => congrArg (· + 1) r.length
theorem CRels.append : ∀ {c c' : List Ce} {v v' : List V}, CRels K mg F α L c v → CRels K mg F α L c' v' → CRels K mg F α L (c ++ c') (v ++ v')
  | _, _, _, _, .nil, s => s
  | _, _, _, _, .cons h r, s => .cons h (r.append s)
theorem CRels.get : ∀ {ds : List Ce} {vs : List V} {i : Nat} {d : Ce}, CRels K mg F α L ds vs → ds[i]? = some d → ∃ v, vs[i]? = some v ∧ CRel K mg F α L d v
  | _, _, _, _, .nil, h => by simp at h
  | _, _, 0, _, .cons h r, e => by simp at e; subst e; exact ⟨_, rfl, h⟩
  | _, _, i + 1, _, .cons h r, e => by
    obtain ⟨v, h1, h2⟩ := CRels.get (i := i) r (by simpa using e)
    exact ⟨v, by simpa using h1, h2⟩
theorem CRelF.look : ∀ {ds : List (Str × Ce)} {vs : List (Str × V)} {n : Str} {d : Ce}, CRelF K mg F α L ds vs → ds.lookup n = some d → ∃ v, vs.lookup n = some v ∧ CRel K mg F α L d v
  | _, _, _, _, .nil, h => by simp at h
  | _, _, n, d, .cons (n := m) h r, e => by
    rw [List.lookup_cons] at e ⊢
    cases q : (n == m) with
    | true => rw [q] at e; cases e; exact ⟨_, rfl, h⟩
    | false => rw [q] at e; exact CRelF.look r e
variable {B : Bd} {H H' : Hp} {a : Addr}
theorem Paired.imp {κ μ : Type} {R R' : κ → μ → Prop} (h : ∀ a b, R a b → R' a b) : ∀ {xs : List κ} {ys : List μ}, Paired R xs ys → Paired R' xs ys
  | _, _, .nil => .nil
  | _, _, .cons r t => .cons (h _ _ r) (Paired.imp h t)
theorem LAt.step {o : LO} (st : Stp F α L F' α') (hs : ∀ n, n ∈ names L → n ∈ names L') (hH : ∀ b u, H b = some u → H' b = some u) (hF : ∀ b u, F' b = some u → F b = some u ∨ H b = none)
    (h : LAt K mg B F α L H a o) : LAt K mg B F' α' L' H' a o := by
  cases o with
  | fl ds => obtain ⟨vs, e, r⟩ := h; exact ⟨vs, hH _ _ e, r.mono st.fro⟩
  | cl cs => obtain ⟨vs, e, r⟩ := h; exact ⟨vs, hH _ _ e, r.step st hs⟩
  | ins c fs =>
    obtain ⟨C, dx, vs, m, e1, e2, e3, e4, r⟩ := h
    refine ⟨C, dx, vs, m, hH _ _ e1, hH _ _ e2, ?_, e4, r.step st hs⟩
    cases q : F' dx with
    | none => rfl
    | some u =>
      rcases hF _ _ q with z | z
      · rw [e3] at z; cases z
      · rw [e2] at z; cases z
  | dT kvs => obtain ⟨vs, e, r⟩ := h; exact ⟨vs, hH _ _ e, Paired.imp (fun _ _ z => ⟨z.1, z.2.mono st.fro⟩) r⟩
  | dK kvs => obtain ⟨vs, e, r⟩ := h; exact ⟨vs, hH _ _ e, Paired.imp (fun _ _ z => ⟨z.1, z.2.mono st.fro⟩) r⟩
  | dC kvs => obtain ⟨vs, e, r⟩ := h; exact ⟨vs, hH _ _ e, r.step st hs⟩
theorem LAt.is {o : LO} (h : LAt K mg B F α L H a o) : ∃ u, H a = some u := by
  cases o with
  | fl ds => obtain ⟨vs, e, r⟩ := h; exact ⟨_, e⟩
  | cl cs => obtain ⟨vs, e, r⟩ := h; exact ⟨_, e⟩
  | ins c fs => obtain ⟨C, dx, vs, m, e1, _⟩ := h; exact ⟨_, e1⟩
  | dT kvs => obtain ⟨vs, e, r⟩ := h; exact ⟨_, e⟩
  | dK kvs => obtain ⟨vs, e, r⟩ := h; exact ⟨_, e⟩
  | dC kvs => obtain ⟨vs, e, r⟩ := h; exact ⟨_, e⟩
variable {σ : L2.St} {S : Nz.S}
/-- the heap grows, and what is frozen by new things -/
theorem Rel.grow (R : Rel K mg B F α H σ S) (hF : Same F F') (hH : Same H H') (hs : Same F' H') (hn : ∀ b u, F' b = some u → F b = some u ∨ H b = none) : Rel K mg B F' α H' σ S := by
  have st : Stp F α S.L F' α := ⟨hF, fun _ _ => rfl⟩
  refine ⟨hs, R.bF.trans hF, fun b o e => ?_, fun b o e n => hH _ _ (R.frame b o e n), R.nd, R.inj, fun n o h => ?_, R.slots.step st fun _ z => z, R.fix⟩
  · rcases hn b o e with z | z
    · exact R.nF b o z
    · refine .inr ?_
      by_cases f : B.fp b
      · exact .inr f
      · refine .inl ?_
        cases q : B.H0 b with
        | none => rfl
        | some u => rw [R.frame b u q f] at z; cases z
  · obtain ⟨h1, h2, h3⟩ := R.live n o h
    refine ⟨?_, h2, h3.step st (fun _ z => z) hH hn⟩
    cases q : F' (α n) with
    | none => rfl
    | some u =>
      obtain ⟨w', hw⟩ := h3.is
      rcases hn _ _ q with z | z
      · rw [h1] at z; cases z
      · rw [hw] at z; cases z
theorem same_upd {H : Hp} {p : Addr} {o : HO} (h : H p = none) : Same H (upd H p o) := fun b u e => by rw [upd_ne (ne_of_none e h)]; exact e
theorem Rel.fresh (R : Rel K mg B F α H σ S) {p : Addr} (h : H p = none) : F p = none := R.sub.free h
/-- a new frozen thing -/
theorem Rel.allocF (R : Rel K mg B F α H σ S) {p : Addr} {o : HO} (h : H p = none) : Rel K mg B (upd F p o) α (upd H p o) σ S := by
  refine R.grow (same_upd (R.fresh h)) (same_upd h) (fun b u e => ?_) fun b u e => ?_
  · by_cases q : b = p
    · subst q; rw [upd_same] at e ⊢; exact e
    · rw [upd_ne q] at e ⊢; exact R.sub b u e
  · by_cases q : b = p
    · subst q; exact .inr h
    · rw [upd_ne q] at e; exact .inl e
theorem stp_allocF {p : Addr} {o : HO} (h : F p = none) : Stp F α L (upd F p o) α := ⟨same_upd h, fun _ _ => rfl⟩
def setα (α : Nat → Addr) (n : Nat) (p : Addr) : Nat → Addr := fun m => if m = n then p else α m
theorem stp_setα {n : Nat} {p : Addr} (h : n ∉ names L) : Stp F α L F (setα α n p) := ⟨Same.refl _, fun m hm => by show (if m = n then p else α m) = α m; rw [if_neg (show ¬ m = n from fun q => h (by rw [← q]; exact hm))]⟩
theorem names_append (L : List (Nat × LO)) (n : Nat) (o : LO) : names (L ++ [(n, o)]) = names L ++ [n] := by simp [names]
/-- a new live thing -/
theorem Rel.allocL (R : Rel K mg B F α H σ S) {p : Addr} {o : HO} {n : Nat} {u : LO} (h : H p = none) (hn : n ∉ names S.L) (h100 : 100 ≤ n)
    (new : LAt K mg B F (setα α n p) (S.L ++ [(n, u)]) (upd H p o) p u) : Rel K mg B F (setα α n p) (upd H p o) σ ⟨S.ρ, S.L ++ [(n, u)]⟩ := by
  have st : Stp F α S.L F (setα α n p) := stp_setα hn
  have hsub : ∀ m, m ∈ names S.L → m ∈ names (S.L ++ [(n, u)]) := fun m hm => by rw [names_append]; exact List.mem_append_left _ hm
  have hself : setα α n p n = p := by unfold setα; rw [if_pos rfl]
  have hp0 : B.H0 p = none ∨ B.fp p := by
    by_cases f : B.fp p
    · exact .inr f
    · refine .inl ?_
      cases q : B.H0 p with
      | none => rfl
      | some w' => rw [R.frame p w' q f] at h; cases h
  refine ⟨fun b w' e => same_upd h b w' (R.sub b w' e), R.bF, R.nF, fun b w' e f => same_upd h b w' (R.frame b w' e f), ?_, ?_, ?_, R.slots.step st hsub, fun m a e hm => ?_⟩
  · rw [names_append]
    exact List.nodup_append.mpr ⟨R.nd, by simp, fun a ha b hb => by
      have : b = n := by simpa using hb
      subst this
      exact fun q => hn (q ▸ ha)⟩
  · have key : ∀ m, m ∈ names S.L → setα α n p m ≠ p := fun m hm e => by
      rw [st.nm m hm] at e
      obtain ⟨⟨m', o'⟩, h1, h2⟩ := List.mem_map.mp hm
      cases h2
      obtain ⟨w', hw⟩ := (R.live _ _ h1).2.2.is
      rw [e, h] at hw; cases hw
    intro a b ha hb e
    rw [names_append] at ha hb
    rcases List.mem_append.mp ha with ha' | ha' <;> rcases List.mem_append.mp hb with hb' | hb'
    · rw [st.nm a ha', st.nm b hb'] at e; exact R.inj a b ha' hb' e
    · have h2 : b = n := by simpa using hb'
      rw [h2, hself] at e
      exact absurd e (key a ha')
    · have h2 : a = n := by simpa using ha'
      rw [h2, hself] at e
      exact absurd e.symm (key b hb')
    · have h1 : a = n := by simpa using ha'
      have h2 : b = n := by simpa using hb'
      rw [h1, h2]
  · intro m o' hm
    rcases List.mem_append.mp hm with hm | hm
    · obtain ⟨h1, h2, h3⟩ := R.live m o' hm
      have e : setα α n p m = α m := st.nm m (mem_names hm)
      rw [e]
      exact ⟨h1, h2, h3.step st hsub (same_upd h) fun b w' z => .inl z⟩
    · have e : (m, o') = (n, u) := by simpa using hm
      cases e
      rw [hself]
      exact ⟨R.fresh h, hp0, new⟩
  · have hm : m ∈ names (S.L ++ [(n, u)]) := hm
    rw [names_append] at hm
    rcases List.mem_append.mp hm with hm | hm
    · rw [st.nm m hm]; exact R.fix m a e hm
    · have : m = n := by simpa using hm
      rw [this, B.hpa n h100] at e; cases e
/-- a live thing is changed -/
theorem Rel.write (R : Rel K mg B F α H σ S) {n : Nat} {o u : LO} {o' : HO} (hn : (n, o) ∈ S.L)
    (no : ∀ b y, H b = some (.own y) → b ≠ α n) (new : LAt K mg B F α (setL n u S.L) (upd H (α n) o') (α n) u)
    (oth : ∀ m w', (m, w') ∈ S.L → m ≠ n → LAt K mg B F α S.L H (α m) w' → LAt K mg B F α (setL n u S.L) (upd H (α n) o') (α m) w') :
    Rel K mg B F α (upd H (α n) o') σ ⟨S.ρ, setL n u S.L⟩ := by
  obtain ⟨f0, f1, f2⟩ := R.live n o hn
  obtain ⟨w0, hw0⟩ := f2.is
  have st : Stp F α S.L F α := Stp.refl
  have hsub : ∀ m, m ∈ names S.L → m ∈ names (setL n u S.L) := fun m hm => by rw [names_setL]; exact hm
  refine ⟨fun b w' e => ?_, R.bF, R.nF, fun b w' e f => ?_, by rw [names_setL]; exact R.nd, fun a b ha hb e => R.inj a b (by rw [names_setL] at ha; exact ha) (by rw [names_setL] at hb; exact hb) e, fun m w' hm => ?_, R.slots.step st hsub, fun m a e hm => R.fix m a e (by rw [names_setL] at hm; exact hm)⟩
  · rw [upd_ne (fun q => by rw [q, f0] at e; cases e)]; exact R.sub b w' e
  · have hb : b ≠ α n := fun q => by
      subst q
      rcases f1 with z | z
      · rw [z] at e; cases e
      · exact f z
    rw [upd_ne hb]; exact R.frame b w' e f
  · rcases mem_setL R.nd hm with ⟨h1, h2⟩ | ⟨h1, h2⟩
    · subst h1; subst h2
      exact ⟨f0, f1, new⟩
    · obtain ⟨g0, g1, g2⟩ := R.live m w' h2
      exact ⟨g0, g1, oth m w' h2 h1 g2⟩
theorem LAt.other {o : LO} {p : Addr} {w' : HO} (ne : a ≠ p) (no : ∀ b, H b = some (.own a) → b ≠ p) (hs : ∀ n, n ∈ names L → n ∈ names L') (h : LAt K mg B F α L H a o) : LAt K mg B F α L' (upd H p w') a o := by
  have st : Stp F α L F α := Stp.refl
  cases o with
  | fl ds => obtain ⟨vs, e, r⟩ := h; exact ⟨vs, by rw [upd_ne ne]; exact e, r⟩
  | cl cs => obtain ⟨vs, e, r⟩ := h; exact ⟨vs, by rw [upd_ne ne]; exact e, r.step st hs⟩
  | ins c fs => obtain ⟨C, dx, vs, m, e1, e2, e3, e4, r⟩ := h; exact ⟨C, dx, vs, m, by rw [upd_ne ne]; exact e1, by rw [upd_ne (no _ e2)]; exact e2, e3, e4, r.step st hs⟩
  | dT kvs => obtain ⟨vs, e, r⟩ := h; exact ⟨vs, by rw [upd_ne ne]; exact e, r⟩
  | dK kvs => obtain ⟨vs, e, r⟩ := h; exact ⟨vs, by rw [upd_ne ne]; exact e, r⟩
  | dC kvs => obtain ⟨vs, e, r⟩ := h; exact ⟨vs, by rw [upd_ne ne]; exact e, r.step st hs⟩
theorem LAt.notown {o : LO} (h : LAt K mg B F α L H a o) : ∀ b y, H b = some (.own y) → b ≠ a := fun b y e q => by
  subst q
  cases o with
  | fl ds => obtain ⟨vs, e1, r⟩ := h; rw [e] at e1; cases e1
  | cl cs => obtain ⟨vs, e1, r⟩ := h; rw [e] at e1; cases e1
  | ins c fs => obtain ⟨C, dx, vs, m, e1, _⟩ := h; rw [e] at e1; cases e1
  | dT kvs => obtain ⟨vs, e1, r⟩ := h; rw [e] at e1; cases e1
  | dK kvs => obtain ⟨vs, e1, r⟩ := h; rw [e] at e1; cases e1
  | dC kvs => obtain ⟨vs, e1, r⟩ := h; rw [e] at e1; cases e1
/-- .. in short -/
theorem Rel.put (R : Rel K mg B F α H σ S) {n : Nat} {o u : LO} {o' : HO} (hn : (n, o) ∈ S.L) (new : LAt K mg B F α (setL n u S.L) (upd H (α n) o') (α n) u) : Rel K mg B F α (upd H (α n) o') σ ⟨S.ρ, setL n u S.L⟩ := by
  have no := LAt.notown (R.live n o hn).2.2
  refine R.write hn no new fun m w' hm ne h => h.other (fun q => ne (R.inj _ _ (mem_names hm) (mem_names hn) q)) (fun b e => no b _ e) fun k hk => by rw [names_setL]; exact hk
end
end Nz
namespace Nz
open PySem PySem.Spec PyProof.Rows L2
def Sub (L L' : List (Nat × LO)) : Prop := ∀ n, n ∈ names L → n ∈ names L'
theorem Sub.refl {L : List (Nat × LO)} : Sub L L := fun _ h => h
theorem Sub.app {L M : List (Nat × LO)} : Sub L (L ++ M) := fun n h => by rw [names, List.map_append]; exact List.mem_append_left _ h
/-- the cell c looks like the list ds, the tuple ds -/
def AsL (L : List (Nat × LO)) (c : Ce) (ds : List D) : Prop :=
  match c with
  | .fr d => d = .lst ds
  | .ad n => getL n L = some (.fl ds)
  | .xv _ => False
section
variable {X : Cx} {B : Bd} {F : Hp} {α : Nat → Addr} {H : Hp} {σ : L2.St} {S : Nz.S}
theorem Rel.asL (R : RelX X B F α H σ S) {c : Ce} {ds : List D} {v : V} (h : AsL S.L c ds) (r : CR X F α S.L c v) : ∃ a vs, v = .ref a ∧ SqL X.K H a vs ∧ Reps X.K X.mg F ds vs := by
  cases c with
  | fr d =>
    have e : d = .lst ds := h
    subst e
    have r' : Rep X.K X.mg F (.lst ds) v := r
    cases r' with
    | lst h1 h2 => exact ⟨_, _, rfl, R.sub.seq h1, h2⟩
  | ad n =>
    obtain ⟨_, rfl⟩ := r
    obtain ⟨_, _, vs, e, q⟩ := R.live n _ (getL_mem h)
    exact ⟨_, vs, rfl, SqL.of e, q⟩
  | xv u => exact False.elim h
theorem Rel.asT (R : RelX X B F α H σ S) {ds : List D} {v : V} (r : Rep X.K X.mg F (.tup ds) v) : ∃ a vs, v = .ref a ∧ SqT X.K H a vs ∧ Reps X.K X.mg F ds vs := by
  cases r with
  | tup h1 h2 => exact ⟨_, _, rfl, R.sub.seqT h1, h2⟩
end
def Op2 (X : Cx) (f : Value → Value → Sem Value) (d1 d2 d : D) : Prop :=
  ∀ B F α H σ (S : Nz.S) (Q : VK) x y, RelX X B F α H σ S → Rep X.K X.mg F d1 x → Rep X.K X.mg F d2 y → (∀ F' α' v H', RelX X B F' α' H' σ S → Stp F α S.L F' α' → Rep X.K X.mg F' d v → Q v H') →
    ∀ pins s v u, Inv X pins σ H s → RelV x v → RelV y u → wpAny (model X.prog X.w) X.A (f v u) (EP X pins σ Q) X.xe s
theorem Op2.pure {X : Cx} {f : Value → Value → Sem Value} {d1 d2 d : D} {r : R2} {v : V} (h : OpR X f r) (hd : ∀ F, Rep X.K X.mg F d v)
    (hr : ∀ F H (Q : VK) x y, Same F H → Rep X.K X.mg F d1 x → Rep X.K X.mg F d2 y → Q v H → r x y H Q) : Op2 X f d1 d2 d :=
  fun B F α H σ S Q x y R rx ry k pins s v' u I rv ru => h pins s σ H x y v' u Q I rv ru (hr F H Q x y R.sub rx ry (k F α v H R Stp.refl (hd F)))
section
variable {X : Cx}
theorem op2I {f : Value → Value → Sem Value} {C : Int → Int → Prop} {g : Int → Int → V} {i j : Int} {d : D} (h : OpR X f (rI C g)) (hc : C i j) (hd : ∀ F, Rep X.K X.mg F d (g i j)) : Op2 X f (.int i) (.int j) d :=
  .pure h hd fun F H Q x y _ rx ry q => by cases rx; cases ry; exact ⟨_, _, rfl, rfl, hc, q⟩
theorem op2I0 {f : Value → Value → Sem Value} {g : Int → Int → V} {i j : Int} {d : D} (h : OpR X f (rI0 g)) (hd : ∀ F, Rep X.K X.mg F d (g i j)) : Op2 X f (.int i) (.int j) d :=
  .pure h hd fun F H Q x y _ rx ry q => by cases rx; cases ry; exact ⟨_, _, rfl, rfl, q⟩
theorem o_add {i j : Int} : Op2 X (binaryOp .Add) (.int i) (.int j) (.int (i + j)) := op2I0 op_add fun _ => .int _
theorem o_sub {i j : Int} : Op2 X (binaryOp .Sub) (.int i) (.int j) (.int (i - j)) := op2I0 op_sub fun _ => .int _
theorem o_mul {i j : Int} (h : CMul i j) : Op2 X (binaryOp .Mult) (.int i) (.int j) (.int (i * j)) := op2I op_mul h fun _ => .int _
theorem o_div {i j : Int} (h : 0 < j) (h' : j < 1073741824) : Op2 X (binaryOp .FloorDiv) (.int i) (.int j) (.int (i / j)) := op2I op_fdiv ⟨h, h'⟩ fun _ => .int _
theorem o_mod {i j : Int} (h : 0 < j) : Op2 X (binaryOp .Mod) (.int i) (.int j) (.int (i % j)) := op2I op_mod h fun _ => .int _
theorem o_pow {i j : Int} (h : CPow i j) : Op2 X (binaryOp .Pow) (.int i) (.int j) (.int (i ^ j.toNat)) := op2I op_pow h fun _ => .int _
theorem o_adds {i j : Str} (h : i.length + j.length ≤ sizeLine) : Op2 X (binaryOp .Add) (.str i) (.str j) (.str (i ++ j)) :=
  .pure (v := .str (i ++ j)) op_add_str (fun _ => .str _) fun F H Q x y _ rx ry q => by cases rx; cases ry; exact ⟨_, _, rfl, rfl, h, q⟩
theorem o_lt {i j : Int} : Op2 X (compareOp .Lt) (.int i) (.int j) (.bl (decide (i < j))) := op2I0 op_lt fun _ => .bl _
theorem o_le {i j : Int} : Op2 X (compareOp .LtE) (.int i) (.int j) (.bl (decide (i ≤ j))) := op2I0 op_le fun _ => .bl _
theorem o_gt {i j : Int} : Op2 X (compareOp .Gt) (.int i) (.int j) (.bl (decide (j < i))) := op2I0 op_gt fun _ => .bl _
theorem o_ge {i j : Int} : Op2 X (compareOp .GtE) (.int i) (.int j) (.bl (decide (j ≤ i))) := op2I0 op_ge fun _ => .bl _
theorem o_eqi {i j : Int} : Op2 X (compareOp .Eq) (.int i) (.int j) (.bl (decide (i = j))) :=
  .pure (v := .bl (decide (V.int i = V.int j))) op_eq (fun _ => by rw [show decide (V.int i = V.int j) = decide (i = j) from by simp]; exact .bl _) fun F H Q x y _ rx ry q => by cases rx; cases ry; exact ⟨rfl, q⟩
theorem o_nei {i j : Int} : Op2 X (compareOp .NotEq) (.int i) (.int j) (.bl (!decide (i = j))) :=
  .pure (v := .bl (!decide (V.int i = V.int j))) op_ne (fun _ => by rw [show decide (V.int i = V.int j) = decide (i = j) from by simp]; exact .bl _) fun F H Q x y _ rx ry q => by cases rx; cases ry; exact ⟨rfl, q⟩
theorem o_eqs {i j : Str} : Op2 X (compareOp .Eq) (.str i) (.str j) (.bl (decide (i = j))) :=
  .pure (v := .bl (decide (V.str i = V.str j))) op_eq (fun _ => by rw [show decide (V.str i = V.str j) = decide (i = j) from by simp]; exact .bl _) fun F H Q x y _ rx ry q => by cases rx; cases ry; exact ⟨rfl, q⟩
end
section
variable {X : Cx} {B : Bd} {S S1 S2 S3 : Nz.S} {a b c e : Expr} {es : List Expr} {pos p : Pos} {d d1 d2 d3 : D}
theorem ev_var (i : Nat) {x : Str} {c : Ce} (hN : X.N[i]? = some x) (hv : Vis X.env.scope x) (hρ : S.ρ[i]? = some (some c)) (hd : (x == ("__debug__" : Str)) = false := by decide) (hcd : (x == ("__classdict__" : Str)) = false := by decide) : Ev X B (.Name x pos) S c S :=
  fun F α H σ Q R k => wE.of (pe_var hN hv hd hcd) (by
    obtain ⟨v, e, r⟩ := R.slots.get hρ
    exact ⟨v, e, k F α v H R Stp.refl r⟩)
theorem ev_int {i : Int} {j pos} : Ev X B (.Constant (.int i) j pos) S (.fr (.int i)) S := fun F α H σ Q R k => wE.of pe_int (k F α _ H R Stp.refl (.int i))
theorem ev_bl {i : Bool} {j pos} : Ev X B (.Constant (.bool i) j pos) S (.fr (.bl i)) S := fun F α H σ Q R k => wE.of pe_bl (k F α _ H R Stp.refl (.bl i))
theorem ev_non {j pos} : Ev X B (.Constant .none j pos) S (.fr .non) S := fun F α H σ Q R k => wE.of pe_non (k F α _ H R Stp.refl .non)
theorem ev_str {i : Str} {j pos} : Ev X B (.Constant (.str i) j pos) S (.fr (.str i)) S := fun F α H σ Q R k => wE.of pe_str (k F α _ H R Stp.refl (.str i))
theorem ev_gi {x : Str} {i : Int} {t : Tok} (hg : Gl X x) (hm : X.mg x = some (.int i t)) (hd : (x == ("__debug__" : Str)) = false := by decide) : Ev X B (.Name x pos) S (.fr (.int i)) S :=
  fun F α H σ Q R k => wE.of (pe_glob (v := .int i) hg hm ⟨t, rfl⟩ hd) (k F α _ H R Stp.refl (.int i))
theorem ev_gs {x : Str} {i : Str} {t : Tok} (hg : Gl X x) (hm : X.mg x = some (.str i t)) (hd : (x == ("__debug__" : Str)) = false := by decide) : Ev X B (.Name x pos) S (.fr (.str i)) S :=
  fun F α H σ Q R k => wE.of (pe_glob (v := .str i) hg hm ⟨t, rfl⟩ hd) (k F α _ H R Stp.refl (.str i))
theorem ev_bin {op : Operator} (ho : Op2 X (binaryOp op) d1 d2 d) (ha : Ev X B a S (.fr d1) S1) (hb : Ev X B b S1 (.fr d2) S2) (h1 : Sub S.L S1.L := by exact Sub.refl) (h2 : Sub S1.L S2.L := by exact Sub.refl) : Ev X B (.BinOp a op b pos) S (.fr d) S2 :=
  fun F α H σ Q R k pins s I => by
    refine wpAny_BinOp (thn (ha F α H σ _ R (fun F1 α1 v1 H1 R1 st1 r1 => hb F1 α1 H1 σ (fun v2 H2 => ∃ F2 α2, RelX X B F2 α2 H2 σ S2 ∧ Stp F α S.L F2 α2 ∧ Rep X.K X.mg F2 d1 v1 ∧ Rep X.K X.mg F2 d2 v2) R1 fun F2 α2 v2 H2 R2 st2 r2 =>
      ⟨F2, α2, R2, st1.trans st2 h1, Rep.mono st2.fro r1, r2⟩) pins s I) fun v s1 ⟨x, H1, I1, rv, q1⟩ => thn (q1 pins s1 I1) fun u s2 ⟨y, H2, I2, ru, F2, α2, R2, st, r1, r2⟩ => ?_)
    exact ho B F2 α2 H2 σ S2 Q x y R2 r1 r2 (fun F' α' v' H' R' st' r' => k F' α' v' H' R' (st.trans st' fun n h => h2 n (h1 n h)) r') pins s2 v u I2 rv ru
theorem ev_cmp {op : CmpOp} (ho : Op2 X (compareOp op) d1 d2 d) (ha : Ev X B a S (.fr d1) S1) (hb : Ev X B b S1 (.fr d2) S2) (hm : behindInMarks op b = false) (h1 : Sub S.L S1.L := by exact Sub.refl) (h2 : Sub S1.L S2.L := by exact Sub.refl) : Ev X B (.Compare a [op] [b] pos) S (.fr d) S2 :=
  fun F α H σ Q R k pins s I => by
    refine wpAny_Compare1 (thn (ha F α H σ _ R (fun F1 α1 v1 H1 R1 st1 r1 => hb F1 α1 H1 σ (fun v2 H2 => ∃ F2 α2, RelX X B F2 α2 H2 σ S2 ∧ Stp F α S.L F2 α2 ∧ Rep X.K X.mg F2 d1 v1 ∧ Rep X.K X.mg F2 d2 v2) R1 fun F2 α2 v2 H2 R2 st2 r2 =>
      ⟨F2, α2, R2, st1.trans st2 h1, Rep.mono st2.fro r1, r2⟩) pins s I) fun v s1 ⟨x, H1, I1, rv, q1⟩ => thn (q1 pins s1 I1) fun u s2 ⟨y, H2, I2, ru, F2, α2, R2, st, r1, r2⟩ => ?_) hm
    exact ho B F2 α2 H2 σ S2 Q x y R2 r1 r2 (fun F' α' v' H' R' st' r' => k F' α' v' H' R' (st.trans st' fun n h => h2 n (h1 n h)) r') pins s2 v u I2 rv ru
theorem ev_un {op : UnaryOp} {g : Int → V} {i : Int} (ho : UnR X (unaryOp op) (rU g)) (hd : ∀ F, Rep X.K X.mg F d (g i)) (ha : Ev X B a S (.fr (.int i)) S1) : Ev X B (.UnaryOp op a pos) S (.fr d) S1 :=
  fun F α H σ Q R k => wE.of (pe_un ho pe_w) (ha F α H σ _ R fun F1 α1 v1 H1 R1 st1 r1 => by cases r1; exact ⟨_, rfl, k F1 α1 _ H1 R1 st1 (hd F1)⟩)
theorem ev_neg {i : Int} (ha : Ev X B a S (.fr (.int i)) S1) : Ev X B (.UnaryOp .USub a pos) S (.fr (.int (-i))) S1 := ev_un un_neg (fun _ => .int _) ha
theorem ev_not {i : Bool} (ha : Ev X B a S (.fr (.bl i)) S1) : Ev X B (.UnaryOp .Not a pos) S (.fr (.bl (!i))) S1 :=
  fun F α H σ Q R k => wE.of (pe_not pe_w) (ha F α H σ _ R fun F1 α1 v1 H1 R1 st1 r1 => by cases r1; exact ⟨_, rfl, k F1 α1 _ H1 R1 st1 (.bl _)⟩)
theorem ev_one {op : BoolOp} {c : Ce} (ha : Ev X B a S c S1) : Ev X B (.BoolOp op [a] pos) S c S1 :=
  fun F α H σ Q R k => wE.of (pe_one pe_w) (ha F α H σ _ R k)
theorem ev_and {i j : Bool} (ha : Ev X B a S (.fr (.bl i)) S) (hb : i = true → Ev X B (.BoolOp .And (b :: es) pos) S (.fr (.bl j)) S) : Ev X B (.BoolOp .And (a :: b :: es) pos) S (.fr (.bl (i && j))) S :=
  fun F α H σ Q R k => wE.of (pe_and pe_w pe_w) (ha F α H σ _ R fun F1 α1 v1 H1 R1 st1 r1 => by
    cases r1
    refine ⟨i, rfl, ?_⟩
    cases i with
    | true => rw [if_pos rfl]; exact hb rfl F1 α1 H1 σ _ R1 fun F2 α2 v2 H2 R2 st2 r2 => k F2 α2 v2 H2 R2 (st1.trans st2 Sub.refl) (by simpa using r2)
    | false => rw [if_neg Bool.false_ne_true]; exact k F1 α1 _ H1 R1 st1 (.bl _))
/-- tests -/
theorem et_val {i : Bool} (ha : Ev X B a S (.fr (.bl i)) S1) (he : ∀ whole, isTrue a X.env whole = (do let v ← whole; standAt a.pos; holding [v] (truthy v)) := by intro _; rfl) : Et X B a S i S1 :=
  fun F α H σ Q R k => wT.of (pt_val pe_w he) (ha F α H σ _ R fun F1 α1 v1 H1 R1 st1 r1 => by cases r1; exact ⟨i, rfl, k F1 α1 H1 R1 st1⟩)
theorem et_cmp {op : CmpOp} {i : Bool} (ho : Op2 X (compareOp op) d1 d2 (.bl i)) (ha : Ev X B a S (.fr d1) S1) (hb : Ev X B b S1 (.fr d2) S2) (hm : behindInMarks op b = false) (h1 : Sub S.L S1.L := by exact Sub.refl) (h2 : Sub S1.L S2.L := by exact Sub.refl) : Et X B (.Compare a [op] [b] pos) S i S2 :=
  fun F α H σ Q R k pins s I => by
    refine wpAny_isTrue_Compare1 (thn (ha F α H σ _ R (fun F1 α1 v1 H1 R1 st1 r1 => hb F1 α1 H1 σ (fun v2 H2 => ∃ F2 α2, RelX X B F2 α2 H2 σ S2 ∧ Stp F α S.L F2 α2 ∧ Rep X.K X.mg F2 d1 v1 ∧ Rep X.K X.mg F2 d2 v2) R1 fun F2 α2 v2 H2 R2 st2 r2 =>
      ⟨F2, α2, R2, st1.trans st2 h1, Rep.mono st2.fro r1, r2⟩) pins s I) fun v s1 ⟨x, H1, I1, rv, q1⟩ => thn (q1 pins s1 I1) fun u s2 ⟨y, H2, I2, ru, F2, α2, R2, st, r1, r2⟩ => ?_) hm
    refine thn (ho B F2 α2 H2 σ S2 (fun v' H' => ∃ k, v' = .bl k ∧ Q k H') x y R2 r1 r2 (fun F' α' v' H' R' st' r' => by cases r'; exact ⟨i, rfl, k F' α' H' R' (st.trans st' fun n h => h2 n (h1 n h))⟩) pins s2 v u I2 rv ru) fun c s3 ⟨z, H3, I3, r3, k', e, q3⟩ => ?_
    subst e
    cases r3
    exact wpAny_truthy_bool ⟨H3, I3, q3⟩
theorem et_not {i : Bool} (ha : Et X B a S i S1) : Et X B (.UnaryOp .Not a pos) S (!i) S1 := fun F α H σ Q R k => wT.of (pt_not pt_w) (ha F α H σ _ R k)
/-- a chain of tests, whatever its whole -/
def Ew (X : Cx) (B : Bd) (e : Expr) (S : Nz.S) (b : Bool) : Prop :=
  ∀ F α H σ (Q : Bool → Hp → Prop), RelX X B F α H σ S → (∀ F' α' H', RelX X B F' α' H' σ S → Stp F α S.L F' α' → Q b H') → ∀ whole pins s, Inv X pins σ H s → wpAny (model X.prog X.w) X.A (isTrue e X.env whole) (TP X pins σ Q) X.xe s
def tW (X : Cx) (e : Expr) : TT := fun σ H Q => ∀ whole pins s, Inv X pins σ H s → wpAny (model X.prog X.w) X.A (isTrue e X.env whole) (TP X pins σ Q) X.xe s
theorem pw_w {e : Expr} : PW X e (tW X e) := ⟨fun whole pins s σ H Q I h => h whole pins s I⟩
theorem Ew.of {e : Expr} {t : TT} {i : Bool} (h : PW X e t) (q : ∀ F α H σ (Q : Bool → Hp → Prop), RelX X B F α H σ S → (∀ F' α' H', RelX X B F' α' H' σ S → Stp F α S.L F' α' → Q i H') → t σ H Q) : Ew X B e S i :=
  fun F α H σ Q R k whole pins s I => h.run whole pins s σ H Q I (q F α H σ Q R k)
theorem Ew.et {e : Expr} {i : Bool} (h : Ew X B e S i) : Et X B e S i S := fun F α H σ Q R k pins s I => h F α H σ Q R k _ pins s I
theorem ew_and1 {i : Bool} (ha : Et X B a S i S) : Ew X B (.BoolOp .And [a] pos) S i := .of (pw_and1 pt_w) fun F α H σ Q R k => ha F α H σ _ R k
theorem ew_or1 {i : Bool} (ha : Et X B a S i S) : Ew X B (.BoolOp .Or [a] pos) S i := .of (pw_or1 pt_w) fun F α H σ Q R k => ha F α H σ _ R k
theorem ew_and {i j : Bool} (ha : Et X B a S i S) (hb : i = true → Ew X B (.BoolOp .And (b :: es) pos) S j) : Ew X B (.BoolOp .And (a :: b :: es) pos) S (i && j) :=
  .of (pw_and pt_w pw_w) fun F α H σ Q R k => ha F α H σ _ R fun F1 α1 H1 R1 st1 => by
    cases i with
    | true => rw [if_pos rfl]; exact hb rfl F1 α1 H1 σ _ R1 fun F2 α2 H2 R2 st2 => by simpa using k F2 α2 H2 R2 (st1.trans st2 Sub.refl)
    | false => rw [if_neg Bool.false_ne_true]; simpa using k F1 α1 H1 R1 st1
theorem ew_or {i j : Bool} (ha : Et X B a S i S) (hb : i = false → Ew X B (.BoolOp .Or (b :: es) pos) S j) : Ew X B (.BoolOp .Or (a :: b :: es) pos) S (i || j) :=
  .of (pw_or pt_w pw_w) fun F α H σ Q R k => ha F α H σ _ R fun F1 α1 H1 R1 st1 => by
    cases i with
    | false => rw [if_neg Bool.false_ne_true]; exact hb rfl F1 α1 H1 σ _ R1 fun F2 α2 H2 R2 st2 => by simpa using k F2 α2 H2 R2 (st1.trans st2 Sub.refl)
    | true => rw [if_pos rfl]; simpa using k F1 α1 H1 R1 st1
theorem ev_if {t : Expr} {i : Bool} (ht : Et X B t S i S) (ha : i = true → Ev X B a S (.fr d1) S) (hb : i = false → Ev X B b S (.fr d2) S) : Ev X B (.IfExp t a b pos) S (.fr (if i = true then d1 else d2)) S :=
  fun F α H σ Q R k => wE.of (pe_ifExp pt_w pe_w pe_w) (ht F α H σ _ R fun F1 α1 H1 R1 st1 => by
    cases i with
    | true => rw [if_pos rfl]; exact ha rfl F1 α1 H1 σ _ R1 fun F2 α2 v2 H2 R2 st2 r2 => k F2 α2 v2 H2 R2 (st1.trans st2 Sub.refl) (by simpa using r2)
    | false => rw [if_neg Bool.false_ne_true]; exact hb rfl F1 α1 H1 σ _ R1 fun F2 α2 v2 H2 R2 st2 r2 => k F2 α2 v2 H2 R2 (st1.trans st2 Sub.refl) (by simpa using r2))
theorem ea_nil : Ea X B [] S [] S := fun F α H σ Q R k => wA.of pa_nil (k F α _ H R Stp.refl .nil)
theorem ea_cons {c : Ce} {cs : List Ce} (ha : Ev X B a S c S1) (hr : Ea X B es S1 cs S2) (h1 : Sub S.L S1.L := by exact Sub.refl) (h2 : Sub S1.L S2.L := by exact Sub.refl) (hs : starEach (a :: es) X.env = (false, eval a X.env) :: starEach es X.env := by rfl) : Ea X B (a :: es) S (c :: cs) S2 :=
  fun F α H σ Q R k => wA.of (pa_cons pe_w pa_w hs) (ha F α H σ _ R fun F1 α1 v1 H1 R1 st1 r1 => hr F1 α1 H1 σ _ R1 fun F2 α2 vs H2 R2 st2 r2 => k F2 α2 _ H2 R2 (st1.trans st2 h1) (.cons (r1.step st2 h2) r2))
theorem ev_lst {ds : List D} (h : Ea X B es S (ds.map Ce.fr) S1) (hz : ds.length ≤ sizeLine) : Ev X B (.List es pos) S (.fr (.lst ds)) S1 :=
  fun F α H σ Q R k => wE.of (pe_lst pa_w) (h F α H σ _ R fun F1 α1 vs H1 R1 st1 r1 => by
    have r := r1.fr
    refine ⟨by rw [← r.length]; exact hz, fun p hp => ?_⟩
    have hf := R1.fresh hp
    exact k _ α1 _ _ (R1.allocF hp) ⟨st1.fro.trans (same_upd hf), st1.nm⟩ (Rep.lst (SqL.of upd_same) (r.mono (same_upd hf))))
theorem ev_tup {ds : List D} {k1} (h : Ea X B es S (ds.map Ce.fr) S1) (hz : ds.length ≤ sizeLine) : Ev X B (.Tuple es k1 pos) S (.fr (.tup ds)) S1 :=
  fun F α H σ Q R k => wE.of (pe_tup pa_w) (h F α H σ _ R fun F1 α1 vs H1 R1 st1 r1 => by
    have r := r1.fr
    refine ⟨by rw [← r.length]; exact hz, fun p hp => ?_⟩
    have hf := R1.fresh hp
    exact k _ α1 _ _ (R1.allocF hp) ⟨st1.fro.trans (same_upd hf), st1.nm⟩ (Rep.tup (SqT.of upd_same) (r.mono (same_upd hf))))
theorem ev_lstL (n : Nat) {ds : List D} (h : Ea X B es S (ds.map Ce.fr) S1) (hz : ds.length ≤ sizeLine) (hn : n ∉ names S1.L) (h100 : 100 ≤ n) (h1 : Sub S.L S1.L := by exact Sub.refl) : Ev X B (.List es pos) S (.ad n) ⟨S1.ρ, S1.L ++ [(n, .fl ds)]⟩ :=
  fun F α H σ Q R k => wE.of (pe_lst pa_w) (h F α H σ _ R fun F1 α1 vs H1 R1 st1 r1 => by
    have r := r1.fr
    refine ⟨by rw [← r.length]; exact hz, fun p hp => ?_⟩
    refine k F1 (setα α1 n p) _ _ (R1.allocL hp hn h100 ⟨vs, upd_same, r⟩) (st1.trans (stp_setα hn) h1) ⟨?_, ?_⟩
    · rw [names_append]; exact List.mem_append_right _ (List.mem_singleton.mpr rfl)
    · show V.ref p = V.ref (if n = n then p else α1 n)
      rw [if_pos rfl])
theorem ev_ixL {ca : Ce} {i : Int} {ds : List D} (ha : Ev X B a S ca S1) (hb : Ev X B b S1 (.fr (.int i)) S2) (hl : AsL S2.L ca ds) (hi : atI ds i = some d) (hs : PlainIx b := by exact fun _ _ => rfl) (h1 : Sub S.L S1.L := by exact Sub.refl) (h2 : Sub S1.L S2.L := by exact Sub.refl) :
    Ev X B (.Subscript a b pos) S (.fr d) S2 :=
  fun F α H σ Q R k => wE.of (pe_ix ix_list pe_w pe_w hs) (ha F α H σ _ R fun F1 α1 v1 H1 R1 st1 r1 => hb F1 α1 H1 σ _ R1 fun F2 α2 v2 H2 R2 st2 r2 => by
    obtain ⟨p, vs, rfl, hq, rs⟩ := R2.asL hl (r1.step st2 h2)
    cases r2
    obtain ⟨v, hv, rv⟩ : ∃ v, atI vs i = some v ∧ Rep X.K X.mg F2 d v := by
      unfold atI at hi ⊢
      rw [← rs.length]
      cases q : ixN ds.length i with
      | none => rw [q] at hi; cases hi
      | some j => rw [q] at hi; exact rs.get hi
    exact ⟨p, vs, i, v, rfl, rfl, hq, hv, k F2 α2 v H2 R2 (st1.trans st2 h1) rv⟩)
theorem ev_ixT {i : Int} {ds : List D} (ha : Ev X B a S (.fr (.tup ds)) S1) (hb : Ev X B b S1 (.fr (.int i)) S2) (hi : atI ds i = some d) (hs : PlainIx b := by exact fun _ _ => rfl) (h1 : Sub S.L S1.L := by exact Sub.refl) (h2 : Sub S1.L S2.L := by exact Sub.refl) :
    Ev X B (.Subscript a b pos) S (.fr d) S2 :=
  fun F α H σ Q R k => wE.of (pe_ix ix_tup pe_w pe_w hs) (ha F α H σ _ R fun F1 α1 v1 H1 R1 st1 r1 => hb F1 α1 H1 σ _ R1 fun F2 α2 v2 H2 R2 st2 r2 => by
    obtain ⟨p, vs, rfl, hq, rs⟩ := R2.asT (Rep.mono st2.fro r1)
    cases r2
    obtain ⟨v, hv, rv⟩ : ∃ v, atI vs i = some v ∧ Rep X.K X.mg F2 d v := by
      unfold atI at hi ⊢
      rw [← rs.length]
      cases q : ixN ds.length i with
      | none => rw [q] at hi; cases hi
      | some j => rw [q] at hi; exact rs.get hi
    exact ⟨p, vs, i, v, rfl, rfl, hq, hv, k F2 α2 v H2 R2 (st1.trans st2 h1) rv⟩)
end
end Nz
namespace Nz
open PySem PySem.Spec PyProof.Rows L2
def wI (X : Cx) (tg iter : Expr) (σ : L2.St) (H : Hp) (R : It → Hp → Prop) : Prop :=
  ∀ pins s, Inv X pins σ H s → wpAny (model X.prog X.w) X.A (eval iter X.env) (fun v s1 => wpAny (model X.prog X.w) X.A (pyIter v) (PIE X pins σ tg R) X.xe s1) X.xe s
theorem pi_w {X : Cx} {tg iter : Expr} : PI X tg iter (wI X tg iter) := ⟨fun pins s σ H R I h => h pins s I⟩
theorem wI.of {X : Cx} {tg iter : Expr} {t : TI} {σ : L2.St} {H : Hp} {R : It → Hp → Prop} (h : PI X tg iter t) (q : t σ H R) : wI X tg iter σ H R := fun pins s I => h.run pins s σ H R I q
structure JOk (K : Frag) (mg : Mg) (F : Hp) (J : It) (xs : List D) : Prop where
  go : ∀ (B : Bd) F' α H σ (S : Nz.S) (i : Nat) (d : D), Rel K mg B F' α H σ S → Same F F' → xs[i]? = some d → J.go i H ∧ ∀ x H', J.yld i H x H' → ∃ F2, Rel K mg B F2 α H' σ S ∧ Same F' F2 ∧ Rep K mg F2 d x
  stop : ∀ (B : Bd) F' α H σ (S : Nz.S) (i : Nat), Rel K mg B F' α H σ S → Same F F' → xs.length ≤ i → J.stop i H
def Src (X : Cx) (B : Bd) (tg iter : Expr) (S : Nz.S) (xs : List D) (S1 : Nz.S) : Prop :=
  ∀ F α H σ R, RelX X B F α H σ S → (∀ F' α' H' J, RelX X B F' α' H' σ S1 → Stp F α S.L F' α' → JOk X.K X.mg F' J xs → R J H') → wI X tg iter σ H R
section
variable {X : Cx} {B : Bd} {S S1 S2 S3 : Nz.S} {tg a b c e : Expr} {es : List Expr} {pos p : Pos} {d d1 d2 d3 : D} {xs : List D}
theorem src_list (h : Ev X B e S (.fr (.lst xs)) S1) : Src X B tg e S xs S1 := fun F α H σ R RR k => wI.of (pi_list pe_w) (h F α H σ _ RR fun F1 α1 v1 H1 R1 st1 r1 => by
  cases r1 with
  | lst h1 h2 =>
    rename_i a vs
    refine ⟨a, rfl, ⟨vs, R1.sub.seq h1⟩, k F1 α1 H1 _ R1 st1 ⟨fun B F' α H σ S i d R' hs hi => ?_, fun B F' α H σ S i R' hs hi => ⟨vs, R'.sub.seq (hs.seq h1), by rw [← h2.length]; exact hi⟩⟩⟩
    obtain ⟨v, hv, rv⟩ := h2.get hi
    refine ⟨⟨vs, v, R'.sub.seq (hs.seq h1), hv⟩, fun x H' y => ?_⟩
    obtain ⟨rfl, y⟩ := y
    have := y vs (R'.sub.seq (hs.seq h1))
    rw [hv] at this; cases this
    exact ⟨F', R', Same.refl _, rv.mono hs⟩)
theorem src_tup (h : Ev X B e S (.fr (.tup xs)) S1) : Src X B tg e S xs S1 := fun F α H σ R RR k => wI.of (pi_tup pe_w) (h F α H σ _ RR fun F1 α1 v1 H1 R1 st1 r1 => by
  cases r1 with
  | tup h1 h2 =>
    rename_i a vs
    refine ⟨a, rfl, ⟨vs, R1.sub.seqT h1⟩, k F1 α1 H1 _ R1 st1 ⟨fun B F' α H σ S i d R' hs hi => ?_, fun B F' α H σ S i R' hs hi => ⟨vs, R'.sub.seqT (hs.seqT h1), by rw [← h2.length]; exact hi⟩⟩⟩
    obtain ⟨v, hv, rv⟩ := h2.get hi
    refine ⟨⟨vs, v, R'.sub.seqT (hs.seqT h1), hv⟩, fun x H' y => ?_⟩
    obtain ⟨rfl, y⟩ := y
    have := y vs (R'.sub.seqT (hs.seqT h1))
    rw [hv] at this; cases this
    exact ⟨F', R', Same.refl _, rv.mono hs⟩)
/-- lo, lo + 1, .. -/
def rngD (lo : Int) (n : Nat) : List D := (List.range n).map fun (i : Nat) => D.int (lo + (i : Int))
theorem rngD_get {lo : Int} {n i : Nat} {d : D} (h : (rngD lo n)[i]? = some d) : i < n ∧ d = .int (lo + i) := by
  unfold rngD at h
  rw [List.getElem?_map] at h
  by_cases hi : i < n
  · rw [List.getElem?_range hi] at h
    exact ⟨hi, (Option.some.inj h).symm⟩
  · rw [List.getElem?_eq_none (by simpa using hi)] at h
    cases h
theorem rngD_len {lo : Int} {n : Nat} : (rngD lo n).length = n := by simp [rngD]
theorem jok_range {K : Frag} {mg : Mg} {F : Hp} {lo : Int} {n : Nat} : JOk K mg F (Itr lo n) (rngD lo n) :=
  ⟨fun B F' α H σ S i d R' hs hi => by
    obtain ⟨h1, rfl⟩ := rngD_get hi
    refine ⟨h1, fun x H' y => ?_⟩
    obtain ⟨rfl, rfl⟩ := y
    exact ⟨F', R', Same.refl _, .int _⟩, fun B F' α H σ S i R' hs hi => by rw [rngD_len] at hi; exact hi⟩
theorem src_range1 {j : Int} (h : Ea X B [a] S [.fr (.int j)] S1) (hg : Gl X "range") (hm : X.mg "range" = none) (h1 : -(2 ^ 62) ≤ j) (h2 : j < 2 ^ 62) (hs : starEach [a] X.env = [(false, eval a X.env)] := by rfl) : Src X B tg (.Call (.Name "range" p) [a] [] pos) S (rngD 0 j.toNat) S1 :=
  fun F α H σ R RR k => wI.of (pi_range1 hg hm pa_w hs) (h F α H σ _ RR fun F1 α1 vs H1 R1 st1 r1 => by
    cases r1 with
    | cons r1 r2 =>
      cases r2
      cases r1
      exact ⟨j, rfl, h1, h2, k F1 α1 H1 _ R1 st1 jok_range⟩)
theorem src_range2 {i j : Int} (h : Ea X B [a, b] S [.fr (.int i), .fr (.int j)] S1) (hg : Gl X "range") (hm : X.mg "range" = none) (h1 : -(2 ^ 62) ≤ i) (h2 : i < 2 ^ 62) (h3 : -(2 ^ 62) ≤ j) (h4 : j < 2 ^ 62) (hs : starEach [a, b] X.env = [(false, eval a X.env), (false, eval b X.env)] := by rfl) (hs2 : starEach [b] X.env = [(false, eval b X.env)] := by rfl) :
    Src X B tg (.Call (.Name "range" p) [a, b] [] pos) S (rngD i (j - i).toNat) S1 :=
  fun F α H σ R RR k => wI.of (pi_range2 hg hm pa_w hs hs2) (h F α H σ _ RR fun F1 α1 vs H1 R1 st1 r1 => by
    cases r1 with
    | cons r1 r2 =>
      cases r2 with
      | cons r2 r3 =>
        cases r3
        cases r1
        cases r2
        exact ⟨i, j, rfl, ⟨h1, h2, h3, h4⟩, k F1 α1 H1 _ R1 st1 jok_range⟩)
def wG (X : Cx) (tg : Expr) (v : V) (σ : L2.St) (H : Hp) (Q : L2.St → Hp → Prop) : Prop :=
  ∀ pins s u, Inv X pins σ H s → RelV v u → wpAny (model X.prog X.w) X.A (assign tg X.env u) (fun _ s' => ∃ σ' H', Inv X pins σ' H' s' ∧ Q σ' H') X.xe s
theorem pg_w {tg : Expr} : PG X tg (fun v σ H Q => wG X tg v σ H Q) := ⟨fun pins s σ H v u Q I r h => h pins s u I r⟩
def Eg (X : Cx) (B : Bd) (tg : Expr) (c : Ce) (S S2 : Nz.S) : Prop :=
  ∀ F α H σ v Q, RelX X B F α H σ S → CR X F α S.L c v → (∀ σ' F' H', RelX X B F' α H' σ' S2 → Same F F' → Q σ' H') → wG X tg v σ H Q
def setS (S : Nz.S) (i : Nat) (c : Ce) : Nz.S := ⟨S.ρ.set i (some c), S.L⟩
theorem Rel.setS {K : Frag} {mg : Mg} {F : Hp} {α : Nat → Addr} {H : Hp} {σ : L2.St} (R : Rel K mg B F α H σ S) {i : Nat} {c : Ce} {v : V} (r : CRel K mg F α S.L c v) : Rel K mg B F α H (σ.set i (some v)) (setS S i c) :=
  ⟨R.sub, R.bF, R.nF, R.frame, R.nd, R.inj, R.live, R.slots.set i r, R.fix⟩
theorem eg_name (i : Nat) {x : Str} {c : Ce} (hN : X.N.Nodup) (hi : X.N[i]? = some x) (hx : Loc X.env.scope x) (hf : X.fn x = true ∨ X.env.scope.names.lookup x = some .local := by first | exact .inl rfl | exact .inr rfl | assumption) : Eg X B (.Name x pos) c S (setS S i c) :=
  fun F α H σ v Q R r k pins s u I ru => (pg_name hN hi hx hf).run pins s σ H v u Q I ru (k _ F H (R.setS r) (Same.refl _))
/-- several -/
def Egs (X : Cx) (B : Bd) (ts : List Expr) (cs : List D) (S S2 : Nz.S) : Prop :=
  ∀ F α H σ vs (Q : L2.St → Hp → Prop), RelX X B F α H σ S → Reps X.K X.mg F cs vs → (∀ σ' F' H', RelX X B F' α H' σ' S2 → Same F F' → Q σ' H') →
    ∀ pins s us, Inv X pins σ H s → Vals vs us → wpAny (model X.prog X.w) X.A (assignInOrder ((assignEach ts X.env).map (·.2)) us) (fun _ s' => ∃ σ' H', Inv X pins σ' H' s' ∧ Q σ' H') X.xe s
theorem egs_nil : Egs X B [] [] S S := fun F α H σ vs Q R r k pins s us I ru => by
  cases r
  cases ru
  exact assignInOrder_nil ⟨σ, H, I, k σ F H R (Same.refl _)⟩
theorem egs_cons {ds : List D} (h1 : Eg X B e (.fr d) S S1) (h2 : Egs X B es ds S1 S2) (hL : S1.L = S.L := by rfl) (hs : (assignEach (e :: es) X.env).map (·.2) = assign e X.env :: (assignEach es X.env).map (·.2) := by rfl) : Egs X B (e :: es) (d :: ds) S S2 :=
  fun F α H σ vs Q R r k pins s us I ru => by
    cases r with
    | cons r rr =>
      cases ru with
      | cons u uu =>
        rw [hs]
        refine assignInOrder_cons (thn (h1 F α H σ _ (fun σ1 H1 => ∃ F1, RelX X B F1 α H1 σ1 S1 ∧ Same F F1) R r (fun σ' F' H' R' s' => ⟨F', R', s'⟩) pins s _ I u) fun _ s1 ⟨σ1, H1, I1, F1, R1, sm⟩ => ?_)
        exact h2 F1 α H1 σ1 _ Q R1 (rr.mono sm) (fun σ' F' H' R' s' => k σ' F' H' R' (sm.trans s')) pins s1 _ I1 uu
theorem eg_tup {ds : List D} {k1} (hc : X.calm = true) (h : Egs X B es ds S S2) (hn : (assignEach es X.env).length = ds.length := by rfl) (hst : (assignEach es X.env).findIdx? (·.1) = none := by rfl) : Eg X B (.Tuple es k1 pos) (.fr (.tup ds)) S S2 :=
  fun F α H σ v Q R r k pins s u I ru => by
    cases (show Rep X.K X.mg F (.tup ds) v from r) with
    | tup hq hr =>
      have hq' := R.sub.seqT hq
      cases ru
      obtain ⟨its, rv, ht, hz⟩ := I.tuple hq'
      refine assign_Tuple_tuple (I.ok.hd hc) ht (by simp [hn, hr.length, rv.length]) hst fun h' hx => ?_
      have I1 : Inv X pins σ H { s with heap := h' } := I.kept (t' := s.toks) fun b o e => hx b o (Nat.ne_of_lt (Heap.lt_size e)) e
      exact h F α H σ _ Q R hr k pins _ _ I1 (by simpa using rv)
variable {K : Out → Prop} {st : Stmt} {sts body els : List Stmt}
def seqK (X : Cx) (B : Bd) (rest : List Stmt) (K : Out → Prop) : Out → Prop
  | .nx S => Exs X B rest S K
  | .ret c S => K (.ret c S)
  | .bk S => K (.bk S)
  | .ct S => K (.ct S)
theorem exs_nil (h : K (.nx S)) : Exs X B [] S K := fun F α H σ D R o => wSs.of pss_nil (o.nx S F α H σ h R (Same.refl _))
theorem exs_cons (h : Ex X B st S (seqK X B sts K)) : Exs X B (st :: sts) S K := fun F α H σ D R o => wSs.of (pss_cons ps_w pss_w) (h F α H σ _ R
  ⟨fun S' F' α' H' σ' k R' s' => k F' α' H' σ' D R' (o.mono s'), fun S' F' α' H' σ' k R' s' => o.bk S' F' α' H' σ' k R' s', fun S' F' α' H' σ' k R' s' => o.ct S' F' α' H' σ' k R' s',
    fun c S' F' α' H' σ' v k R' s' r => o.ret c S' F' α' H' σ' v k R' s' r⟩)
theorem exs_one (h : Ex X B st S K) : Exs X B [st] S K := fun F α H σ D R o => wSs.of (pss_one ps_w) (h F α H σ _ R o)
theorem ex_asg {cv : Ce} (he : Ev X B e S cv S1) (hg : Eg X B tg cv S1 S2) (k : K (.nx S2)) (hs : swapsWithSole [tg] e pos.line X.env = pure false := by rfl) (hw : swappedStores [tg] e X.env = pure none := by rfl)
    (h1 : (assignEach [tg] X.env).map (·.2) = [assign tg X.env] := by rfl) : Ex X B (.Assign [tg] e pos) S K := fun F α H σ D R o => wS.of (ps_asg pe_w pg_w hs hw h1) (he F α H σ _ R fun F1 α1 v1 H1 R1 st1 r1 =>
      hg F1 α1 H1 σ v1 _ R1 r1 fun σ' F' H' R' s' => o.nx S2 F' α1 H' σ' k R' (st1.fro.trans s'))
theorem ex_set (i : Nat) {x : Str} {c : Ce} {pos' : Pos} (he : Ev X B e S c S1) (k : K (.nx (setS S1 i c))) (hN : X.N.Nodup) (hi : X.N[i]? = some x) (hx : Loc X.env.scope x) (hs : swapsWith e (some (.Name x pos')) pos.line X.env = pure false := by rfl)
    (hf : X.fn x = true ∨ X.env.scope.names.lookup x = some .local := by first | exact .inl rfl | exact .inr rfl | assumption) : Ex X B (.Assign [.Name x pos'] e pos) S K :=
  fun F α H σ D R o => wS.of (ps_set hN hi hx pe_w hs hf) (he F α H σ _ R fun F1 α1 v1 H1 R1 st1 r1 => o.nx _ F1 α1 H1 _ k (R1.setS r1) st1.fro)
theorem ex_ret {c : Ce} (he : Ev X B e S c S1) (k : K (.ret c S1)) : Ex X B (.Return (some e) pos) S K := fun F α H σ D R o => wS.of (ps_ret pe_w) (he F α H σ _ R fun F1 α1 v1 H1 R1 st1 r1 => o.ret c S1 F1 α1 H1 σ v1 k R1 st1.fro r1)
theorem ex_expr {c : Ce} (he : Ev X B e S c S1) (k : K (.nx S1)) (hs : swapsWith e none pos.line X.env = pure false := by rfl) : Ex X B (.Expr e pos) S K := fun F α H σ D R o => wS.of (ps_expr pe_w hs) (he F α H σ _ R fun F1 α1 v1 H1 R1 st1 r1 => o.nx S1 F1 α1 H1 σ k R1 st1.fro)
theorem ex_if {i : Bool} (ht : Et X B e S i S1) (ha : i = true → Exs X B body S1 K) (hb : i = false → Exs X B els S1 K) : Ex X B (.If e body els pos) S K := fun F α H σ D R o => wS.of (ps_if pt_w pss_w pss_w) (ht F α H σ _ R fun F1 α1 H1 R1 st1 => by
  cases i with
  | true => rw [if_pos rfl]; exact ha rfl F1 α1 H1 σ D R1 (o.mono st1.fro)
  | false => rw [if_neg Bool.false_ne_true]; exact hb rfl F1 α1 H1 σ D R1 (o.mono st1.fro))
theorem Exs.mono {K' : Out → Prop} (h : Exs X B sts S K) (hk : ∀ o, K o → K' o) : Exs X B sts S K' := fun F α H σ D R o => h F α H σ D R
  ⟨fun S' F' α' H' σ' k => o.nx S' F' α' H' σ' (hk _ k), fun S' F' α' H' σ' k => o.bk S' F' α' H' σ' (hk _ k), fun S' F' α' H' σ' k => o.ct S' F' α' H' σ' (hk _ k), fun c S' F' α' H' σ' v k => o.ret c S' F' α' H' σ' v (hk _ k)⟩
theorem Ex.mono {K' : Out → Prop} (h : Ex X B st S K) (hk : ∀ o, K o → K' o) : Ex X B st S K' := fun F α H σ D R o => h F α H σ D R
  ⟨fun S' F' α' H' σ' k => o.nx S' F' α' H' σ' (hk _ k), fun S' F' α' H' σ' k => o.bk S' F' α' H' σ' (hk _ k), fun S' F' α' H' σ' k => o.ct S' F' α' H' σ' (hk _ k), fun c S' F' α' H' σ' v k => o.ret c S' F' α' H' σ' v (hk _ k)⟩
end
end Nz
namespace Nz
open PySem PySem.Spec PyProof.Rows L2
def delL (n : Nat) : List (Nat × LO) → List (Nat × LO)
  | [] => []
  | (m, o) :: r => if n = m then delL n r else (m, o) :: delL n r
def frC (n : Nat) (d : D) : Ce → Ce
  | .fr e => .fr e
  | .ad m => if n = m then .fr d else .ad m
  | .xv u => .xv u
def frO (n : Nat) (d : D) : LO → LO
  | .fl ds => .fl ds
  | .cl cs => .cl (cs.map (frC n d))
  | .ins c fs => .ins c (fs.map fun p => (p.1, frC n d p.2))
  | .dT kvs => .dT kvs
  | .dK kvs => .dK kvs
  | .dC kvs => .dC (kvs.map fun p => (p.1, frC n d p.2))
def frS (n : Nat) (d : D) (S : Nz.S) : Nz.S := ⟨S.ρ.map (Option.map (frC n d)), (delL n S.L).map fun p => (p.1, frO n d p.2)⟩
section
variable {K : Frag} {mg : Mg} {B : Bd} {F F' : Hp} {α α' : Nat → Addr} {L L' : List (Nat × LO)} {H H' : Hp} {σ : L2.St} {S : Nz.S}
theorem mem_delL : ∀ {L : List (Nat × LO)} {n m : Nat} {o : LO}, (m, o) ∈ delL n L ↔ m ≠ n ∧ (m, o) ∈ L
  | [], n, m, o => by simp [delL]
  | (k, u) :: r, n, m, o => by
    unfold delL
    by_cases q : n = k
    · subst q
      rw [if_pos rfl, mem_delL, List.mem_cons]
      constructor
      · rintro ⟨h1, h2⟩; exact ⟨h1, .inr h2⟩
      · rintro ⟨h1, h2 | h2⟩
        · cases h2; exact absurd rfl h1
        · exact ⟨h1, h2⟩
    · rw [if_neg q, List.mem_cons, mem_delL, List.mem_cons]
      constructor
      · rintro (h | ⟨h1, h2⟩)
        · cases h; exact ⟨fun z => q z.symm, .inl rfl⟩
        · exact ⟨h1, .inr h2⟩
      · rintro ⟨h1, h2 | h2⟩
        · exact .inl h2
        · exact .inr ⟨h1, h2⟩
theorem names_delL {n m : Nat} : m ∈ names (delL n L) ↔ m ≠ n ∧ m ∈ names L := by
  constructor
  · intro h
    obtain ⟨⟨a, o⟩, h1, h2⟩ := List.mem_map.mp h
    have h2 : a = m := h2
    subst h2
    obtain ⟨h3, h4⟩ := mem_delL.mp h1
    exact ⟨h3, mem_names h4⟩
  · rintro ⟨h1, h2⟩
    obtain ⟨⟨a, o⟩, h3, h4⟩ := List.mem_map.mp h2
    have h4 : a = m := h4
    subst h4
    exact mem_names (mem_delL.mpr ⟨h1, h3⟩)
theorem names_frS {n : Nat} {d : D} : names ((delL n L).map fun p => (p.1, frO n d p.2)) = names (delL n L) := by simp [names]
theorem nodup_delL {n : Nat} (h : (names L).Nodup) : (names (delL n L)).Nodup := by
  refine h.sublist (List.Sublist.map _ ?_)
  induction L with
  | nil => exact .slnil
  | cons p r ih =>
    obtain ⟨m, o⟩ := p
    have ih' := ih (List.nodup_cons.mp h).2
    unfold delL
    split
    · exact .cons _ ih'
    · exact .cons₂ _ ih'
theorem CRel.freeze {n : Nat} {d : D} (hF : Same F F') (hd : Rep K mg F' d (.ref (α n))) : ∀ {c : Ce} {v : V}, CRel K mg F α L c v → CRel K mg F' α ((delL n L).map fun p => (p.1, frO n d p.2)) (frC n d c) v
  | .fr e, v, h => Rep.mono hF h
  | .ad m, v, ⟨h1, h2⟩ => by
    subst h2
    show CRel K mg F' α _ (if n = m then .fr d else .ad m) _
    by_cases q : n = m
    · subst q; rw [if_pos rfl]; exact hd
    · rw [if_neg q]
      exact ⟨by rw [names_frS]; exact names_delL.mpr ⟨fun z => q z.symm, h1⟩, rfl⟩
  | .xv _, _, h => h
theorem CRels.freeze {n : Nat} {d : D} (hF : Same F F') (hd : Rep K mg F' d (.ref (α n))) : ∀ {c : List Ce} {v : List V}, CRels K mg F α L c v → CRels K mg F' α ((delL n L).map fun p => (p.1, frO n d p.2)) (c.map (frC n d)) v
  | _, _, .nil => .nil
  | _, _, .cons h r => .cons (h.freeze hF hd) (r.freeze hF hd)
theorem CRelF.freeze {n : Nat} {d : D} (hF : Same F F') (hd : Rep K mg F' d (.ref (α n))) : ∀ {c : List (Str × Ce)} {v : List (Str × V)}, CRelF K mg F α L c v → CRelF K mg F' α ((delL n L).map fun p => (p.1, frO n d p.2)) (c.map fun p => (p.1, frC n d p.2)) v
  | _, _, .nil => .nil
  | _, _, .cons h r => .cons (h.freeze hF hd) (r.freeze hF hd)
theorem CRelK.freeze {κ : Type} {n : Nat} {d : D} (hF : Same F F') (hd : Rep K mg F' d (.ref (α n))) : ∀ {c : List (κ × Ce)} {v : List (κ × V)}, CRelK K mg F α L c v → CRelK K mg F' α ((delL n L).map fun p => (p.1, frO n d p.2)) (c.map fun p => (p.1, frC n d p.2)) v
  | _, _, .nil => .nil
  | _, _, .cons h r => .cons (h.freeze hF hd) (r.freeze hF hd)
theorem SlR.freeze {n : Nat} {d : D} (hF : Same F F') (hd : Rep K mg F' d (.ref (α n))) : ∀ {c : List (Option Ce)} {v : L2.St}, SlR K mg F α L c v → SlR K mg F' α ((delL n L).map fun p => (p.1, frO n d p.2)) (c.map (Option.map (frC n d))) v
  | _, _, .nil => .nil
  | _, _, .no r => .no (r.freeze hF hd)
  | _, _, .so h r => .so (h.freeze hF hd) (r.freeze hF hd)
/-- a live list whose items are frozen is frozen -/
theorem Rel.freeze (R : Rel K mg B F α H σ S) {n : Nat} {ds : List D} (hn : getL n S.L = some (.fl ds)) :
    ∃ F', Rel K mg B F' α H σ (frS n (.lst ds) S) ∧ Stp F α S.L F' α ∧ Rep K mg F' (.lst ds) (.ref (α n)) ∧ ∀ c v, CRel K mg F α S.L c v → CRel K mg F' α (frS n (.lst ds) S).L (frC n (.lst ds) c) v := by
  obtain ⟨f0, f1, vs, e, r⟩ := R.live n _ (getL_mem hn)
  have hF : Same F (upd F (α n) (.lst vs)) := same_upd f0
  have hd : Rep K mg (upd F (α n) (.lst vs)) (.lst ds) (.ref (α n)) := .lst (SqL.of upd_same) (r.mono hF)
  refine ⟨upd F (α n) (.lst vs), ⟨fun b u q => ?_, R.bF.trans hF, fun b u q => ?_, R.frame, ?_, fun a b ha hb => ?_, fun m o hm => ?_, R.slots.freeze hF hd, fun m a e hm => R.fix m a e (names_delL.mp (by rw [← names_frS]; exact hm)).2⟩, ⟨hF, fun _ _ => rfl⟩, hd, fun c v h => h.freeze hF hd⟩
  · by_cases z : b = α n
    · subst z; rw [upd_same] at q; rw [e]; exact q
    · rw [upd_ne z] at q; exact R.sub b u q
  · by_cases z : b = α n
    · subst z; exact .inr f1
    · rw [upd_ne z] at q; exact R.nF b u q
  · show (names ((delL n S.L).map fun p => (p.1, frO n (.lst ds) p.2))).Nodup
    rw [names_frS]; exact nodup_delL R.nd
  · have ha : a ∈ names ((delL n S.L).map fun p => (p.1, frO n (.lst ds) p.2)) := ha
    have hb : b ∈ names ((delL n S.L).map fun p => (p.1, frO n (.lst ds) p.2)) := hb
    rw [names_frS] at ha hb
    exact R.inj a b (names_delL.mp ha).2 (names_delL.mp hb).2
  · obtain ⟨⟨m', o'⟩, h1, h2⟩ := List.mem_map.mp hm
    cases h2
    obtain ⟨h3, h4⟩ := mem_delL.mp h1
    obtain ⟨g0, g1, g2⟩ := R.live m' o' h4
    have ne : α m' ≠ α n := fun q => h3 (R.inj _ _ (mem_names h4) (mem_names (getL_mem hn)) q)
    refine ⟨(upd_ne ne).trans g0, g1, ?_⟩
    cases o' with
    | fl ds' => obtain ⟨us, e1, r1⟩ := g2; exact ⟨us, e1, r1.mono hF⟩
    | cl cs => obtain ⟨us, e1, r1⟩ := g2; exact ⟨us, e1, r1.freeze hF hd⟩
    | ins c fs =>
      obtain ⟨C, dx, us, m1, e1, e2, e3, e4, r1⟩ := g2
      exact ⟨C, dx, us, m1, e1, e2, by rw [upd_ne (fun q => by rw [q, e] at e2; cases e2)]; exact e3, e4, r1.freeze hF hd⟩
    | dT kvs => obtain ⟨us, e1, r1⟩ := g2; exact ⟨us, e1, Paired.imp (fun _ _ z => ⟨z.1, z.2.mono hF⟩) r1⟩
    | dK kvs => obtain ⟨us, e1, r1⟩ := g2; exact ⟨us, e1, Paired.imp (fun _ _ z => ⟨z.1, z.2.mono hF⟩) r1⟩
    | dC kvs => obtain ⟨us, e1, r1⟩ := g2; exact ⟨us, e1, r1.freeze hF hd⟩
/-- an object's cells speak of L alone -/
theorem CRel.res : ∀ {c : Ce} {v v1 : V} {F1 : Hp} {α1 : Nat → Addr} {mg1 : Mg}, CRel K mg F α L' c v → CRel K mg1 F1 α1 L c v1 → CRel K mg F α L c v
  | .fr _, _, _, _, _, _, h, _ => h
  | .ad n, _, _, _, _, _, ⟨_, h2⟩, ⟨h3, _⟩ => ⟨h3, h2⟩
  | .xv _, _, _, _, _, _, h, _ => h
theorem CRels.res : ∀ {c : List Ce} {v v1 : List V} {F1 : Hp} {α1 : Nat → Addr}, CRels K mg F α L' c v → CRels K mg F1 α1 L c v1 → CRels K mg F α L c v
  | _, _, _, _, _, .nil, .nil => .nil
  | _, _, _, _, _, .cons h r, .cons h' r' => .cons (h.res h') (r.res r')
theorem CRelF.res : ∀ {c : List (Str × Ce)} {v v1 : List (Str × V)} {F1 : Hp} {α1 : Nat → Addr}, CRelF K mg F α L' c v → CRelF K mg F1 α1 L c v1 → CRelF K mg F α L c v
  | _, _, _, _, _, .nil, .nil => .nil
  | _, _, _, _, _, .cons h r, .cons h' r' => .cons (h.res h') (r.res r')
theorem CRelK.res {κ : Type} : ∀ {c : List (κ × Ce)} {v v1 : List (κ × V)} {F1 : Hp} {α1 : Nat → Addr}, CRelK K mg F α L' c v → CRelK K mg F1 α1 L c v1 → CRelK K mg F α L c v
  | _, _, _, _, _, .nil, .nil => .nil
  | _, _, _, _, _, .cons h r, .cons h' r' => .cons (h.res h') (r.res r')
theorem LAt.res {a a1 : Addr} {o : LO} {F1 H1 : Hp} {α1 : Nat → Addr} (h : LAt K mg B F α L' H a o) (h1 : LAt K mg B F1 α1 L H1 a1 o) : LAt K mg B F α L H a o := by
  cases o with
  | fl ds => exact h
  | cl cs => obtain ⟨us, e1, r1⟩ := h; obtain ⟨_, _, q⟩ := h1; exact ⟨us, e1, r1.res q⟩
  | ins c fs => obtain ⟨C, dx, us, m1, e1, e2, e3, e4, r1⟩ := h; obtain ⟨_, _, _, _, _, _, _, _, q⟩ := h1; exact ⟨C, dx, us, m1, e1, e2, e3, e4, r1.res q⟩
  | dT kvs => exact h
  | dK kvs => exact h
  | dC kvs => obtain ⟨us, e1, r1⟩ := h; obtain ⟨_, _, q⟩ := h1; exact ⟨us, e1, r1.res q⟩
theorem LAt.frz {a p : Addr} {o : LO} {vs : List V} (f0 : F p = none) (e : H p = some (.lst vs)) (h : LAt K mg B F α L H a o) : LAt K mg B (upd F p (.lst vs)) α L H a o := by
  have hF : Same F (upd F p (.lst vs)) := same_upd f0
  have st : Stp F α L (upd F p (.lst vs)) α := ⟨hF, fun _ _ => rfl⟩
  cases o with
  | fl ds => obtain ⟨us, e1, r1⟩ := h; exact ⟨us, e1, r1.mono hF⟩
  | cl cs => obtain ⟨us, e1, r1⟩ := h; exact ⟨us, e1, r1.step st fun _ z => z⟩
  | ins c fs =>
    obtain ⟨C, dx, us, m1, e1, e2, e3, e4, r1⟩ := h
    exact ⟨C, dx, us, m1, e1, e2, by rw [upd_ne (fun q => by rw [q, e] at e2; cases e2)]; exact e3, e4, r1.step st fun _ z => z⟩
  | dT kvs => obtain ⟨us, e1, r1⟩ := h; exact ⟨us, e1, Paired.imp (fun _ _ z => ⟨z.1, z.2.mono hF⟩) r1⟩
  | dK kvs => obtain ⟨us, e1, r1⟩ := h; exact ⟨us, e1, Paired.imp (fun _ _ z => ⟨z.1, z.2.mono hF⟩) r1⟩
  | dC kvs => obtain ⟨us, e1, r1⟩ := h; exact ⟨us, e1, r1.step st fun _ z => z⟩
/-- the last live list is frozen, the rest is as it was -/
theorem Rel.close {F1 H1 : Hp} {α1 : Nat → Addr} {σ1 : L2.St} {ρ ρ1 : List (Option Ce)} {n : Nat} {ds : List D} (R1 : Rel K mg B F1 α1 H1 σ1 ⟨ρ1, L⟩) (R : Rel K mg B F α H σ ⟨ρ, L ++ [(n, .fl ds)]⟩) (st : Stp F1 α1 L F α) (hn : n ∉ names L) :
    ∃ F', Rel K mg B F' α H σ1 ⟨ρ1, L⟩ ∧ Stp F1 α1 L F' α ∧ Rep K mg F' (.lst ds) (.ref (α n)) := by
  obtain ⟨f0, f1, vs, e, r⟩ := R.live n (.fl ds) (List.mem_append_right _ (List.mem_singleton.mpr rfl))
  have hF : Same F (upd F (α n) (.lst vs)) := same_upd f0
  have hd : Rep K mg (upd F (α n) (.lst vs)) (.lst ds) (.ref (α n)) := .lst (SqL.of upd_same) (r.mono hF)
  have st2 : Stp F1 α1 L (upd F (α n) (.lst vs)) α := ⟨st.fro.trans hF, st.nm⟩
  have nn : ∀ m, m ∈ names L → m ∈ names (L ++ [(n, LO.fl ds)]) := fun m h => Sub.app m h
  refine ⟨upd F (α n) (.lst vs), ⟨fun b u q => ?_, R.bF.trans hF, fun b u q => ?_, R.frame, R1.nd, fun a b ha hb => R.inj a b (nn a ha) (nn b hb), fun m o hm => ?_, R1.slots.step st2 fun _ z => z, fun m a e hm => R.fix m a e (nn m hm)⟩, st2, hd⟩
  · by_cases z : b = α n
    · subst z; rw [upd_same] at q; rw [e]; exact q
    · rw [upd_ne z] at q; exact R.sub b u q
  · by_cases z : b = α n
    · subst z; exact .inr f1
    · rw [upd_ne z] at q; exact R.nF b u q
  · have hm' : (m, o) ∈ L := hm
    obtain ⟨g0, g1, g2⟩ := R.live m o (List.mem_append_left _ hm')
    have ne : α m ≠ α n := fun q => hn (by rw [← R.inj _ _ (nn m (mem_names hm')) (by rw [names_append]; exact List.mem_append_right _ (List.mem_singleton.mpr rfl)) q]; exact mem_names hm')
    refine ⟨by rw [upd_ne ne]; exact g0, g1, ?_⟩
    have g3 : LAt K mg B (upd F (α n) (.lst vs)) α (L ++ [(n, .fl ds)]) H (α m) o := g2.frz f0 e
    exact g3.res (R1.live m o hm').2.2
end
end Nz
namespace Nz
open PySem PySem.Spec PyProof.Rows L2
def EgC (X : Cx) (B : Bd) (tg : Expr) (c : Ce) (S S2 : Nz.S) (vs : List Nat) : Prop :=
  ∀ F α H σ v Q, RelX X B F α H σ S → CR X F α S.L c v → (∀ σ' F' H', RelX X B F' α H' σ' S2 → Same F F' → wipe σ' vs = wipe σ vs → Q σ' H') → wG X tg v σ H Q
theorem wipe_set : ∀ {vs : List Nat} {σ : L2.St} {i : Nat} {x : Option V}, i ∈ vs → wipe (σ.set i x) vs = wipe σ vs
  | v :: vs, σ, i, x, h => by
    show (wipe (σ.set i x) vs).set v none = (wipe σ vs).set v none
    by_cases hi : i ∈ vs
    · rw [wipe_set hi]
    · have e : v = i := by
        rcases List.mem_cons.mp h with h | h
        · exact h.symm
        · exact absurd h hi
      subst e
      clear h
      have key : ∀ (vs : List Nat) (σ : L2.St), v ∉ vs → wipe (σ.set v x) vs = (wipe σ vs).set v x := by
        intro vs
        induction vs with
        | nil => intro σ _; rfl
        | cons u us ih =>
          intro σ hn
          show (wipe (σ.set v x) us).set u none = ((wipe σ us).set u none).set v x
          rw [ih σ (fun z => hn (List.mem_cons_of_mem _ z)), List.set_comm _ _ (fun z => hn (by rw [z]; exact List.mem_cons_self))]
      rw [key vs σ hi, List.set_set]
theorem wipe_idem {σ : L2.St} : ∀ {vs : List Nat}, wipe (wipe σ vs) vs = wipe σ vs
  | [] => rfl
  | v :: vs => by
    show (wipe ((wipe σ vs).set v none) vs).set v none = (wipe σ vs).set v none
    by_cases h : v ∈ vs
    · rw [wipe_set h, wipe_idem]
    · have key : ∀ (ws : List Nat) (τ : L2.St), v ∉ ws → wipe (τ.set v none) ws = (wipe τ ws).set v none := by
        intro ws
        induction ws with
        | nil => intro τ _; rfl
        | cons u us ih =>
          intro τ hn
          show (wipe (τ.set v none) us).set u none = ((wipe τ us).set u none).set v none
          rw [ih τ (fun z => hn (List.mem_cons_of_mem _ z)), List.set_comm _ _ (fun z => hn (by rw [z]; exact List.mem_cons_self))]
      rw [key vs _ h, wipe_idem, List.set_set]
theorem getL_app : ∀ {L : List (Nat × LO)} {n : Nat} {o : LO}, n ∉ names L → getL n (L ++ [(n, o)]) = some o
  | [], n, o, _ => by simp [getL]
  | (m, u) :: r, n, o, h => by
    show (if n = m then some u else getL n (r ++ [(n, o)])) = _
    rw [if_neg (fun z => h (by rw [z]; exact List.mem_cons_self)), getL_app (fun z => h (List.mem_cons_of_mem _ z))]
theorem setL_app : ∀ {L : List (Nat × LO)} {n : Nat} {o u : LO}, n ∉ names L → setL n u (L ++ [(n, o)]) = L ++ [(n, u)]
  | [], n, o, u, _ => by simp [setL]
  | (m, w) :: r, n, o, u, h => by
    show (if n = m then (m, u) :: (r ++ [(n, o)]) else (m, w) :: setL n u (r ++ [(n, o)])) = _
    rw [if_neg (fun z => h (by rw [z]; exact List.mem_cons_self)), setL_app (fun z => h (List.mem_cons_of_mem _ z))]
    rfl
theorem eg_nameC {X : Cx} {B : Bd} {S : Nz.S} {vs : List Nat} (i : Nat) {x : Str} {c : Ce} {pos : Pos} (hN : X.N.Nodup) (hi : X.N[i]? = some x) (hx : Loc X.env.scope x) (hv : i ∈ vs) (hf : X.fn x = true ∨ X.env.scope.names.lookup x = some .local) : EgC X B (.Name x pos) c S (setS S i c) vs :=
  fun F α H σ v Q R r k pins s u I ru => (pg_name hN hi hx hf).run pins s σ H v u Q I ru (k _ F H (R.setS r) (Same.refl _) (wipe_set hv))
def EgsC (X : Cx) (B : Bd) (ts : List Expr) (cs : List D) (S S2 : Nz.S) (ws : List Nat) : Prop :=
  ∀ F α H σ vs (Q : L2.St → Hp → Prop), RelX X B F α H σ S → Reps X.K X.mg F cs vs → (∀ σ' F' H', RelX X B F' α H' σ' S2 → Same F F' → wipe σ' ws = wipe σ ws → Q σ' H') →
    ∀ pins s us, Inv X pins σ H s → Vals vs us → wpAny (model X.prog X.w) X.A (assignInOrder ((assignEach ts X.env).map (·.2)) us) (fun _ s' => ∃ σ' H', Inv X pins σ' H' s' ∧ Q σ' H') X.xe s
section
variable {X : Cx} {B : Bd} {S S1 S2 : Nz.S} {ws : List Nat} {e : Expr} {es : List Expr} {d : D} {pos : Pos}
theorem egs_nilC : EgsC X B [] [] S S ws := fun F α H σ vs Q R r k pins s us I ru => by
  cases r
  cases ru
  exact assignInOrder_nil ⟨σ, H, I, k σ F H R (Same.refl _) rfl⟩
theorem egs_consC {ds : List D} (h1 : EgC X B e (.fr d) S S1 ws) (h2 : EgsC X B es ds S1 S2 ws) (hL : S1.L = S.L := by rfl) (hs : (assignEach (e :: es) X.env).map (·.2) = assign e X.env :: (assignEach es X.env).map (·.2) := by rfl) : EgsC X B (e :: es) (d :: ds) S S2 ws :=
  fun F α H σ vs Q R r k pins s us I ru => by
    cases r with
    | cons r rr =>
      cases ru with
      | cons u uu =>
        rw [hs]
        refine assignInOrder_cons (thn (h1 F α H σ _ (fun σ1 H1 => ∃ F1, RelX X B F1 α H1 σ1 S1 ∧ Same F F1 ∧ wipe σ1 ws = wipe σ ws) R r (fun σ' F' H' R' s' w' => ⟨F', R', s', w'⟩) pins s _ I u) fun _ s1 ⟨σ1, H1, I1, F1, R1, sm, w1⟩ => ?_)
        exact h2 F1 α H1 σ1 _ Q R1 (rr.mono sm) (fun σ' F' H' R' s' w' => k σ' F' H' R' (sm.trans s') (w'.trans w1)) pins s1 _ I1 uu
theorem eg_tupC {ds : List D} {k1} (hc : X.calm = true) (h : EgsC X B es ds S S2 ws) (hn : (assignEach es X.env).length = ds.length := by rfl) (hst : (assignEach es X.env).findIdx? (·.1) = none := by rfl) : EgC X B (.Tuple es k1 pos) (.fr (.tup ds)) S S2 ws :=
  fun F α H σ v Q R r k pins s u I ru => by
    cases (show Rep X.K X.mg F (.tup ds) v from r) with
    | tup hq hr =>
      have hq' := R.sub.seqT hq
      cases ru
      obtain ⟨its, rv, ht, hz⟩ := I.tuple hq'
      refine assign_Tuple_tuple (I.ok.hd hc) ht (by simp [hn, hr.length, rv.length]) hst fun h' hx => ?_
      have I1 : Inv X pins σ H { s with heap := h' } := I.kept (t' := s.toks) fun b o e => hx b o (Nat.ne_of_lt (Heap.lt_size e)) e
      exact h F α H σ _ Q R hr k pins _ _ I1 (by simpa using rv)
end
def wTs (X : Cx) (ifs : List Expr) (σ : L2.St) (H : Hp) (Q : Bool → Hp → Prop) : Prop :=
  ∀ pins s, Inv X pins σ H s → wpAny (model X.prog X.w) X.A (forIn ifs true fun c r => if r = true then do let ok ← isTrue c X.env (eval c X.env); pure (ForInStep.yield ok) else pure (ForInStep.yield r)) (TP X pins σ Q) X.xe s
def Ets (X : Cx) (B : Bd) (ifs : List Expr) (S : Nz.S) (b : Bool) : Prop :=
  ∀ F α H σ Q, RelX X B F α H σ S → (∀ F' α' H', RelX X B F' α' H' σ S → Stp F α S.L F' α' → Q b H') → wTs X ifs σ H Q
theorem ets_nil {X : Cx} {B : Bd} {S : Nz.S} : Ets X B [] S true := fun F α H σ Q R k pins s I => pts_nil.run pins s σ H Q I (k F α H R Stp.refl)
theorem ets_one {X : Cx} {B : Bd} {S : Nz.S} {c : Expr} {b : Bool} (h : Et X B c S b S) : Ets X B [c] S b := fun F α H σ Q R k pins s I => (pts_one pt_w).run pins s σ H Q I (h F α H σ Q R k)
def wipeC (ρ : List (Option Ce)) : List Nat → List (Option Ce)
  | [] => ρ
  | v :: vs => (wipeC ρ vs).set v none
theorem SlR.setN {K : Frag} {mg : Mg} {F : Hp} {α : Nat → Addr} {L : List (Nat × LO)} : ∀ {c : List (Option Ce)} {σ : L2.St} (i : Nat) {o : Option V}, SlR K mg F α L c σ → SlR K mg F α L (c.set i none) (σ.set i o)
  | _, _, _, _, .nil => .nil
  | _, _, 0, _, .no r => .no r
  | _, _, 0, _, .so _ r => .no r
  | _, _, i + 1, _, .no r => .no (r.setN i)
  | _, _, i + 1, _, .so q r => .so q (r.setN i)
theorem SlR.wipe {K : Frag} {mg : Mg} {F : Hp} {α : Nat → Addr} {L : List (Nat × LO)} {c : List (Option Ce)} {σ : L2.St} (h : SlR K mg F α L c σ) : ∀ vs : List Nat, SlR K mg F α L (wipeC c vs) (L2.wipe σ vs)
  | [] => h
  | v :: vs => (h.wipe vs).setN v
/-- the context of a comprehension's block -/
abbrev Blk (X : Cx) (scope : Scope) (s : Shared) (H : Hp) (C : Addr) (cl : List (Str × Addr)) (fp : List Addr) : Cx := X.blk s H scope (compEnvC scope cl C X.env) fp
section
variable {X : Cx} {B : Bd} {S S1 : Nz.S} {elt tg iter : Expr} {ifs : List Expr} {scope : Scope} {own : List (Str × Nat)} {pos : Pos}
/-- [elt for tg in iter if ..] of data -/
theorem lc_reading {τ : Type} (nD : Nat) {ys : List τ} {enc : τ → D} (f : τ → D) (p : τ → Bool) (Sx : Nat → τ → List D → Nz.S)
    (hsrc : Src X B tg iter S (ys.map enc) S1) (hn : nD ∉ names S1.L) (h100 : 100 ≤ nD) (hz : ys.length ≤ sizeLine) (hL : ∀ i y acc, (Sx i y acc).L = S1.L ++ [(nD, .fl acc)])
    (hg : ∀ i y acc, ys[i]? = some y → ∀ s H0 C cl fp, EgC (Blk X scope s H0 C cl fp) B tg (.fr (enc y)) ⟨wipeC S1.ρ (own.map (·.2)), S1.L ++ [(nD, .fl acc)]⟩ (Sx i y acc) (own.map (·.2)))
    (ht : ∀ i y acc, ys[i]? = some y → ∀ s H0 C cl fp, Ets (Blk X scope s H0 C cl fp) B ifs (Sx i y acc) (p y))
    (he : ∀ i y acc, ys[i]? = some y → p y = true → ∀ s H0 C cl fp, Ev (Blk X scope s H0 C cl fp) B elt (Sx i y acc) (.fr (f y)) (Sx i y acc))
    (F : Hp) (α : Nat → Addr) (H : Hp) (σ : L2.St) (Q : VK) (R : RelX X B F α H σ S) (hS : Sub S.L S1.L)
    (k : ∀ F' α' v H', RelX X B F' α' H' σ S1 → Stp F α S.L F' α' → Rep X.K X.mg F' (.lst ((ys.filter p).map f)) v → Q v H') :
    tLc (wI X tg iter) (fun v σ H Q => ∀ s H0 C cl fp, wG (Blk X scope s H0 C cl fp) tg v σ H Q) (fun σ H Q => ∀ s H0 C cl fp, wTs (Blk X scope s H0 C cl fp) ifs σ H Q) (fun σ H Q => ∀ s H0 C cl fp, wE (Blk X scope s H0 C cl fp) elt σ H Q) (own.map (·.2)) σ H Q := by
  refine hsrc F α H σ _ R fun F1 α1 H1 J R1 st1 j => ?_
  intro D hD
  have Rn := R1.allocL (n := nD) (u := .fl []) (o := .lst []) hD hn h100 ⟨[], upd_same, .nil⟩
  have stn : Stp F1 α1 S1.L F1 (setα α1 nD D) := stp_setα hn
  have eD : setα α1 nD D nD = D := by unfold setα; rw [if_pos rfl]
  -- the state at turn i
  let W : Nat → Hp → Prop := fun i H => ∃ F' α', RelX X B F' α' H (L2.wipe σ (own.map (·.2))) ⟨wipeC S1.ρ (own.map (·.2)), S1.L ++ [(nD, .fl (((ys.take i).filter p).map f))]⟩ ∧ Stp F1 (setα α1 nD D) (S1.L ++ [(nD, .fl [])]) F' α'
  have w0 : W 0 (upd H1 D (.lst [])) := ⟨F1, setα α1 nD D, ⟨Rn.sub, Rn.bF, Rn.nF, Rn.frame, Rn.nd, Rn.inj, Rn.live, Rn.slots.wipe _, Rn.fix⟩, Stp.refl⟩
  refine ⟨fun i m H => m = ys.length - i ∧ i ≤ ys.length ∧ W i H, ⟨ys.length, by simp, Nat.zero_le _, w0⟩, ?_⟩
  rintro i m H' ⟨rfl, hi, F', α', R', st'⟩
  have sm : Same F1 F' := st'.fro
  have nmD : α' nD = D := by rw [st'.nm nD (by rw [names_append]; exact List.mem_append_right _ (List.mem_singleton.mpr rfl)), eD]
  by_cases hlt : i < ys.length
  · obtain ⟨y, hy⟩ : ∃ y, ys[i]? = some y := ⟨ys[i], by simp [hlt]⟩
    obtain ⟨g, yl⟩ := j.go B F' α' H' _ _ i (enc y) R' sm (by rw [List.getElem?_map, hy]; rfl)
    have tk : (ys.take (i + 1)) = ys.take i ++ [y] := by rw [List.take_succ, hy]; rfl
    refine .inr ⟨g, W (i + 1), fun H2 w2 => ⟨ys.length - (i + 1), by omega, rfl, hlt, w2⟩, fun x H2 yy => ?_⟩
    obtain ⟨F2, R2, s2, r2⟩ := yl x H2 yy
    intro sA HA CA clA fpA
    refine hg i y (((ys.take i).filter p).map f) hy sA HA CA clA fpA F2 α' H2 _ x _ R2 r2 fun σ3 F3 H3 R3 s3 w3 => ⟨w3.trans wipe_idem, ?_⟩
    intro sB HB CB clB fpB
    refine ht i y (((ys.take i).filter p).map f) hy sB HB CB clB fpB F3 α' H3 σ3 _ R3 fun F4 α4 H4 R4 st4 => ?_
    have hLL := hL i y (((ys.take i).filter p).map f)
    have full : ∀ {F5 : Hp} {α5 : Nat → Addr} {acc : List Nz.D}, Same F' F5 → (∀ n, n ∈ names (S1.L ++ [(nD, LO.fl (((ys.take i).filter p).map f))]) → α5 n = α' n) → Stp F1 (setα α1 nD D) (S1.L ++ [(nD, .fl [])]) F5 α5 := fun {F5 α5 acc} h1 h2 =>
      ⟨sm.trans h1, fun n hn' => by
        rw [h2 n (by rw [names_append] at hn' ⊢; exact hn'), st'.nm n hn']⟩
    have back : ∀ {F5 : Hp} {α5 : Nat → Addr} {H5 : Hp} {acc : List Nz.D}, RelX X B F5 α5 H5 σ3 ⟨(Sx i y (((ys.take i).filter p).map f)).ρ, S1.L ++ [(nD, .fl acc)]⟩ → SlR X.K X.mg F5 α5 (S1.L ++ [(nD, .fl acc)]) (wipeC S1.ρ (own.map (·.2))) (L2.wipe σ (own.map (·.2))) →
        RelX X B F5 α5 H5 (L2.wipe σ (own.map (·.2))) ⟨wipeC S1.ρ (own.map (·.2)), S1.L ++ [(nD, .fl acc)]⟩ := fun {F5 α5 H5 acc} Rr sl => ⟨Rr.sub, Rr.bF, Rr.nF, Rr.frame, Rr.nd, Rr.inj, Rr.live, sl, Rr.fix⟩
    have sl0 : SlR X.K X.mg F' α' (S1.L ++ [(nD, .fl (((ys.take i).filter p).map f))]) (wipeC S1.ρ (own.map (·.2))) (L2.wipe σ (own.map (·.2))) := R'.slots
    have st4' : Stp F' α' (S1.L ++ [(nD, .fl (((ys.take i).filter p).map f))]) F4 α4 := ⟨s2.trans (s3.trans st4.fro), fun n hn' => st4.nm n (by rw [hLL]; exact hn')⟩
    cases hp : p y with
    | false =>
      rw [if_neg Bool.false_ne_true]
      have e2 : ((ys.take (i + 1)).filter p).map f = ((ys.take i).filter p).map f := by rw [tk, List.filter_append]; simp [hp]
      refine ⟨F4, α4, ?_, full (acc := []) st4'.fro st4'.nm⟩
      rw [e2]
      have R4' : RelX X B F4 α4 H4 σ3 ⟨(Sx i y (((ys.take i).filter p).map f)).ρ, S1.L ++ [(nD, .fl (((ys.take i).filter p).map f))]⟩ := by rw [← hLL]; exact R4
      exact back R4' (sl0.step st4' fun _ z => z)
    | true =>
      rw [if_pos rfl]
      intro sC HC CC clC fpC
      refine he i y (((ys.take i).filter p).map f) hy hp sC HC CC clC fpC F4 α4 H4 σ3 _ R4 fun F5 α5 v5 H5 R5 st5 r5 => ?_
      have st5' : Stp F' α' (S1.L ++ [(nD, .fl (((ys.take i).filter p).map f))]) F5 α5 := st4'.trans ⟨st5.fro, fun n hn' => st5.nm n (by rw [hLL]; exact hn')⟩ fun _ z => z
      have R5' : RelX X B F5 α5 H5 σ3 ⟨(Sx i y (((ys.take i).filter p).map f)).ρ, S1.L ++ [(nD, .fl (((ys.take i).filter p).map f))]⟩ := by rw [← hLL]; exact R5
      obtain ⟨q0, q1, vs5, e5, rs5⟩ := R5'.live nD _ (List.mem_append_right _ (List.mem_singleton.mpr rfl))
      have nm5 : α5 nD = D := by rw [st5'.nm nD (by rw [names_append]; exact List.mem_append_right _ (List.mem_singleton.mpr rfl)), nmD]
      have gl := getL_app (o := .fl (((ys.take i).filter p).map f)) hn
      have sl : ∀ (acc : List Nz.D), setL nD (.fl acc) (S1.L ++ [(nD, LO.fl (((ys.take i).filter p).map f))]) = S1.L ++ [(nD, .fl acc)] := fun acc => setL_app hn
      rw [nm5] at e5
      have e2 : ((ys.take (i + 1)).filter p).map f = ((ys.take i).filter p).map f ++ [f y] := by rw [tk, List.filter_append, List.map_append]; simp [hp]
      have lenv : vs5.length < sizeLine := by
        rw [← rs5.length, List.length_map]
        have := List.length_filter_le p (ys.take i)
        rw [List.length_take] at this
        omega
      refine ⟨vs5, e5, lenv, F5, α5, ?_, full (acc := []) st5'.fro st5'.nm⟩
      have Rp := R5'.put (n := nD) (u := .fl (((ys.take i).filter p).map f ++ [f y])) (o' := .lst (vs5 ++ [v5])) (getL_mem gl) ⟨vs5 ++ [v5], upd_same, rs5.append (.cons r5 .nil)⟩
      rw [nm5] at Rp
      rw [e2]
      have Rp' : RelX X B F5 α5 (upd H5 D (.lst (vs5 ++ [v5]))) σ3 ⟨(Sx i y (((ys.take i).filter p).map f)).ρ, S1.L ++ [(nD, .fl (((ys.take i).filter p).map f ++ [f y]))]⟩ := by rw [← sl]; exact Rp
      refine back Rp' (sl0.step (L' := S1.L ++ [(nD, .fl (((ys.take i).filter p).map f ++ [f y]))]) st5' fun n hn' => by rw [names_append] at hn' ⊢; exact hn')
  · have e1 : i = ys.length := by omega
    subst e1
    refine .inl ⟨j.stop B F' α' H' _ _ _ R' sm (by rw [List.length_map]; exact Nat.le_refl _), ?_⟩
    rw [List.take_length] at R'
    have stA : Stp F1 α1 S1.L F' α' := stn.trans ⟨st'.fro, fun n hn' => st'.nm n (Sub.app n hn')⟩ fun _ z => z
    obtain ⟨F6, R6, st6, r6⟩ := Rel.close (L := S1.L) R1 R' stA hn
    rw [nmD] at r6
    exact k F6 α' (.ref D) H' R6 (st1.trans st6 hS) r6
section
variable {τ : Type} {ys : List τ} {enc : τ → D}
theorem ev_lc (nD : Nat) (ys : List τ) (enc : τ → D) (f : τ → D) (p : τ → Bool) (Sx : Nat → τ → List D → Nz.S) (hc : X.calm = true) (hN : X.N.Nodup) (ok : BlkOk X.N X.env.scope scope own)
    (hsrc : Src X B tg iter S (ys.map enc) S1) (hn : nD ∉ names S1.L) (h100 : 100 ≤ nD) (hz : ys.length ≤ sizeLine) (hL : ∀ i y acc, (Sx i y acc).L = S1.L ++ [(nD, .fl acc)])
    (hg : ∀ i y acc, ys[i]? = some y → ∀ s H0 C cl fp, EgC (Blk X scope s H0 C cl fp) B tg (.fr (enc y)) ⟨wipeC S1.ρ (own.map (·.2)), S1.L ++ [(nD, .fl acc)]⟩ (Sx i y acc) (own.map (·.2)))
    (ht : ∀ i y acc, ys[i]? = some y → ∀ s H0 C cl fp, Ets (Blk X scope s H0 C cl fp) B ifs (Sx i y acc) (p y))
    (he : ∀ i y acc, ys[i]? = some y → p y = true → ∀ s H0 C cl fp, Ev (Blk X scope s H0 C cl fp) B elt (Sx i y acc) (.fr (f y)) (Sx i y acc)) (hS : Sub S.L S1.L := by exact Sub.refl) (hs : ∀ x, foldedSetIterable iter X.env x = pure x := by intro _; rfl) :
    Ev X B (.ListComp elt [⟨tg, iter, ifs, 0⟩] scope pos) S (.fr (.lst ((ys.filter p).map f))) S1 :=
  fun F α H σ Q R k => wE.of (pe_lc hc hN pi_w ok (fun s H0 C cl fp => ⟨fun pins s1 σ1 H1 v u Q1 I r h => h s H0 C cl fp pins s1 u I r⟩) (fun s H0 C cl fp => ⟨fun pins s1 σ1 H1 Q1 I h => h s H0 C cl fp pins s1 I⟩) (fun s H0 C cl fp => ⟨fun pins s1 σ1 H1 Q1 I h => h s H0 C cl fp pins s1 I⟩) hs)
    (lc_reading nD f p Sx hsrc hn h100 hz hL hg ht he F α H σ Q R hS k)
theorem ex_setLc (i : Nat) {y : Str} {py spos : Pos} {K : Out → Prop} (nD : Nat) (ys : List τ) (enc : τ → D) (f : τ → D) (p : τ → Bool) (Sx : Nat → τ → List D → Nz.S) (hc : X.calm = true) (hN : X.N.Nodup) (hy : X.N[i]? = some y) (hyl : X.env.scope.names.lookup y = some .local)
    (hsw : swapsWith (.ListComp elt [⟨tg, iter, ifs, 0⟩] scope pos) (some (.Name y py)) spos.line X.env = pure true) (ok : BlkOk X.N X.env.scope scope own)
    (hsrc : Src X B tg iter S (ys.map enc) S1) (hn : nD ∉ names S1.L) (h100 : 100 ≤ nD) (hz : ys.length ≤ sizeLine) (hL : ∀ i y acc, (Sx i y acc).L = S1.L ++ [(nD, .fl acc)])
    (hg : ∀ i y acc, ys[i]? = some y → ∀ s H0 C cl fp, EgC (Blk X scope s H0 C cl fp) B tg (.fr (enc y)) ⟨wipeC S1.ρ (own.map (·.2)), S1.L ++ [(nD, .fl acc)]⟩ (Sx i y acc) (own.map (·.2)))
    (ht : ∀ i y acc, ys[i]? = some y → ∀ s H0 C cl fp, Ets (Blk X scope s H0 C cl fp) B ifs (Sx i y acc) (p y))
    (he : ∀ i y acc, ys[i]? = some y → p y = true → ∀ s H0 C cl fp, Ev (Blk X scope s H0 C cl fp) B elt (Sx i y acc) (.fr (f y)) (Sx i y acc))
    (k : K (.nx (setS S1 i (.fr (.lst ((ys.filter p).map f)))))) (hS : Sub S.L S1.L := by exact Sub.refl) (hs : ∀ x, foldedSetIterable iter X.env x = pure x := by intro _; rfl) :
    Ex X B (.Assign [.Name y py] (.ListComp elt [⟨tg, iter, ifs, 0⟩] scope pos) spos) S K :=
  fun F α H σ D R o => wS.of (ps_setLc hc hN hy hyl hsw pi_w ok (fun s H0 C cl fp => ⟨fun pins s1 σ1 H1 v u Q1 I r h => h s H0 C cl fp pins s1 u I r⟩) (fun s H0 C cl fp => ⟨fun pins s1 σ1 H1 Q1 I h => h s H0 C cl fp pins s1 I⟩) (fun s H0 C cl fp => ⟨fun pins s1 σ1 H1 Q1 I h => h s H0 C cl fp pins s1 I⟩) hs)
    (lc_reading nD f p Sx hsrc hn h100 hz hL hg ht he F α H σ _ R hS fun F' α' v H' R' st r => o.nx _ F' α' H' _ k (R'.setS r) st.fro)
end
end
def Cb (X : Cx) (f : Value) (ds : List D) (d : D) : Prop :=
  ∀ B F α H σ (S : Nz.S) (Q : VK) xs, RelX X B F α H σ S → Reps X.K X.mg F ds xs → (∀ F' α' v H', RelX X B F' α' H' σ S → Stp F α S.L F' α' → Rep X.K X.mg F' d v → Q v H') →
    ∀ pins s us, Inv X pins σ H s → Vals xs us → wpAny (model X.prog X.w) X.A (call f us) (EP X pins σ Q) X.xe s
theorem Cb.of {X : Cx} {f : Value} {ds : List D} {d : D} {r : List V → Hp → VK → Prop} (h : CallR X f r)
    (hr : ∀ B F α H σ (S : Nz.S) (Q : VK) xs, RelX X B F α H σ S → Reps X.K X.mg F ds xs → (∀ F' α' v H', RelX X B F' α' H' σ S → Stp F α S.L F' α' → Rep X.K X.mg F' d v → Q v H') → r xs H Q) : Cb X f ds d :=
  fun B F α H σ S Q xs R rx k pins s us I rv => h pins s σ H xs us Q I rv (hr B F α H σ S Q xs R rx k)
section
variable {X : Cx} {B : Bd} {S S1 : Nz.S} {a e : Expr} {es : List Expr} {pos p : Pos} {x : Str} {ds : List D} {d : D} {id T : String}
theorem ev_callB (hc : Cb X (.builtin id) ds d) (ha : Ea X B (e :: es) S (ds.map Ce.fr) S1) (hg : Gl X x) (hm : X.mg x = none) (hv : bootBuiltins x = some (.builtin id)) (h1 : Sub S.L S1.L := by exact Sub.refl) (hn : x ≠ "__name__" := by decide) (hdb : (x == ("__debug__" : Str)) = false := by decide)
    (he : starEach (e :: es) X.env = (false, eval e X.env) :: starEach es X.env := by rfl) (hpl : (backTo pos (starEach es X.env)).any (·.1) = false := by rfl) : Ev X B (.Call (.Name x p) (e :: es) [] pos) S (.fr d) S1 :=
  fun F α H σ Q R k pins s I => wpAny_Call_Name_kw (ld_blt I hg hm hv (PyProof.Rows.callWith_builtin1 (thn (ha F α H σ (fun vs H1 => ∃ F1 α1, RelX X B F1 α1 H1 σ S1 ∧ Stp F α S.L F1 α1 ∧ Reps X.K X.mg F1 ds vs) R
    (fun F1 α1 vs H1 R1 st1 r1 => ⟨F1, α1, R1, st1, r1.fr⟩) pos pins s I) fun us s1 ⟨vs, H1, I1, rv, F1, α1, R1, st1, r1⟩ =>
      hc B F1 α1 H1 σ S1 Q vs R1 r1 (fun F' α' v H' R' st' r' => k F' α' v H' R' (st1.trans st' h1) r') pins s1 us I1 rv) he hpl) hn hdb)
theorem ev_callTy (hc : Cb X (.type T) ds d) (ha : Ea X B (e :: es) S (ds.map Ce.fr) S1) (hg : Gl X x) (hm : X.mg x = none) (hv : bootBuiltins x = some (.type T)) (h1 : Sub S.L S1.L := by exact Sub.refl) (hn : x ≠ "__name__" := by decide) (hdb : (x == ("__debug__" : Str)) = false := by decide)
    (he : starEach (e :: es) X.env = (false, eval e X.env) :: starEach es X.env := by rfl) (hpl : (backTo pos (starEach es X.env)).any (·.1) = false := by rfl) : Ev X B (.Call (.Name x p) (e :: es) [] pos) S (.fr d) S1 :=
  fun F α H σ Q R k pins s I => wpAny_Call_Name_kw (ld_blt I hg hm hv (PyProof.Rows.callWith_type1 (thn (ha F α H σ (fun vs H1 => ∃ F1 α1, RelX X B F1 α1 H1 σ S1 ∧ Stp F α S.L F1 α1 ∧ Reps X.K X.mg F1 ds vs) R
    (fun F1 α1 vs H1 R1 st1 r1 => ⟨F1, α1, R1, st1, r1.fr⟩) pos pins s I) fun us s1 ⟨vs, H1, I1, rv, F1, α1, R1, st1, r1⟩ =>
      hc B F1 α1 H1 σ S1 Q vs R1 r1 (fun F' α' v H' R' st' r' => k F' α' v H' R' (st1.trans st' h1) r') pins s1 us I1 rv) he hpl) hn hdb)
theorem c_abs {i : Int} : Cb X (.builtin "abs") [.int i] (.int (if i < 0 then -i else i)) := .of call_abs fun B F α H σ S Q xs R rx k => by
  cases rx with | cons r rr => cases rr; cases r; exact ⟨i, rfl, k F α _ H R Stp.refl (.int _)⟩
theorem c_max2 {i j : Int} (hc : X.calm = true) : Cb X (.builtin "max") [.int i, .int j] (.int (if j > i then j else i)) := .of (call_max2 hc) fun B F α H σ S Q xs R rx k => by
  cases rx with | cons r rr => cases rr with | cons r2 rr => cases rr; cases r; cases r2; exact ⟨i, j, rfl, k F α _ H R Stp.refl (.int _)⟩
theorem c_min2 {i j : Int} (hc : X.calm = true) : Cb X (.builtin "min") [.int i, .int j] (.int (if j < i then j else i)) := .of (call_min2 hc) fun B F α H σ S Q xs R rx k => by
  cases rx with | cons r rr => cases rr with | cons r2 rr => cases rr; cases r; cases r2; exact ⟨i, j, rfl, k F α _ H R Stp.refl (.int _)⟩
theorem c_lenT {xs : List D} : Cb X (.builtin "len") [.tup xs] (.int xs.length) := .of call_len_seq fun B F α H σ S Q vs R rx k => by
  cases rx with
  | cons r rr =>
    cases rr
    obtain ⟨a, us, rfl, hq, rs⟩ := R.asT r
    exact ⟨a, us, rfl, .inr hq, by rw [← rs.length]; exact k F α _ H R Stp.refl (.int _)⟩
theorem c_lenS {z : Str} (h : z.length ≤ sizeLine) : Cb X (.builtin "len") [.str z] (.int z.length) := .of call_len_str fun B F α H σ S Q vs R rx k => by
  cases rx with | cons r rr => cases rr; cases r; exact ⟨z, rfl, h, k F α _ H R Stp.refl (.int _)⟩
theorem c_sum {ns : List Int} (hc : X.calm = true) : Cb X (.builtin "sum") [.lst (ns.map D.int)] (.int ns.sum) := .of (cr_sum hc) fun B F α H σ S Q vs R rx k => by
  cases rx with
  | cons r rr =>
    cases rr
    obtain ⟨a, us, rfl, hq, rs⟩ := R.asL (c := .fr (.lst (ns.map D.int))) rfl r
    exact ⟨a, ns, rfl, by rw [← Reps.ints_eq rs]; exact hq, k F α _ H R Stp.refl (.int _)⟩
theorem c_list {xs : List D} : Cb X (.type "list") [.lst xs] (.lst xs) := .of call_list_of fun B F α H σ S Q vs R rx k => by
  cases rx with
  | cons r rr =>
    cases rr
    obtain ⟨a, us, rfl, hq, rs⟩ := R.asL (c := .fr (.lst xs)) rfl r
    exact ⟨a, us, rfl, .inl hq, fun l hl => k _ α _ _ (R.allocF hl) (stp_allocF (R.fresh hl)) (.lst (SqL.of upd_same) (rs.mono (same_upd (R.fresh hl))))⟩
theorem c_tuple {xs : List D} : Cb X (.type "tuple") [.lst xs] (.tup xs) := .of call_tuple_of fun B F α H σ S Q vs R rx k => by
  cases rx with
  | cons r rr =>
    cases rr
    obtain ⟨a, us, rfl, hq, rs⟩ := R.asL (c := .fr (.lst xs)) rfl r
    exact ⟨a, us, rfl, .inl ⟨hq, fun l hl => k _ α _ _ (R.allocF hl) (stp_allocF (R.fresh hl)) (.tup (SqT.of upd_same) (rs.mono (same_upd (R.fresh hl))))⟩⟩
theorem c_divmod {i j : Int} (h : 0 < j) (h' : j < 1073741824) : Cb X (.builtin "divmod") [.int i, .int j] (.tup [.int (i / j), .int (i % j)]) := .of call_divmod fun B F α H σ S Q vs R rx k => by
  cases rx with | cons r rr => cases rr with | cons r2 rr => cases rr; cases r; cases r2; exact ⟨i, j, rfl, ⟨h, h'⟩, fun p hp => k _ α _ _ (R.allocF hp) (stp_allocF (R.fresh hp)) (.tup (SqT.of upd_same) (.cons (.int _) (.cons (.int _) .nil)))⟩
/-- bools -/
theorem Reps.bls_eq {K : Frag} {mg : Mg} {F : Hp} : ∀ {ns : List Bool} {vs : List V}, Reps K mg F (ns.map D.bl) vs → vs = ns.map V.bl
  | [], _, .nil => rfl
  | _ :: ns, _, .cons h r => by
    cases h
    rw [Reps.bls_eq (ns := ns) r]; rfl
theorem c_all {bs : List Bool} (hc : X.calm = true) : Cb X (.builtin "all") [.lst (bs.map D.bl)] (.bl (bs.all fun b => b)) := .of (cr_all hc) fun B F α H σ S Q vs R rx k => by
  cases rx with
  | cons r rr =>
    cases rr
    obtain ⟨a, us, rfl, hq, rs⟩ := R.asL (c := .fr (.lst (bs.map D.bl))) rfl r
    exact ⟨a, bs, rfl, by rw [← Reps.bls_eq rs]; exact hq, k F α _ H R Stp.refl (.bl _)⟩
/-- len of what lives -/
theorem ev_lenL {ca : Ce} (ha : Ev X B e S ca S1) (hl : AsL S1.L ca ds) (hg : Gl X "len") (hm : X.mg "len" = none) (hs : starEach [e] X.env = (false, eval e X.env) :: starEach [] X.env := by rfl) (hpl : (backTo pos (starEach [] X.env)).any (·.1) = false := by rfl) : Ev X B (.Call (.Name "len" p) [e] [] pos) S (.fr (.int ds.length)) S1 :=
  fun F α H σ Q R k => wE.of (pe_callB call_len_seq hg hm PySem.boot_len (pa_cons pe_w pa_nil hs) (by decide) (by decide) hs hpl) (ha F α H σ _ R fun F1 α1 v1 H1 R1 st1 r1 => by
    obtain ⟨a, us, rfl, hq, rs⟩ := R1.asL hl r1
    exact ⟨a, us, rfl, .inl hq, by rw [← rs.length]; exact k F1 α1 _ H1 R1 st1 (.int _)⟩)
def tyOf : D → Option String
  | .non => some "NoneType" | .bl _ => some "bool" | .int _ => some "int" | .str _ => some "str" | .tup _ => some "tuple" | .lst _ => some "list" | .obj _ _ => none | .dK _ => none | .dT _ => none
end
end Nz
namespace Nz
open PySem PySem.Spec PyProof.Rows L2
section
variable {X : Cx} {B : Bd} {S S1 : Nz.S} {a e : Expr} {es : List Expr} {pos p q : Pos} {x : Str} {ds : List D} {d : D}
theorem tyX_lst {K : Frag} {H : Hp} {a : Addr} {vs : List V} (h : SqL K H a vs) : TyX K H (.ref a) (.type "list") := by
  rcases h with (h | ⟨o, h⟩) | ⟨o, its, n, h1, h2, _⟩
  · exact .base (.lst h)
  · exact .base (.frz h)
  · exact .kList h1 h2
theorem tyX_tup {K : Frag} {H : Hp} {a : Addr} {vs : List V} (h : SqT K H a vs) : TyX K H (.ref a) (.type "tuple") := by
  rcases h with (h | ⟨o, h⟩) | ⟨o, its, n, h1, h2, _⟩
  · exact .base (.tup h)
  · exact .fTuple h
  · exact .kTuple h1 h2
theorem Rel.tyX {F : Hp} {α : Nat → Addr} {H : Hp} {σ : L2.St} (R : RelX X B F α H σ S) {v : V} {t : String} (r : Rep X.K X.mg F d v) (h : tyOf d = some t) : TyX X.K H v (.type t) := by
  cases r with
  | non => cases h; exact .base .non
  | bl b => cases h; exact .base (.bl b)
  | int i => cases h; exact .base (.int i)
  | str z => cases h; exact .base (.str z)
  | tup h1 h2 => cases h; exact tyX_tup (R.sub.seqT h1)
  | lst h1 h2 => cases h; exact tyX_lst (R.sub.seq h1)
  | obj m h1 h2 h3 => cases h
  | dK _ _ _ => cases h
  | dT _ _ _ => cases h
/-- isinstance(a, T), T a built-in class -/
theorem ev_isi {T t : String} {b : Bool} {xT : Str} {p2 : Pos} (ha : Ev X B a S (.fr d) S1) (ht : tyOf d = some t) (hk : kitB t T = some b) (hg : Gl X "isinstance") (hm : X.mg "isinstance" = none) (hgT : Gl X xT) (hmT : X.mg xT = none) (hv : bootBuiltins xT = some (.type T))
    (hv2 : bootBuiltins "isinstance" = some (.builtin "isinstance") := by decide +kernel)
    (hn : xT ≠ "__name__" := by decide) (hd : (xT == ("__debug__" : Str)) = false := by decide)
    (he : starEach (a :: [.Name xT p2]) X.env = (false, eval a X.env) :: starEach [.Name xT p2] X.env := by rfl) (he2 : starEach (.Name xT p2 :: []) X.env = (false, eval (.Name xT p2) X.env) :: starEach [] X.env := by rfl) (hpl : (backTo pos (starEach [.Name xT p2] X.env)).any (·.1) = false := by rfl) :
    Ev X B (.Call (.Name "isinstance" p) [a, .Name xT p2] [] pos) S (.fr (.bl b)) S1 :=
  fun F α H σ Q R k => wE.of (pe_callB call_isi hg hm hv2 (pa_cons pe_w (pa_cons (pe_bltn (v := .ty T) hgT hmT hv rfl hn hd) pa_nil he2) he) (by decide) (by decide) he hpl) (ha F α H σ _ R fun F1 α1 v1 H1 R1 st1 r1 => by
    exact ⟨v1, .ty T, .type t, .type T, b, rfl, .ty T, R1.tyX r1 ht, kit_ty hk, k F1 α1 _ H1 R1 st1 (.bl _)⟩)
theorem ev_append {n : Nat} {o : Expr} {apos : Pos} (ho : Ev X B o S (.ad n) S) {ds0 : List D} (ha : Ev X B e S (.fr d) S1) (hn : getL n S1.L = some (.fl ds)) (hn0 : getL n S.L = some (.fl ds0)) (hz : ds.length < sizeLine) (h1 : Sub S.L S1.L := by exact Sub.refl)
    (hbase : attributeBase o "append" X.env (eval o X.env) = eval o X.env := by rfl)
    (hfew : ((backTo pos (starEach (e :: []) X.env)).all (fun x => !x.1) && (backToKw pos (keywordEach [] X.env)).all (fun x => x.1.isSome)
      && decide ((e :: ([] : List Expr)).length + ([] : List Keyword).length + (if ([] : List Keyword).isEmpty then 0 else 1) < 30)) = true := by rfl)
    (hline : (apos.endLine == pos.line) = true := by rfl) (hs : starEach (e :: []) X.env = (false, eval e X.env) :: starEach [] X.env := by rfl) (hplain : (backTo pos (starEach [] X.env)).any (·.1) = false := by rfl) :
    Ev X B (.Call (.Attribute o "append" apos) [e] [] pos) S (.fr .non) ⟨S1.ρ, setL n (.fl (ds ++ [d])) S1.L⟩ :=
  fun F α H σ Q R k => wE.of (pe_bm PySem.F.plainAttrs_list PySem.F.slot_list_append PySem.F.type_list_append mt_append pe_w (pa_cons pe_w pa_nil hs) hbase hfew hline hs hplain) (ho F α H σ _ R fun F1 α1 v1 H1 R1 st1 r1 => by
    obtain ⟨hm, rfl⟩ := r1
    refine ⟨?_, ha F1 α1 H1 σ _ R1 fun F2 α2 v2 H2 R2 st2 r2 => ?_⟩
    · -- it is a list already
      obtain ⟨_, _, vs, e1, rs⟩ := R1.live n _ (getL_mem hn0)
      exact .inl ⟨rfl, _, SqL.of e1⟩
    · have hmm := getL_mem hn
      obtain ⟨f0, f1, vs, e1, rs⟩ := R2.live n _ hmm
      have en : α2 n = α1 n := st2.nm n hm
      refine ⟨α1 n, vs, v2, rfl, rfl, by rw [← en]; exact e1, by rw [← rs.length]; exact hz, ?_⟩
      have Rp := R2.put (n := n) (u := .fl (ds ++ [d])) (o' := .lst (vs ++ [v2])) hmm ⟨vs ++ [v2], upd_same, rs.append (.cons r2 .nil)⟩
      rw [en] at Rp
      exact k F2 α2 .non _ Rp ((st1.trans st2 Sub.refl).trans Stp.refl h1) .non)
/-- what a def promises: of the arguments' cells, the live objects handed in, and what is wanted of the value and of what lives behind -/
abbrev SpN := List Ce → List (Nat × LO) → (Ce → List (Nat × LO) → Prop) → Prop
def bdOf (F H : Hp) (fp : Addr → Prop) (α : Nat → Addr) (L : List (Nat × LO)) : Bd := ⟨F, H, fp, fun n => if n < 100 then some (α n) else none, fun n h => by rw [if_neg (by omega)]⟩
def SpOf (K : Frag) (mg : Mg) (sp : SpN) : Sp := fun vs H Q _ => ∃ F α L cs fp, Rel K mg (bdOf F H fp α L) F α H (vs.map some) ⟨cs.map some, L⟩ ∧
  sp cs L fun c L' => ∀ F' α' v H' ρ' σ', Rel K mg (bdOf F H fp α L) F' α' H' σ' ⟨ρ', L'⟩ → CRel K mg F' α' L' c v → Q v H'
def retK (Kc : Ce → List (Nat × LO) → Prop) : Out → Prop
  | .ret c S => Kc c S.L
  | .nx S => Kc (.fr .non) S.L
  | _ => False
def startC (N : List Str) (cs : List Ce) : List (Option Ce) := cs.map some ++ List.replicate (N.length - cs.length) none
theorem slr_rep {K : Frag} {mg : Mg} {F : Hp} {α : Nat → Addr} {L : List (Nat × LO)} : ∀ n, SlR K mg F α L (List.replicate n none) (List.replicate n none)
  | 0 => .nil
  | n + 1 => .no (slr_rep n)
theorem SlR.append {K : Frag} {mg : Mg} {F : Hp} {α : Nat → Addr} {L : List (Nat × LO)} : ∀ {c c' : List (Option Ce)} {σ σ' : L2.St}, SlR K mg F α L c σ → SlR K mg F α L c' σ' → SlR K mg F α L (c ++ c') (σ ++ σ')
  | _, _, _, _, .nil, h => h
  | _, _, _, _, .no r, h => .no (r.append h)
  | _, _, _, _, .so q r, h => .so q (r.append h)
theorem SlR.length {K : Frag} {mg : Mg} {F : Hp} {α : Nat → Addr} {L : List (Nat × LO)} : ∀ {c : List (Option Ce)} {σ : L2.St}, SlR K mg F α L c σ → c.length = σ.length
  | _, _, .nil => rfl
  | _, _, .no r => congrArg (· + 1) r.length
  | _, _, .so _ r => congrArg (· + 1) r.length
theorem _root_.L2.Fun.okN {P : Program} {w : World} {K : Frag} {mg : Mg} {base : Heap} {x qual : Str} {st : Stmt} {f : Addr} {fd : FuncData} {N ps : List Str} {k : Nat} {sp : SpN} (F : Fun K x qual st f fd) (S : FnScope N ps (defScope st)) (len : ∀ cs L Kc, sp cs L Kc → cs.length = ps.length)
    (hbody : ∀ (cdv : Value) (A : Around) (outer : List Env) (s : Shared) (H : Hp) (E : XK) (B : Bd) (cs : List Ce) (L : List (Nat × LO)) (Kc : Ce → List (Nat × LO) → Prop), Room k (A.deeper (envOfC qual (defScope st) s.heap.objs.size f cdv)) → sp cs L Kc →
      Exs (cxOf CX0 P w K mg base N qual (defScope st) f cdv A outer s H E).nox B (defBody st) ⟨startC N cs, L⟩ (retK Kc)) : FnOk P w K mg base CX0 (k + 1) f fd ps (SpOf K mg sp) := by
  refine F.ok S (fun vs H Q E h => ?_) (fun cdv A outer s H vs Q E hr h => ?_)
  · obtain ⟨F', α, L, cs, fp, R, h⟩ := h
    have e1 := R.slots.length
    have e2 := len _ _ _ h
    simp only [List.length_map] at e1
    omega
  · obtain ⟨F', α, L, cs, fp, R, h⟩ := h
    have e1 : cs.length = vs.length := by have := R.slots.length; simpa using this
    refine ⟨_, pss_w, hbody cdv A outer s H E (bdOf F' H fp α L) cs L _ hr h F' α H _ _ (?_ : Rel _ _ _ _ _ _ _ _) ?_⟩
    · refine ⟨R.sub, R.bF, R.nF, R.frame, R.nd, R.inj, R.live, ?_, R.fix⟩
      show SlR _ _ _ _ _ (cs.map some ++ List.replicate (N.length - cs.length) none) (vs.map some ++ List.replicate (N.length - vs.length) none)
      rw [e1]
      exact R.slots.append (slr_rep _)
    · refine ⟨fun S' F1 α1 H1 σ1 k1 R1 s1 => k1 F1 α1 .non H1 S'.ρ σ1 R1 .non, fun S' F1 α1 H1 σ1 k1 R1 s1 => k1.elim, fun S' F1 α1 H1 σ1 k1 R1 s1 => k1.elim, fun c S' F1 α1 H1 σ1 v k1 R1 s1 r1 => k1 F1 α1 v H1 S'.ρ σ1 R1 r1⟩
theorem paired_slots {K : Frag} {mg : Mg} {F : Hp} {α : Nat → Addr} : ∀ {ds : List D} {vs : List V}, Reps K mg F ds vs → SlR K mg F α [] ((ds.map Ce.fr).map some) (vs.map some)
  | _, _, .nil => .nil
  | _, _, .cons h r => .so h (paired_slots r)
theorem Rel.call0 {K : Frag} {mg : Mg} {B : Bd} {F : Hp} {α : Nat → Addr} {H : Hp} {σ : L2.St} {S : Nz.S} {vs : List V} (R : Rel K mg B F α H σ S) (r : Reps K mg F ds vs) : Rel K mg (bdOf F H (fun _ => False) α []) F α H (vs.map some) ⟨(ds.map Ce.fr).map some, []⟩ :=
  ⟨R.sub, Same.refl _, fun b o e => .inl e, fun b o e _ => e, List.nodup_nil, fun n m h => absurd h (by simp [names]), fun n o h => absurd h (by simp), paired_slots r, fun n a h hn => absurd hn (by simp [names])⟩
/-- behind a call that was handed nothing that lives -/
theorem Rel.back0 {K : Frag} {mg : Mg} {B : Bd} {F F' : Hp} {α α' : Nat → Addr} {H H' : Hp} {σ σ' : L2.St} {S S' : Nz.S} (R : Rel K mg B F α H σ S) (R' : Rel K mg (bdOf F H (fun _ => False) α []) F' α' H' σ' S') : Rel K mg B F' α H' σ S :=
  R.grow R'.bF (fun b o e => R'.frame b o e fun z => z) R'.sub fun b u e => by
    rcases R'.nF b u e with z | z | z
    · exact .inl z
    · exact .inr z
    · exact z.elim
variable {CX : CXT} {f C : Addr} {fd : FuncData} {ps : List Str} {k : Nat} {sp : SpN} {dvs : List D}
/-- a value as the text has it, for a default -/
theorem ev_call {ds' : List D} {dvs : List V} {dfs : List Value} (F : FnOk X.prog X.w X.K X.mg X.base CX0 k f fd ps (SpOf X.K X.mg sp)) (hr : Room k X.A) (hm : X.mg x = some (.ref f)) (hk : PySem.W.keepIn X.K (.ref f) = true) (hb : Binds X.K fd ps dfs) (hd : Vals dvs dfs)
    (hdv : ∀ F', Reps X.K X.mg F' ds' dvs) (ha : Ea X B (e :: es) S (ds.map Ce.fr) S1) (hs : ∀ Kc : Ce → List (Nat × LO) → Prop, (∀ L', Kc (.fr d) L') → sp ((ds ++ ds').map Ce.fr) [] Kc) (hg : Gl X x) (h1 : Sub S.L S1.L := by exact Sub.refl) (hdb : (x == ("__debug__" : Str)) = false := by decide)
    (he : starEach (e :: es) X.env = (false, eval e X.env) :: starEach es X.env := by rfl) (hpl : (backTo pos (starEach es X.env)).any (·.1) = false := by rfl) : Ev X B (.Call (.Name x p) (e :: es) [] pos) S (.fr d) S1 :=
  fun F0 α H σ Q R k => wE.of (pe_call F hr hg hm hk hb hd pass0 pa_w hdb he hpl) (ha F0 α H σ _ R fun F1 α1 vs H1 R1 st1 r1 => by
    have r := Reps.append r1.fr (hdv F1)
    exact ⟨F1, α1, [], _, fun _ => False, R1.call0 r, hs _ fun L' F' α' v H' ρ' σ' R' r' => k F' α1 v H' (R1.back0 R') (st1.trans ⟨R'.bF, fun _ _ => rfl⟩ h1) r'⟩)
/-- c' forgets some of c -/
def Fg : List (Option Ce) → List (Option Ce) → Prop
  | [], [] => True
  | a :: as, b :: bs => (b = none ∨ b = a) ∧ Fg as bs
  | _, _ => False
theorem SlR.fg {K : Frag} {mg : Mg} {F : Hp} {α : Nat → Addr} {L : List (Nat × LO)} : ∀ {c c' : List (Option Ce)} {σ : L2.St}, Fg c c' → SlR K mg F α L c σ → SlR K mg F α L c' σ
  | _, [], _, h, .nil => .nil
  | _, b :: bs, _, h, .no r => by
    obtain ⟨h1 | h1, h2⟩ := h
    · subst h1; exact .no (SlR.fg h2 r)
    · subst h1; exact .no (SlR.fg h2 r)
  | _, b :: bs, _, h, .so q r => by
    obtain ⟨h1 | h1, h2⟩ := h
    · subst h1; exact .no (SlR.fg h2 r)
    · subst h1; exact .so q (SlR.fg h2 r)
  | _, [], _, h, .no r => False.elim h
  | _, [], _, h, .so q r => False.elim h
  | _, _ :: _, _, h, .nil => False.elim h
theorem exs_freeze {sts : List Stmt} {K : Out → Prop} (n : Nat) (hn : getL n S.L = some (.fl ds)) (h : Exs X B sts (frS n (.lst ds) S) K) : Exs X B sts S K := fun F α H σ D R o => by
  obtain ⟨F', R', st, _⟩ := R.freeze hn
  exact h F' α H σ D R' (o.mono st.fro)
theorem ev_freeze (n : Nat) {c : Ce} (he : Ev X B e S c S1) (hn : getL n S1.L = some (.fl ds)) : Ev X B e S (frC n (.lst ds) c) (frS n (.lst ds) S1) := fun F α H σ Q R k => he F α H σ Q R fun F1 α1 v H1 R1 st1 r1 => by
  obtain ⟨F', R', st, _, hc⟩ := R1.freeze hn
  exact k F' α1 v H1 R' ⟨st1.fro.trans st.fro, st1.nm⟩ (hc c v r1)
end
end Nz
namespace Nz
open PySem PySem.Spec PyProof.Rows L2
section
variable {X : Cx} {B : Bd} {S S1 S2 S3 : Nz.S} {a b c e : Expr} {es : List Expr} {pos p q p2 : Pos} {x : Str} {ds : List D} {d d1 d2 : D}
theorem o_cat {xs ys : List D} (hz : xs.length + ys.length ≤ sizeLine) : Op2 X (binaryOp .Add) (.lst xs) (.lst ys) (.lst (xs ++ ys)) :=
  fun B F α H σ S Q x y R rx ry k pins s v u I rv ru => by
    obtain ⟨l1, vs, rfl, hq, rs⟩ := R.asL (c := .fr (.lst xs)) rfl rx
    obtain ⟨l2, us, rfl, hq2, rs2⟩ := R.asL (c := .fr (.lst ys)) rfl ry
    cases rv
    cases ru
    obtain ⟨its, r, ⟨⟨cl, od, dt, sl⟩, n, e1, c1, o1, t1⟩, z1⟩ := I.list hq
    obtain ⟨its2, r2, ⟨⟨cl2, od2, dt2, sl2⟩, n2, e2, c2, o2, t2⟩, z2⟩ := I.list hq2
    simp only at c1 o1 t1 c2 o2 t2
    subst c1 o1 t1 c2 o2 t2
    have hlen := r.length
    have hlen2 := r2.length
    have h1 := rs.length
    have h2 := rs2.length
    have ee : its.toArray ++ its2.toArray = (its ++ its2).toArray := by simp
    refine concat_meets ⟨_, e1, rfl⟩ ⟨_, e2, rfl⟩ noFill_list_add seq_list_add PySem.F.slot_list_add PySem.F.entry_list_add (PySem.F.args_list_add_2 _ _) (list_addW l1 l2 its.toArray its2.toArray n n2 none none sl sl2 (by simp only [List.size_toArray]; omega)) ⟨e1, e2, ?_⟩
    rw [ee]
    have hf := R.fresh I.fresh
    refine ⟨.ref _, _, I.lnew (t' := s.toks) (r.append r2) (by rw [List.length_append]; omega), rfl, k _ α _ _ (R.allocF I.fresh) (stp_allocF hf) (.lst (SqL.of upd_same) ((rs.append rs2).mono (same_upd hf)))⟩
def Eo (X : Cx) (B : Bd) (e : Option Expr) (S : Nz.S) (o : Option Int) : Prop :=
  ∀ F α H σ (Q : Option Int → Hp → Prop), RelX X B F α H σ S → (∀ F' α' H', RelX X B F' α' H' σ S → Stp F α S.L F' α' → Q o H') →
    ∀ pins s, Inv X pins σ H s → wpAny (model X.prog X.w) X.A (evalPart e X.env) (fun u s' => ∃ o H', Inv X pins σ H' s' ∧ IsPart u o ∧ Q o H') X.xe s
theorem eo_none : Eo X B none S none := fun F α H σ Q R k pins s I => po_none.run pins s σ H Q I (k F α H R Stp.refl)
theorem eo_some {i : Int} (h : Ev X B e S (.fr (.int i)) S) : Eo X B (some e) S (some i) := fun F α H σ Q R k pins s I => (po_some pe_w).run pins s σ H Q I (h F α H σ _ R fun F' α' v H' R' st r => by cases r; exact ⟨i, rfl, k F' α' H' R' st⟩)
def tO (X : Cx) (e : Option Expr) : TO := fun σ H Q => ∀ pins s, Inv X pins σ H s → wpAny (model X.prog X.w) X.A (evalPart e X.env) (fun u s' => ∃ o H', Inv X pins σ H' s' ∧ IsPart u o ∧ Q o H') X.xe s
theorem po_w {e : Option Expr} : PO X e (tO X e) := ⟨fun pins s σ H Q I h => h pins s I⟩
def slcD {τ : Type} (xs : List τ) (lo hi : Option Int) : List τ := (xs.drop (HT.sIx xs.length 0 lo)).take (HT.sIx xs.length xs.length hi - HT.sIx xs.length 0 lo)
theorem slcD_map {τ μ : Type} (f : τ → μ) (xs : List τ) (lo hi : Option Int) : slcD (xs.map f) lo hi = (slcD xs lo hi).map f := by
  unfold slcD
  rw [List.length_map, List.map_take, List.map_drop]
theorem ev_sliceL {ca : Ce} {lo hi : Option Expr} {ol oh : Option Int} (ha : Ev X B a S ca S1) (h1 : Eo X B lo S1 ol) (h2 : Eo X B hi S1 oh) (hl : AsL S1.L ca ds) (hS : Sub S.L S1.L := by exact Sub.refl) : Ev X B (.Subscript a (.Slice lo hi none p2) pos) S (.fr (.lst (slcD ds ol oh))) S1 :=
  fun F α H σ Q R k => wE.of (pe_slice sl_list pe_w po_w po_w) (ha F α H σ _ R fun F1 α1 v1 H1 R1 st1 r1 => h1 F1 α1 H1 σ _ R1 fun F2 α2 H2 R2 st2 => h2 F2 α2 H2 σ _ R2 fun F3 α3 H3 R3 st3 => by
    obtain ⟨pa, vs, rfl, hq, rs⟩ := R3.asL hl (r1.step (st2.trans st3 Sub.refl) Sub.refl)
    refine ⟨pa, vs, rfl, hq, fun l hl' => k _ α3 _ _ (R3.allocF hl') ⟨((st1.trans st2 hS).trans st3 hS).fro.trans (same_upd (R3.fresh hl')), ((st1.trans st2 hS).trans st3 hS).nm⟩ (.lst (SqL.of upd_same) (Reps.mono (same_upd (R3.fresh hl')) ?_))⟩
    unfold slcD cutV
    rw [rs.length]
    exact (rs.drop _).take _)
end
theorem at_map {τ : Type} [Inhabited τ] {enc : τ → D} {xs : List τ} {i : Int} (h0 : 0 ≤ i) (h1 : i < xs.length) : atI (xs.map enc) i = some (enc (xs.getD i.toNat default)) := by
  unfold atI ixN
  rw [if_pos h0, if_pos (by rw [List.length_map]; exact h1)]
  show (xs.map enc)[i.toNat]? = _
  rw [List.getElem?_map]
  have h2 : i.toNat < xs.length := by omega
  rw [List.getElem?_eq_getElem h2, List.getD_eq_getElem?_getD, List.getElem?_eq_getElem h2]
  rfl
end Nz
namespace Nz
open PySem PySem.Spec PyProof.Rows L2
end Nz
namespace Nz
open PySem PySem.Spec PyProof.Rows L2
def Le (S S' : Nz.S) : Prop := Fg S.ρ S'.ρ ∧ S'.L = S.L
theorem fg_refl : ∀ ρ : List (Option Ce), Fg ρ ρ
  | [] => trivial
  | _ :: r => ⟨.inr rfl, fg_refl r⟩
theorem Le.refl {S : Nz.S} : Le S S := ⟨fg_refl _, rfl⟩
theorem Le.of {S S' : Nz.S} (h : S = S') : Le S S' := h ▸ Le.refl
theorem Rel.le {K : Frag} {mg : Mg} {B : Bd} {F : Hp} {α : Nat → Addr} {H : Hp} {σ : L2.St} {S S' : Nz.S} (R : Rel K mg B F α H σ S) (h : Le S S') : Rel K mg B F α H σ S' := by
  obtain ⟨ρ', L'⟩ := S'
  obtain ⟨h1, h2⟩ := h
  have h2 : L' = S.L := h2
  subst h2
  exact ⟨R.sub, R.bF, R.nF, R.frame, R.nd, R.inj, R.live, R.slots.fg h1, R.fix⟩
def loopS (st : Nat → Nz.S) (P : Nat → Prop) (K : Out → Prop) (i : Nat) : Out → Prop
  | .nx S => Le S (st (i + 1)) ∧ P (i + 1)
  | .ct S => Le S (st (i + 1)) ∧ P (i + 1)
  | .bk S => K (.nx S)
  | .ret c S => K (.ret c S)
section
variable {X : Cx} {B : Bd} {S S1 S2 S3 : Nz.S} {tg a b c e : Expr} {es : List Expr} {pos p q p2 : Pos} {K : Out → Prop} {body : List Stmt}
theorem ex_forT {τ : Type} {ys : List τ} {enc : τ → D} (hp : PassesOwn (model X.prog X.w) X.A X.env X.xe) (hc : X.calm = true) (st : Nat → Nz.S) (P : Nat → Prop) (hsrc : Src X B tg e S (ys.map enc) S1) (h0 : Le S1 (st 0)) (p0 : P 0)
    (hs : ∀ i y, ys[i]? = some y → P i → ∃ S2, Eg X B tg (.fr (enc y)) (st i) S2 ∧ Exs X B body S2 (loopS st P K i)) (hd : P ys.length → K (.nx (st ys.length))) (hf : ∀ x, foldedSetIterable e X.env x = pure x := by intro _; rfl) : Ex X B (.For tg e body [] pos) S K :=
  fun F α H σ D R o => wS.of (ps_for hp hc pi_w pg_w pss_w hf) (hsrc F α H σ _ R fun F1 α1 H1 J R1 st1 j => by
    have o1 := o.mono st1.fro
    refine ⟨fun i m σ' H' => m = ys.length - i ∧ i ≤ ys.length ∧ ∃ F' α', RelX X B F' α' H' σ' (st i) ∧ Same F1 F' ∧ P i, ⟨ys.length, by simp, Nat.zero_le _, F1, α1, R1.le h0, Same.refl _, p0⟩, ?_⟩
    rintro i m σ' H' ⟨rfl, hi, F', α', R', sm, q⟩
    by_cases hlt : i < ys.length
    · have e1 : ys[i]? = some ys[i] := by simp [hlt]
      obtain ⟨g, y⟩ := j.go B F' α' H' σ' (st i) i (enc ys[i]) R' sm (by rw [List.getElem?_map, e1]; rfl)
      obtain ⟨S2, hg, hb⟩ := hs i _ e1 q
      refine .inr ⟨g, fun σ2 H2 => ∃ F2 α2, RelX X B F2 α2 H2 σ2 (st (i + 1)) ∧ Same F1 F2 ∧ P (i + 1), fun σ2 H2 ⟨F2, α2, R2, s2, q2⟩ => ⟨ys.length - (i + 1), by omega, rfl, hlt, F2, α2, R2, s2, q2⟩, fun x H2 yy => ?_⟩
      obtain ⟨F2, R2, s2, r2⟩ := y x H2 yy
      refine hg F2 α' H2 σ' x _ R2 r2 fun σ3 F3 H3 R3 s3 => hb F3 α' H3 σ3 _ R3 ?_
      have sall : Same F1 F3 := sm.trans (s2.trans s3)
      refine ⟨fun S4 F4 α4 H4 σ4 k4 R4 s4 => ⟨F4, α4, R4.le k4.1, sall.trans s4, k4.2⟩, fun S4 F4 α4 H4 σ4 k4 R4 s4 => o1.nx S4 F4 α4 H4 σ4 k4 R4 (sall.trans s4), fun S4 F4 α4 H4 σ4 k4 R4 s4 => ⟨F4, α4, R4.le k4.1, sall.trans s4, k4.2⟩,
        fun c S4 F4 α4 H4 σ4 v k4 R4 s4 r4 => o1.ret c S4 F4 α4 H4 σ4 v k4 R4 (sall.trans s4) r4⟩
    · have e1 : i = ys.length := by omega
      subst e1
      exact .inl ⟨j.stop B F' α' H' σ' _ _ R' sm (by rw [List.length_map]; exact Nat.le_refl _), o1.nx _ F' α' H' σ' (hd q) R' sm⟩)
inductive Ix (L : List (Nat × LO)) : Ce → Int → D → Prop
  | l {c : Ce} {ds : List D} {i : Int} {d : D} (h : AsL L c ds) (h2 : atI ds i = some d) : Ix L c i d
  | t {ds : List D} {i : Int} {d : D} (h2 : atI ds i = some d) : Ix L (.fr (.tup ds)) i d
theorem ev_ix {ca : Ce} {i : Int} {d : D} (hx : Ix S2.L ca i d) (ha : Ev X B a S ca S1) (hb : Ev X B b S1 (.fr (.int i)) S2) (hs : PlainIx b := by exact fun _ _ => rfl) (h1 : Sub S.L S1.L := by exact Sub.refl) (h2 : Sub S1.L S2.L := by exact Sub.refl) :
    Ev X B (.Subscript a b pos) S (.fr d) S2 := by
  cases hx with
  | l h h2' => exact ev_ixL ha hb h h2' hs h1 h2
  | t h2' => exact ev_ixT ha hb h2' hs h1 h2
inductive Ln (L : List (Nat × LO)) : Ce → Nat → Prop
  | l {c : Ce} {ds : List D} (h : AsL L c ds) : Ln L c ds.length
  | t {ds : List D} : Ln L (.fr (.tup ds)) ds.length
  | s {z : Str} (h : z.length ≤ sizeLine) : Ln L (.fr (.str z)) z.length
theorem ev_len {ca : Ce} {n : Nat} (hx : Ln S1.L ca n) (ha : Ev X B e S ca S1) (hg : Gl X "len") (hm : X.mg "len" = none) (h1 : Sub S.L S1.L := by exact Sub.refl) (hs : starEach [e] X.env = (false, eval e X.env) :: starEach [] X.env := by rfl) (hpl : (backTo pos (starEach [] X.env)).any (·.1) = false := by rfl) :
    Ev X B (.Call (.Name "len" p) [e] [] pos) S (.fr (.int n)) S1 := by
  cases hx with
  | l h => exact ev_lenL ha h hg hm hs hpl
  | t => exact ev_callB c_lenT (ea_cons ha ea_nil h1 Sub.refl hs) hg hm PySem.boot_len h1 (by decide) (by decide) hs hpl
  | s h => exact ev_callB (c_lenS h) (ea_cons ha ea_nil h1 Sub.refl hs) hg hm PySem.boot_len h1 (by decide) (by decide) hs hpl
end
theorem seq_range {n i y : Nat} (h : (List.range n)[i]? = some y) : i < n ∧ y = i := by
  by_cases hi : i < n
  · rw [List.getElem?_range hi] at h; exact ⟨hi, (Option.some.inj h).symm⟩
  · rw [List.getElem?_eq_none (by simpa using hi)] at h; cases h
theorem take_snoc {τ : Type} {ys : List τ} {i : Nat} {y : τ} (h : ys[i]? = some y) : ys.take (i + 1) = ys.take i ++ [y] := by rw [List.take_succ, h]; rfl
theorem foldl_snoc {τ β : Type} {ys : List τ} {i : Nat} {y : τ} (f : β → τ → β) (b : β) (h : ys[i]? = some y) : (ys.take (i + 1)).foldl f b = f ((ys.take i).foldl f b) y := by rw [take_snoc h, List.foldl_append]; rfl
end Nz
namespace Nz
open PySem PySem.Spec PyProof.Rows L2
abbrev eL {τ : Type} (e : τ → D) (xs : List τ) : D := .lst (xs.map e)
abbrev eU {τ : Type} (e : τ → D) (xs : List τ) : D := .tup (xs.map e)
abbrev eT2 {τ μ : Type} (e : τ → D) (f : μ → D) (p : τ × μ) : D := .tup [e p.1, f p.2]
abbrev eT3 {τ μ ν : Type} (e : τ → D) (f : μ → D) (g : ν → D) (p : τ × μ × ν) : D := .tup [e p.1, f p.2.1, g p.2.2]
abbrev eO {τ : Type} (e : τ → D) : Option τ → D
  | none => .non
  | some x => e x
section
variable {X : Cx} {B : Bd} {S S1 S2 S3 : Nz.S} {tg a b c e : Expr} {es : List Expr} {pos p q p2 : Pos} {K : Out → Prop} {τ : Type} {enc : τ → D}
theorem o_catT {xs ys : List τ} (hz : xs.length + ys.length ≤ sizeLine) : Op2 X (binaryOp .Add) (eL enc xs) (eL enc ys) (eL enc (xs ++ ys)) := by
  have h := o_cat (X := X) (xs := xs.map enc) (ys := ys.map enc) (by simpa using hz)
  rwa [← List.map_append] at h
theorem ix_L [Inhabited τ] {L : List (Nat × LO)} {xs : List τ} {c : Ce} {i : Int} (h : AsL L c (xs.map enc)) (h0 : 0 ≤ i) (h1 : i < xs.length) : Ix L c i (enc (xs.getD i.toNat default)) := .l h (at_map h0 h1)
theorem ix_U [Inhabited τ] {L : List (Nat × LO)} {xs : List τ} {i : Int} (h0 : 0 ≤ i) (h1 : i < xs.length) : Ix L (.fr (eU enc xs)) i (enc (xs.getD i.toNat default)) := .t (at_map h0 h1)
theorem ln_L {L : List (Nat × LO)} {xs : List τ} {c : Ce} (h : AsL L c (xs.map enc)) : Ln L c xs.length := by
  have := Ln.l h
  rwa [List.length_map] at this
theorem ev_sliceT {ca : Ce} {xs : List τ} {lo hi : Option Expr} {ol oh : Option Int} (hl : AsL S1.L ca (xs.map enc)) (ha : Ev X B a S ca S1) (h1 : Eo X B lo S1 ol) (h2 : Eo X B hi S1 oh) (hS : Sub S.L S1.L := by exact Sub.refl) : Ev X B (.Subscript a (.Slice lo hi none p2) pos) S (.fr (eL enc (slcD xs ol oh))) S1 := by
  have := ev_sliceL (pos := pos) (p2 := p2) ha h1 h2 hl hS
  rwa [slcD_map] at this
/-- [..] that lives, by its data -/
theorem ev_lstN (n : Nat) (xs : List τ) {ds : List D} (h : Ea X B es S (ds.map Ce.fr) S1) (hd : ds = xs.map enc) (hz : xs.length ≤ sizeLine) (hn : n ∉ names S1.L) (h100 : 100 ≤ n) (h1 : Sub S.L S1.L := by exact Sub.refl) : Ev X B (.List es pos) S (.ad n) ⟨S1.ρ, S1.L ++ [(n, .fl (xs.map enc))]⟩ := by
  subst hd
  exact ev_lstL n h (by rw [List.length_map]; exact hz) hn h100 h1
theorem ev_appendT {n : Nat} {o : Expr} {apos : Pos} {xs xs0 : List τ} (x : τ) {d : D} (hd : d = enc x) (hn : getL n S1.L = some (.fl (xs.map enc))) (hn0 : getL n S.L = some (.fl (xs0.map enc))) (hz : xs.length < sizeLine) (ho : Ev X B o S (.ad n) S) (ha : Ev X B e S (.fr d) S1) (h1 : Sub S.L S1.L := by exact Sub.refl)
    (hbase : attributeBase o "append" X.env (eval o X.env) = eval o X.env := by rfl)
    (hfew : ((backTo pos (starEach (e :: []) X.env)).all (fun x => !x.1) && (backToKw pos (keywordEach [] X.env)).all (fun x => x.1.isSome)
      && decide ((e :: ([] : List Expr)).length + ([] : List Keyword).length + (if ([] : List Keyword).isEmpty then 0 else 1) < 30)) = true := by rfl)
    (hline : (apos.endLine == pos.line) = true := by rfl) (hs : starEach (e :: []) X.env = (false, eval e X.env) :: starEach [] X.env := by rfl) (hplain : (backTo pos (starEach [] X.env)).any (·.1) = false := by rfl) :
    Ev X B (.Call (.Attribute o "append" apos) [e] [] pos) S (.fr .non) ⟨S1.ρ, setL n (.fl ((xs ++ [x]).map enc)) S1.L⟩ := by
  subst hd
  have := ev_append (pos := pos) (apos := apos) ho ha hn hn0 (by rw [List.length_map]; exact hz) h1 hbase hfew hline hs hplain
  rwa [show xs.map enc ++ [enc x] = (xs ++ [x]).map enc by simp] at this
theorem c_listL {xs : List τ} : Cb X (.type "list") [eL enc xs] (eL enc xs) := c_list
theorem c_sumL {ns : List Int} (hc : X.calm = true) : Cb X (.builtin "sum") [eL D.int ns] (.int ns.sum) := c_sum hc
theorem src_listT {xs : List τ} (h : Ev X B e S (.fr (eL enc xs)) S1) : Src X B tg e S (xs.map enc) S1 := src_list h
theorem src_tupT {xs : List τ} (h : Ev X B e S (.fr (eU enc xs)) S1) : Src X B tg e S (xs.map enc) S1 := src_tup h
theorem exs_freezeT {sts : List Stmt} (n : Nat) {xs : List τ} (hn : getL n S.L = some (.fl (xs.map enc))) (h : Exs X B sts (frS n (eL enc xs) S) K) : Exs X B sts S K := exs_freeze n hn h
end
theorem PassesOwn.nox {P : Program} {w : World} {A : Around} {env : Env} : PassesOwn (model P w) A env (fun _ _ => False) := PassesOwn.never
end Nz
namespace Nz
open PySem PySem.Spec PyProof.Rows L2
theorem lm_map {τ μ : Type} (ys : List τ) (g : τ → μ) (enc2 : μ → D) : ((ys.filter fun _ => true).map fun y => enc2 (g y)) = (ys.map g).map enc2 := by
  rw [List.filter_eq_self.mpr (fun _ _ => rfl), List.map_map]; rfl
theorem lm_filt {τ μ : Type} (ys : List τ) (p : τ → Bool) (g : τ → μ) (enc2 : μ → D) : ((ys.filter p).map fun y => enc2 (g y)) = ((ys.filter p).map g).map enc2 := by
  rw [List.map_map]; rfl
theorem bd_d {p : Prop} [Decidable p] : decide p = true ↔ p := decide_eq_true_iff
theorem bd_and {a b : Bool} {p q : Prop} (h1 : a = true ↔ p) (h2 : b = true ↔ q) : (a && b) = true ↔ (p ∧ q) := by rw [Bool.and_eq_true, h1, h2]
theorem bd_or {a b : Bool} {p q : Prop} (h1 : a = true ↔ p) (h2 : b = true ↔ q) : (a || b) = true ↔ (p ∨ q) := by rw [Bool.or_eq_true, h1, h2]
theorem bd_not {a : Bool} {p : Prop} (h1 : a = true ↔ p) : (!a) = true ↔ ¬ p := by rw [← h1]; cases a <;> simp
theorem bd_n {p : Prop} [Decidable p] : (!decide p) = true ↔ ¬ p := bd_not bd_d
section
variable {X : Cx} {B : Bd} {S S1 S2 S3 : Nz.S} {tg a b c e : Expr} {es : List Expr} {pos p q p2 : Pos} {K : Out → Prop} {body els : List Stmt}
theorem ex_ifP {i : Bool} {P : Prop} (h : i = true ↔ P) (ht : Et X B e S i S1) (ha : P → Exs X B body S1 K) (hb : ¬ P → Exs X B els S1 K) : Ex X B (.If e body els pos) S K :=
  ex_if ht (fun z => ha (h.mp z)) fun z => hb fun w => by rw [h.mpr w] at z; cases z
theorem ev_ifP {t : Expr} {i : Bool} {P : Prop} [Decidable P] {τ : Type} {enc : τ → D} {x y : τ} (h : i = true ↔ P) (ht : Et X B t S i S) (ha : P → Ev X B a S (.fr (enc x)) S) (hb : ¬ P → Ev X B b S (.fr (enc y)) S) : Ev X B (.IfExp t a b pos) S (.fr (enc (if P then x else y))) S := by
  have := ev_if (pos := pos) ht (fun z => ha (h.mp z)) (fun z => hb fun w => by rw [h.mpr w] at z; cases z)
  by_cases hp : P
  · rw [if_pos (h.mpr hp)] at this; rw [if_pos hp]; exact this
  · rw [if_neg (fun z => hp (h.mp z))] at this; rw [if_neg hp]; exact this
theorem ev_andP {i j : Bool} {P : Prop} (h : i = true ↔ P) (ha : Ev X B a S (.fr (.bl i)) S) (hb : P → Ev X B (.BoolOp .And (b :: es) pos) S (.fr (.bl j)) S) : Ev X B (.BoolOp .And (a :: b :: es) pos) S (.fr (.bl (i && j))) S := ev_and ha fun z => hb (h.mp z)
theorem ew_andP {i j : Bool} {P : Prop} (h : i = true ↔ P) (ha : Et X B a S i S) (hb : P → Ew X B (.BoolOp .And (b :: es) pos) S j) : Ew X B (.BoolOp .And (a :: b :: es) pos) S (i && j) := ew_and ha fun z => hb (h.mp z)
theorem ew_orP {i j : Bool} {P : Prop} (h : i = true ↔ P) (ha : Et X B a S i S) (hb : ¬ P → Ew X B (.BoolOp .Or (b :: es) pos) S j) : Ew X B (.BoolOp .Or (a :: b :: es) pos) S (i || j) := ew_or ha fun z => hb fun w => by rw [h.mpr w] at z; cases z
/-- a op b op' c -/
theorem ev_chain {op op' : CmpOp} {d1 d2 d3 : D} {i j : Bool} {P : Prop} (h : i = true ↔ P) (ho : Op2 X (compareOp op) d1 d2 (.bl i)) (ho' : Op2 X (compareOp op') d2 d3 (.bl j)) (ha : Ev X B a S (.fr d1) S) (hb : Ev X B b S (.fr d2) S) (hc : P → Ev X B c S (.fr d3) S)
    (hm : lastMarks [op, op'] [b, c] = false := by with_unfolding_all rfl) : Ev X B (.Compare a [op, op'] [b, c] pos) S (.fr (.bl (i && j))) S := fun F α H σ Q R k => by
  intro pins s I
  refine Compare_chain (thn (ha F α H σ _ R (fun F1 α1 v1 H1 R1 st1 r1 => hb F1 α1 H1 σ (fun v2 H2 => ∃ F2 α2, RelX X B F2 α2 H2 σ S ∧ Stp F α S.L F2 α2 ∧ Rep X.K X.mg F2 d1 v1 ∧ Rep X.K X.mg F2 d2 v2) R1 fun F2 α2 v2 H2 R2 st2 r2 => ⟨F2, α2, R2, st1.trans st2 Sub.refl, Rep.mono st2.fro r1, r2⟩) pins s I)
    fun v s1 ⟨x, H1, I1, rv, q1⟩ => chain_link (thn (q1 pins s1 I1) fun u s2 ⟨y, H2, I2, ru, F2, α2, R2, st, r1, r2⟩ =>
    thn (ho B F2 α2 H2 σ S (fun v' H' => ∃ F3 α3, v' = .bl i ∧ RelX X B F3 α3 H' σ S ∧ Stp F2 α2 S.L F3 α3) x y R2 r1 r2 (fun F3 α3 v' H3 R3 st3 r3 => by cases r3; exact ⟨F3, α3, rfl, R3, st3⟩) pins s2 v u I2 rv ru) fun d s3 ⟨z, H3, I3, r3, F3, α3, e, R3, st3⟩ => ?_)) hm
  subst e
  cases r3
  refine wpAny_truthy_bool ?_
  have stA : Stp F α S.L F3 α3 := st.trans st3 Sub.refl
  cases i with
  | false => exact ite_ff ⟨.bl false, H3, I3, rfl, k F3 α3 (.bl false) H3 R3 stA (show Rep X.K X.mg F3 (.bl (false && j)) (.bl false) from .bl false)⟩
  | true =>
    refine ite_tt (chain_last (thn (hc (h.mp rfl) F3 α3 H3 σ (fun v3 H4 => ∃ F4 α4, RelX X B F4 α4 H4 σ S ∧ Stp F α S.L F4 α4 ∧ Rep X.K X.mg F4 d2 y ∧ Rep X.K X.mg F4 d3 v3) R3 (fun F4 α4 v4 H4 R4 st4 r4 => ⟨F4, α4, R4, stA.trans st4 Sub.refl, Rep.mono (st3.fro.trans st4.fro) r2, r4⟩) pins s3 I3)
      fun w' s4 ⟨z', H4, I4, r4, F4, α4, R4, st4, q2, q3⟩ => ?_))
    exact ho' B F4 α4 H4 σ S Q y z' R4 q2 q3 (fun F5 α5 v5 H5 R5 st5 r5 => k F5 α5 v5 H5 R5 (st4.trans st5 Sub.refl) (show Rep X.K X.mg F5 (.bl (true && j)) v5 from r5)) pins s4 u w' I4 ru r4
/-- .. as a test -/
theorem et_chain {op op' : CmpOp} {d1 d2 d3 : D} {i j : Bool} {P : Prop} (h : i = true ↔ P) (ho : Op2 X (compareOp op) d1 d2 (.bl i)) (ho' : Op2 X (compareOp op') d2 d3 (.bl j)) (ha : Ev X B a S (.fr d1) S) (hb : Ev X B b S (.fr d2) S) (hc : P → Ev X B c S (.fr d3) S)
    (hm : lastMarks [op, op'] [b, c] = false := by with_unfolding_all rfl) : Et X B (.Compare a [op, op'] [b, c] pos) S (i && j) S := fun F α H σ Q R k => by
  intro pins s I
  refine isTrue_chain (thn (ha F α H σ _ R (fun F1 α1 v1 H1 R1 st1 r1 => hb F1 α1 H1 σ (fun v2 H2 => ∃ F2 α2, RelX X B F2 α2 H2 σ S ∧ Stp F α S.L F2 α2 ∧ Rep X.K X.mg F2 d1 v1 ∧ Rep X.K X.mg F2 d2 v2) R1 fun F2 α2 v2 H2 R2 st2 r2 => ⟨F2, α2, R2, st1.trans st2 Sub.refl, Rep.mono st2.fro r1, r2⟩) pins s I)
    fun v s1 ⟨x, H1, I1, rv, q1⟩ => test_link (thn (q1 pins s1 I1) fun u s2 ⟨y, H2, I2, ru, F2, α2, R2, st, r1, r2⟩ =>
    thn (ho B F2 α2 H2 σ S (fun v' H' => ∃ F3 α3, v' = .bl i ∧ RelX X B F3 α3 H' σ S ∧ Stp F2 α2 S.L F3 α3) x y R2 r1 r2 (fun F3 α3 v' H3 R3 st3 r3 => by cases r3; exact ⟨F3, α3, rfl, R3, st3⟩) pins s2 v u I2 rv ru) fun d s3 ⟨z, H3, I3, r3, F3, α3, e, R3, st3⟩ => ?_)) hm
  subst e
  cases r3
  refine wpAny_truthy_bool ?_
  have stA : Stp F α S.L F3 α3 := st.trans st3 Sub.refl
  cases i with
  | false => exact ite_ff ⟨H3, I3, by simpa using k F3 α3 H3 R3 stA⟩
  | true =>
    refine ite_tt (test_last (thn (hc (h.mp rfl) F3 α3 H3 σ (fun v3 H4 => ∃ F4 α4, RelX X B F4 α4 H4 σ S ∧ Stp F α S.L F4 α4 ∧ Rep X.K X.mg F4 d2 y ∧ Rep X.K X.mg F4 d3 v3) R3 (fun F4 α4 v4 H4 R4 st4 r4 => ⟨F4, α4, R4, stA.trans st4 Sub.refl, Rep.mono (st3.fro.trans st4.fro) r2, r4⟩) pins s3 I3)
      fun w' s4 ⟨z', H4, I4, r4, F4, α4, R4, st4, q2, q3⟩ => thn (ho' B F4 α4 H4 σ S (fun v' H' => v' = .bl j ∧ ∃ F5 α5, RelX X B F5 α5 H' σ S ∧ Stp F4 α4 S.L F5 α5) y z' R4 q2 q3 (fun F5 α5 v5 H5 R5 st5 r5 => by cases r5; exact ⟨rfl, F5, α5, R5, st5⟩) pins s4 u w' I4 ru r4) fun d' s5 ⟨z2, H5, I5, r5, e2, F5, α5, R5, st5⟩ => ?_))
    subst e2
    cases r5
    exact wpAny_truthy_bool ⟨H5, I5, by simpa using k F5 α5 H5 R5 (st4.trans st5 Sub.refl)⟩
variable {elt iter : Expr} {ifs : List Expr} {scope : Scope} {own : List (Str × Nat)} {τ μ : Type} {ys : List τ} {enc : τ → D} {enc2 : μ → D}
/-- [g y for y in ys], typed -/
theorem ev_lcM (nD : Nat) (g : τ → μ) (Sx : Nat → τ → List D → Nz.S) (hc : X.calm = true) (hN : X.N.Nodup) (ok : BlkOk X.N X.env.scope scope own)
    (hsrc : Src X B tg iter S (ys.map enc) S1) (hn : nD ∉ names S1.L) (h100 : 100 ≤ nD) (hz : ys.length ≤ sizeLine)
    (hg : ∀ i y acc, ys[i]? = some y → ∀ s H0 C cl fp, EgC (Blk X scope s H0 C cl fp) B tg (.fr (enc y)) ⟨wipeC S1.ρ (own.map (·.2)), S1.L ++ [(nD, .fl acc)]⟩ (Sx i y acc) (own.map (·.2)))
    (he : ∀ i y acc, ys[i]? = some y → ∀ s H0 C cl fp, Ev (Blk X scope s H0 C cl fp) B elt (Sx i y acc) (.fr (enc2 (g y))) (Sx i y acc)) (hL : ∀ i y acc, (Sx i y acc).L = S1.L ++ [(nD, .fl acc)] := by exact fun _ _ _ => rfl) (hS : Sub S.L S1.L := by exact Sub.refl) (hs : ∀ x, foldedSetIterable iter X.env x = pure x := by intro _; rfl) :
    Ev X B (.ListComp elt [⟨tg, iter, [], 0⟩] scope pos) S (.fr (eL enc2 (ys.map g))) S1 := by
  have := ev_lc (pos := pos) nD ys enc (fun y => enc2 (g y)) (fun _ => true) Sx hc hN ok hsrc hn h100 hz hL hg (fun _ _ _ _ _ _ _ _ _ => ets_nil) (fun i y acc h1 _ => he i y acc h1) hS hs
  rwa [lm_map] at this
theorem ex_setLcM (i : Nat) {y : Str} {py spos : Pos} (nD : Nat) (g : τ → μ) (Sx : Nat → τ → List D → Nz.S) (hc : X.calm = true) (hN : X.N.Nodup) (hy : X.N[i]? = some y) (hyl : X.env.scope.names.lookup y = some .local)
    (hsw : swapsWith (.ListComp elt [⟨tg, iter, [], 0⟩] scope pos) (some (.Name y py)) spos.line X.env = pure true) (ok : BlkOk X.N X.env.scope scope own)
    (hsrc : Src X B tg iter S (ys.map enc) S1) (hn : nD ∉ names S1.L) (h100 : 100 ≤ nD) (hz : ys.length ≤ sizeLine)
    (hg : ∀ i y acc, ys[i]? = some y → ∀ s H0 C cl fp, EgC (Blk X scope s H0 C cl fp) B tg (.fr (enc y)) ⟨wipeC S1.ρ (own.map (·.2)), S1.L ++ [(nD, .fl acc)]⟩ (Sx i y acc) (own.map (·.2)))
    (he : ∀ i y acc, ys[i]? = some y → ∀ s H0 C cl fp, Ev (Blk X scope s H0 C cl fp) B elt (Sx i y acc) (.fr (enc2 (g y))) (Sx i y acc))
    (k : K (.nx (setS S1 i (.fr (eL enc2 (ys.map g)))))) (hL : ∀ i y acc, (Sx i y acc).L = S1.L ++ [(nD, .fl acc)] := by exact fun _ _ _ => rfl) (hS : Sub S.L S1.L := by exact Sub.refl) (hs : ∀ x, foldedSetIterable iter X.env x = pure x := by intro _; rfl) :
    Ex X B (.Assign [.Name y py] (.ListComp elt [⟨tg, iter, [], 0⟩] scope pos) spos) S K :=
  ex_setLc i nD ys enc (fun y => enc2 (g y)) (fun _ => true) Sx hc hN hy hyl hsw ok hsrc hn h100 hz hL hg (fun _ _ _ _ _ _ _ _ _ => ets_nil) (fun i y acc h1 _ => he i y acc h1) (by
    rw [lm_map]; exact k) hS hs
/-- [g y for y in ys if p y], typed -/
theorem ev_lcF (nD : Nat) (g : τ → μ) (p : τ → Bool) (Sx : Nat → τ → List D → Nz.S) (hc : X.calm = true) (hN : X.N.Nodup) (ok : BlkOk X.N X.env.scope scope own)
    (hsrc : Src X B tg iter S (ys.map enc) S1) (hn : nD ∉ names S1.L) (h100 : 100 ≤ nD) (hz : ys.length ≤ sizeLine)
    (hg : ∀ i y acc, ys[i]? = some y → ∀ s H0 C cl fp, EgC (Blk X scope s H0 C cl fp) B tg (.fr (enc y)) ⟨wipeC S1.ρ (own.map (·.2)), S1.L ++ [(nD, .fl acc)]⟩ (Sx i y acc) (own.map (·.2)))
    (ht : ∀ i y acc, ys[i]? = some y → ∀ s H0 C cl fp, Et (Blk X scope s H0 C cl fp) B a (Sx i y acc) (p y) (Sx i y acc))
    (he : ∀ i y acc, ys[i]? = some y → p y = true → ∀ s H0 C cl fp, Ev (Blk X scope s H0 C cl fp) B elt (Sx i y acc) (.fr (enc2 (g y))) (Sx i y acc)) (hL : ∀ i y acc, (Sx i y acc).L = S1.L ++ [(nD, .fl acc)] := by exact fun _ _ _ => rfl) (hS : Sub S.L S1.L := by exact Sub.refl) (hs : ∀ x, foldedSetIterable iter X.env x = pure x := by intro _; rfl) :
    Ev X B (.ListComp elt [⟨tg, iter, [a], 0⟩] scope pos) S (.fr (eL enc2 ((ys.filter p).map g))) S1 := by
  have := ev_lc (pos := pos) nD ys enc (fun y => enc2 (g y)) p Sx hc hN ok hsrc hn h100 hz hL hg (fun i y acc h s H0 C cl fp => ets_one (ht i y acc h s H0 C cl fp)) he hS hs
  rwa [lm_filt] at this
end
end Nz
namespace Nz
open PySem PySem.Spec PyProof.Rows L2
def loopF (Sn : Nz.S) (q : Prop) : Out → Prop
  | .nx S => Le S Sn ∧ q
  | .ct S => Le S Sn ∧ q
  | _ => False
def runE {τ σ ρ : Type} (step : σ → τ → Except ρ σ) : List τ → σ → Except ρ σ
  | [], s => .ok s
  | y :: ys, s => match step s y with
    | .error r => .error r
    | .ok s' => runE step ys s'
def loopE {σ ρ : Type} (stF : σ → Nz.S) (o : Except ρ σ) (Q : σ → Prop) (R : ρ → Ce → Nz.S → Prop) : Out → Prop
  | .nx S => ∃ s', o = .ok s' ∧ Le S (stF s') ∧ Q s'
  | .ct S => ∃ s', o = .ok s' ∧ Le S (stF s') ∧ Q s'
  | .ret c S => ∃ r, o = .error r ∧ R r c S
  | _ => False
section
variable {X : Cx} {B : Bd} {S S1 S2 S3 : Nz.S} {tg a b c e : Expr} {es : List Expr} {pos p q p2 : Pos} {K : Out → Prop} {body : List Stmt} {τ σ ρ : Type} {ys : List τ} {enc : τ → D}
theorem take_foldl {step : σ → τ → σ} {s0 : σ} {i : Nat} {y : τ} (h : ys[i]? = some y) : (ys.take (i + 1)).foldl step s0 = step ((ys.take i).foldl step s0) y := foldl_snoc step s0 h
theorem ex_forF (stF : σ → Nz.S) (step : σ → τ → σ) (s0 : σ) (Q : Nat → σ → Prop) (hsrc : Src X B tg e S (ys.map enc) S1) (h0 : Le S1 (stF s0)) (q0 : Q 0 s0)
    (hs : ∀ i y s, ys[i]? = some y → Q i s → ∃ S2, Eg X B tg (.fr (enc y)) (stF s) S2 ∧ Exs X B body S2 (loopF (stF (step s y)) (Q (i + 1) (step s y)))) (hd : Q ys.length (ys.foldl step s0) → K (.nx (stF (ys.foldl step s0))))
    (hp : PassesOwn (model X.prog X.w) X.A X.env X.xe) (hc : X.calm = true) (hf : ∀ x, foldedSetIterable e X.env x = pure x := by intro _; rfl) : Ex X B (.For tg e body [] pos) S K := by
  refine ex_forT hp hc (fun i => stF ((ys.take i).foldl step s0)) (fun i => Q i ((ys.take i).foldl step s0)) hsrc h0 q0 (fun i y hy hP => ?_) (fun hP => ?_) hf
  · obtain ⟨S2, h1, h2⟩ := hs i y _ hy hP
    refine ⟨S2, h1, h2.mono fun o ho => ?_⟩
    cases o with
    | nx S => show Le S (stF ((ys.take (i + 1)).foldl step s0)) ∧ Q (i + 1) ((ys.take (i + 1)).foldl step s0); rw [take_foldl hy]; exact ho
    | ct S => show Le S (stF ((ys.take (i + 1)).foldl step s0)) ∧ Q (i + 1) ((ys.take (i + 1)).foldl step s0); rw [take_foldl hy]; exact ho
    | bk S => exact False.elim ho
    | ret c S => exact False.elim ho
  · rw [List.take_length] at hP ⊢
    exact hd hP
theorem runE_cons {step : σ → τ → Except ρ σ} {x : τ} {xs : List τ} {s : σ} : runE step (x :: xs) s = (match step s x with | .error r => Except.error r | .ok s' => runE step xs s') := rfl
theorem runE_append {step : σ → τ → Except ρ σ} : ∀ {xs ys : List τ} {s : σ}, runE step (xs ++ ys) s = (match runE step xs s with | .error r => .error r | .ok s' => runE step ys s')
  | [], _, _ => rfl
  | x :: xs, ys, s => by
    rw [List.cons_append, runE_cons, runE_cons]
    cases step s x with
    | error r => rfl
    | ok s' => exact runE_append
theorem runE_split {step : σ → τ → Except ρ σ} {i : Nat} {y : τ} {s0 s : σ} (h : ys[i]? = some y) (hs : runE step (ys.take i) s0 = .ok s) : runE step (ys.take (i + 1)) s0 = step s y := by
  rw [take_snoc h, runE_append, hs]
  show runE step [y] s = step s y
  unfold runE
  cases step s y <;> rfl
theorem runE_err {step : σ → τ → Except ρ σ} {i : Nat} {y : τ} {s0 s : σ} {r : ρ} (h : ys[i]? = some y) (hs : runE step (ys.take i) s0 = .ok s) (hr : step s y = .error r) : runE step ys s0 = .error r := by
  have e : ys = ys.take (i + 1) ++ ys.drop (i + 1) := (List.take_append_drop _ _).symm
  rw [e, runE_append, runE_split h hs, hr]
/-- a loop that may return -/
theorem ex_forE (stF : σ → Nz.S) (step : σ → τ → Except ρ σ) (s0 : σ) (Q : Nat → σ → Prop) (R : ρ → Ce → Nz.S → Prop) (hsrc : Src X B tg e S (ys.map enc) S1) (h0 : Le S1 (stF s0)) (q0 : Q 0 s0)
    (hs : ∀ i y s, ys[i]? = some y → runE step (ys.take i) s0 = .ok s → Q i s → ∃ S2, Eg X B tg (.fr (enc y)) (stF s) S2 ∧ Exs X B body S2 (loopE stF (step s y) (Q (i + 1)) R))
    (hr : ∀ r c S', runE step ys s0 = .error r → R r c S' → K (.ret c S')) (hd : ∀ s, runE step ys s0 = .ok s → Q ys.length s → K (.nx (stF s)))
    (hp : PassesOwn (model X.prog X.w) X.A X.env X.xe) (hc : X.calm = true) (hf : ∀ x, foldedSetIterable e X.env x = pure x := by intro _; rfl) : Ex X B (.For tg e body [] pos) S K := by
  let sI : Nat → σ := fun i => match runE step (ys.take i) s0 with | .ok s => s | .error _ => s0
  refine ex_forT hp hc (fun i => stF (sI i)) (fun i => runE step (ys.take i) s0 = .ok (sI i) ∧ Q i (sI i)) hsrc h0 ⟨rfl, q0⟩ (fun i y hy hP => ?_) (fun hP => ?_) hf
  · obtain ⟨S2, h1, h2⟩ := hs i y _ hy hP.1 hP.2
    refine ⟨S2, h1, h2.mono fun o ho => ?_⟩
    have nx : ∀ s', step (sI i) y = .ok s' → sI (i + 1) = s' ∧ runE step (ys.take (i + 1)) s0 = .ok s' := fun s' e => by
      have := runE_split hy hP.1
      rw [e] at this
      refine ⟨?_, this⟩
      show (match runE step (ys.take (i + 1)) s0 with | .ok s => s | .error _ => s0) = s'
      rw [this]
    cases o with
    | nx S =>
      obtain ⟨s', e, l, q⟩ := ho
      obtain ⟨e1, e2⟩ := nx s' e
      show Le S (stF (sI (i + 1))) ∧ runE step (ys.take (i + 1)) s0 = .ok (sI (i + 1)) ∧ Q (i + 1) (sI (i + 1))
      rw [e1]; exact ⟨l, e2, q⟩
    | ct S =>
      obtain ⟨s', e, l, q⟩ := ho
      obtain ⟨e1, e2⟩ := nx s' e
      show Le S (stF (sI (i + 1))) ∧ runE step (ys.take (i + 1)) s0 = .ok (sI (i + 1)) ∧ Q (i + 1) (sI (i + 1))
      rw [e1]; exact ⟨l, e2, q⟩
    | bk S => exact False.elim ho
    | ret c S =>
      obtain ⟨r, e, l⟩ := ho
      exact hr r c S (runE_err hy hP.1 e) l
  · obtain ⟨h1, h2⟩ := hP
    rw [List.take_length] at h1
    exact hd _ h1 h2
end
end Nz
namespace Nz
open PySem PySem.Spec PyProof.Rows L2
section
variable {X : Cx} {B : Bd} {S S1 : Nz.S} {es : List Expr} {pos : Pos} {τ : Type} {enc : τ → D}
theorem ev_lstF (xs : List τ) {ds : List D} (h : Ea X B es S (ds.map Ce.fr) S1) (hd : ds = xs.map enc) (hz : xs.length ≤ sizeLine) : Ev X B (.List es pos) S (.fr (eL enc xs)) S1 := by
  subst hd
  exact ev_lst h (by rw [List.length_map]; exact hz)
end
end Nz
namespace Nz
open PySem PySem.Spec PyProof.Rows L2
mutual
def toP : D → PyData
  | .non => .none
  | .bl b => .bool b
  | .int i => .int i
  | .str s => .str s
  | .tup xs => .tuple (toPs xs)
  | .lst xs => .list (toPs xs)
  | .obj _ _ => .none
  | .dK _ => .none
  | .dT _ => .none
def toPs : List D → List PyData
  | [] => []
  | x :: xs => toP x :: toPs xs
end
mutual
def dataOk : D → Bool
  | .obj _ _ => false
  | .dK _ => false
  | .dT _ => false
  | .tup xs => datasOk xs
  | .lst xs => datasOk xs
  | _ => true
def datasOk : List D → Bool
  | [] => true
  | x :: xs => dataOk x && datasOk xs
end
mutual
theorem plain_toP : ∀ d : D, (toP d).plain = true
  | .non => rfl
  | .bl b => rfl
  | .int i => rfl
  | .str s => rfl
  | .tup xs => by simp only [toP, PyData.plain]; exact plain_toPs xs
  | .lst xs => by simp only [toP, PyData.plain]; exact plain_toPs xs
  | .obj _ _ => rfl
  | .dK _ => rfl
  | .dT _ => rfl
theorem plain_toPs : ∀ ds : List D, PyData.plainAll (toPs ds) = true
  | [] => rfl
  | x :: xs => by simp only [toPs, PyData.plainAll, plain_toP x, plain_toPs xs, Bool.and_self]
end
section
variable {K : Frag} {mg : Mg} {F H : Hp}
mutual
theorem dp_of (s : Same F H) : ∀ (d : D) (v : V), Rep K mg F d v → dataOk d = true → Dp K H v (toP d)
  | .non, _, r, h => by cases r; exact .non
  | .bl b, _, r, h => by cases r; exact .bl b
  | .int i, _, r, h => by cases r; exact .int i
  | .str z, _, r, h => by cases r; exact .str z
  | .tup xs, _, r, h => by
    cases r with
    | tup h1 h2 => exact .tup (s.seqT h1) (dps_of s xs _ h2 (by simpa [dataOk] using h))
  | .lst xs, _, r, h => by
    cases r with
    | lst h1 h2 => exact .lst (s.seq h1) (dps_of s xs _ h2 (by simpa [dataOk] using h))
  | .obj _ _, _, r, h => by simp [dataOk] at h
  | .dK _, _, r, h => by simp [dataOk] at h
  | .dT _, _, r, h => by simp [dataOk] at h
theorem dps_of (s : Same F H) : ∀ (ds : List D) (vs : List V), Reps K mg F ds vs → datasOk ds = true → DpAll K H vs (toPs ds)
  | [], _, r, h => by cases r; exact .nil
  | x :: xs, _, r, h => by
    cases r with
    | cons h1 h2 =>
      simp only [datasOk, Bool.and_eq_true] at h
      exact .cons (dp_of s x _ h1 h.1) (dps_of s xs _ h2 h.2)
end
end
/-- an encoding that == reads as = -/
structure EqEnc {τ : Type} [DecidableEq τ] (n : Nat) (e : τ → D) : Prop where
  ok : ∀ x, dataOk (e x) = true
  eqv : ∀ x y, PyData.eqv (toP (e x)) (toP (e y)) = decide (x = y)
  dep : ∀ x, (toP (e x)).depth ≤ n
theorem ee_int : EqEnc 0 D.int := ⟨fun _ => rfl, fun x y => by simp only [toP, PyData.eqv]; rw [Bool.eq_iff_iff]; simp, fun _ => Nat.zero_le _⟩
theorem ee_str : EqEnc 0 D.str := ⟨fun _ => rfl, fun x y => by simp only [toP, PyData.eqv]; rw [Bool.eq_iff_iff]; simp, fun _ => Nat.zero_le _⟩
section
variable {τ μ ν κ ι : Type} [DecidableEq τ] [DecidableEq μ] [DecidableEq ν] [DecidableEq κ] [DecidableEq ι] {a b c d f n : Nat} {e : τ → D} {e2 : μ → D} {e3 : ν → D} {e4 : κ → D} {e5 : ι → D}
theorem ees_ok (h : EqEnc n e) : ∀ xs : List τ, datasOk (xs.map e) = true
  | [] => rfl
  | x :: xs => by simp only [List.map_cons, datasOk, h.ok, ees_ok h xs, Bool.and_self]
theorem ees_eqv (h : EqEnc n e) : ∀ xs ys : List τ, PyData.eqvAll (toPs (xs.map e)) (toPs (ys.map e)) = decide (xs = ys)
  | [], [] => by simp [toPs, PyData.eqvAll]
  | [], _ :: _ => by simp [toPs, PyData.eqvAll]
  | _ :: _, [] => by simp [toPs, PyData.eqvAll]
  | x :: xs, y :: ys => by
    simp only [List.map_cons, toPs, PyData.eqvAll, h.eqv, ees_eqv h xs ys]
    rw [Bool.eq_iff_iff]; simp
theorem ees_dep (h : EqEnc n e) : ∀ xs : List τ, PyData.depthAll (toPs (xs.map e)) ≤ n
  | [] => by simp [toPs, PyData.depthAll]
  | x :: xs => by
    simp only [List.map_cons, toPs, PyData.depthAll]
    have h1 := h.dep x
    have h2 := ees_dep h xs
    omega
theorem ee_L (h : EqEnc n e) : EqEnc (n + 1) (eL e) := ⟨fun xs => by simp only [dataOk]; exact ees_ok h xs, fun xs ys => by simp only [toP, PyData.eqv]; exact ees_eqv h xs ys, fun xs => by simp only [toP, PyData.depth]; have := ees_dep h xs; omega⟩
/-- None or a value that is not None -/
structure NoNone (e : τ → D) : Prop where
  l : ∀ x, PyData.eqv .none (toP (e x)) = false
  r : ∀ x, PyData.eqv (toP (e x)) .none = false
theorem nn_int : NoNone D.int := ⟨fun _ => by simp [toP, PyData.eqv], fun _ => by simp [toP, PyData.eqv]⟩
theorem ee_O (h : EqEnc n e) (k : NoNone e) : EqEnc n (eO e) := ⟨fun x => by cases x with | none => rfl | some x => exact h.ok x, fun x y => by
    cases x with
    | none => cases y with
      | none => simp [eO, toP, PyData.eqv]
      | some y => simp only [eO]; rw [show toP D.non = PyData.none from rfl, k.l]; simp
    | some x => cases y with
      | none => simp only [eO]; rw [show toP D.non = PyData.none from rfl, k.r]; simp
      | some y => simp only [eO]; rw [h.eqv, Bool.eq_iff_iff]; simp,
  fun x => by cases x with | none => simp [eO, toP, PyData.depth] | some x => exact h.dep x⟩
variable {X : Cx}
theorem o_eqD (hu : X.A.units + 64 < cLine) (h : EqEnc n e) {x y : τ} (hn : n ≤ 60 := by decide) : Op2 X (compareOp .Eq) (e x) (e y) (.bl (decide (x = y))) :=
  fun B F α H σ S Q v1 v2 R r1 r2 k pins s u1 u2 I q1 q2 => by
    obtain ⟨as, ra⟩ := Dp.reads I _ _ _ (dp_of R.sub _ _ r1 (h.ok x)) q1
    obtain ⟨bs, rb⟩ := Dp.reads I _ _ _ (dp_of R.sub _ _ r2 (h.ok y)) q2
    refine PySem.SeqAt.eq_plain ra rb (plain_toP _) (plain_toP _) ?_ ?_
    · have := h.dep x; have := Nat.min_le_left (toP (e x)).depth (toP (e y)).depth; omega
    · rw [h.eqv]; exact ⟨.bl _, H, I, rfl, k F α _ H R Stp.refl (.bl _)⟩
theorem o_neD (hu : X.A.units + 64 < cLine) (h : EqEnc n e) {x y : τ} (hn : n ≤ 60 := by decide) : Op2 X (compareOp .NotEq) (e x) (e y) (.bl (!decide (x = y))) :=
  fun B F α H σ S Q v1 v2 R r1 r2 k pins s u1 u2 I q1 q2 => by
    obtain ⟨as, ra⟩ := Dp.reads I _ _ _ (dp_of R.sub _ _ r1 (h.ok x)) q1
    obtain ⟨bs, rb⟩ := Dp.reads I _ _ _ (dp_of R.sub _ _ r2 (h.ok y)) q2
    refine PySem.SeqAt.ne_plain ra rb (plain_toP _) (plain_toP _) ?_ ?_
    · have := h.dep x; have := Nat.min_le_left (toP (e x)).depth (toP (e y)).depth; omega
    · rw [h.eqv]; exact ⟨.bl _, H, I, rfl, k F α _ H R Stp.refl (.bl _)⟩
theorem toPs_any (h : EqEnc n e) (x : τ) : ∀ ys : List τ, ((toPs (ys.map e)).any fun y => PyData.eqv y (toP (e x))) = decide (x ∈ ys)
  | [] => by simp [toPs]
  | y :: ys => by
    rw [List.map_cons]
    show (PyData.eqv (toP (e y)) (toP (e x)) || (toPs (ys.map e)).any fun y => PyData.eqv y (toP (e x))) = _
    rw [h.eqv, toPs_any h x ys, Bool.eq_iff_iff, Bool.or_eq_true, decide_eq_true_iff, decide_eq_true_iff, decide_eq_true_iff, List.mem_cons]
    exact or_congr eq_comm Iff.rfl
theorem o_inL (hu : X.A.units + 64 < cLine) (h : EqEnc n e) {x : τ} {ys : List τ} (hn : n ≤ 60 := by decide) : Op2 X (compareOp .In) (e x) (eL e ys) (.bl (decide (x ∈ ys))) :=
  fun B F α H σ S Q v1 v2 R r1 r2 k pins s u1 u2 I q1 q2 => by
    obtain ⟨as, ra⟩ := Dp.reads I _ _ _ (dp_of R.sub _ _ r1 (h.ok x)) q1
    obtain ⟨bs, rb⟩ := Dp.reads I _ _ _ (dp_of R.sub _ _ r2 ((ee_L h).ok ys)) q2
    refine PySem.SeqAt.in_list_data (xs := toPs (ys.map e)) rb ra (plain_toPs _) (plain_toP _) ?_ ?_
    · have := h.dep x; have := Nat.min_le_right (PyData.depthAll (toPs (ys.map e))) (toP (e x)).depth; omega
    · rw [toPs_any h]; exact ⟨.bl _, H, I, rfl, k F α _ H R Stp.refl (.bl _)⟩
end
def iterW {σ : Type} (c : σ → Bool) (f : σ → σ) : Nat → σ → σ
  | 0, s => s
  | n + 1, s => if c s = true then iterW c f n (f s) else s
theorem iterW_stop {σ : Type} {c : σ → Bool} {f : σ → σ} {s : σ} (h : c s = false) : ∀ n, iterW c f n s = s
  | 0 => rfl
  | n + 1 => by unfold iterW; rw [h, if_neg Bool.false_ne_true]
section
variable {X : Cx} {B : Bd} {S : Nz.S} {e : Expr} {pos : Pos} {K : Out → Prop} {body : List Stmt} {σ : Type}
theorem ex_whileF (stF : σ → Nz.S) (c : σ → Bool) (f : σ → σ) (s0 : σ) (n : Nat) (Q : σ → Prop) (μ : σ → Nat) (h0 : Le S (stF s0)) (q0 : Q s0) (hn : μ s0 ≤ n) (hm : ∀ s, Q s → c s = true → Q (f s) ∧ μ (f s) < μ s)
    (ht : ∀ s, Q s → Et X B e (stF s) (c s) (stF s)) (hs : ∀ s, Q s → c s = true → Exs X B body (stF s) (loopF (stF (f s)) True))
    (hd : Q (iterW c f n s0) → c (iterW c f n s0) = false → K (.nx (stF (iterW c f n s0)))) (hp : PassesOwn (model X.prog X.w) X.A X.env X.xe) : Ex X B (.While e body [] pos) S K :=
  fun F α H τ D R o => wS.of (ps_while hp pt_w pss_w) (by
    refine ⟨fun m σ' H' => ∃ s k F' α', m = μ s ∧ Q s ∧ μ s ≤ k ∧ iterW c f k s = iterW c f n s0 ∧ RelX X B F' α' H' σ' (stF s) ∧ Same F F', ⟨μ s0, s0, n, F, α, rfl, q0, hn, rfl, R.le h0, Same.refl _⟩, ?_⟩
    rintro m σ' H' ⟨s, k, F', α', rfl, q, hk, he, R', sm⟩
    refine ht s q F' α' H' σ' _ R' fun F1 α1 H1 R1 st1 => ?_
    have sall : Same F F1 := sm.trans st1.fro
    cases hc : c s with
    | true =>
      obtain ⟨q', l⟩ := hm s q hc
      rw [if_pos rfl]
      refine ⟨fun σ2 H2 => ∃ F2 α2, RelX X B F2 α2 H2 σ2 (stF (f s)) ∧ Same F F2, fun σ2 H2 ⟨F2, α2, R2, s2⟩ => ⟨μ (f s), l, f s, k - 1, F2, α2, rfl, q', by omega, ?_, R2, s2⟩, hs s q hc F1 α1 H1 σ' _ R1 ?_⟩
      · rw [← he]
        obtain ⟨k', rfl⟩ : ∃ k', k = k' + 1 := ⟨k - 1, by omega⟩
        show iterW c f k' (f s) = if c s = true then iterW c f k' (f s) else s
        rw [if_pos hc]
      · exact ⟨fun S4 F4 α4 H4 σ4 k4 R4 s4 => ⟨F4, α4, R4.le k4.1, sall.trans s4⟩, fun S4 F4 α4 H4 σ4 k4 R4 s4 => k4.elim, fun S4 F4 α4 H4 σ4 k4 R4 s4 => ⟨F4, α4, R4.le k4.1, sall.trans s4⟩, fun c S4 F4 α4 H4 σ4 v k4 R4 s4 r4 => k4.elim⟩
    | false =>
      rw [if_neg Bool.false_ne_true]
      rw [iterW_stop hc] at he
      exact o.nx _ F1 α1 H1 σ' (by rw [he]; exact hd (by rw [← he]; exact q) (by rw [← he]; exact hc)) R1 sall)
end
end Nz
namespace Nz
open PySem PySem.Spec PyProof.Rows L2
/-- the law's promise in the layer's own words -/
def spTrue (K : Frag) : Sp := fun vs H Q _ => ∃ (a : Addr) (ns : List Int), vs = [.ref a] ∧ SqL K H a (ns.map V.int) ∧ ns.length ≤ 63 ∧ ∀ H', Q (.bl true) H'
theorem spTrue_of {K : Frag} {mg : Mg} {mir : List Int → Bool} (hm : ∀ ns : List Int, ns.length ≤ 63 → mir ns = true) {vs : List V} {H : Hp} {Q : VK} {E : XK} (h : spTrue K vs H Q E) :
    SpOf K mg (fun cs L Kc => ∃ script : List Int, cs = [.fr (eL D.int script)] ∧ L = [] ∧ script.length ≤ 63 ∧ ∀ L', Kc (.fr (D.bl (mir script))) L') vs H Q E := by
  obtain ⟨a, ns, rfl, hs, hl, q⟩ := h
  refine ⟨H, fun _ => 0, [], [.fr (eL D.int ns)], fun _ => False, ⟨Same.refl _, Same.refl _, fun b o e => .inl e, fun b o e _ => e, List.nodup_nil, fun n m h => absurd h (by simp [names]), fun n o h => absurd h (by simp), .so (Rep.lst hs Reps.ints) .nil, fun n a h hn => absurd hn (by simp [names])⟩, ns, rfl, rfl, hl, fun L' F' α' v H' ρ' σ' R' r' => ?_⟩
  rw [hm ns hl] at r'
  cases (show Rep K mg F' (.bl true) v from r')
  exact q H'
end Nz
namespace Nz
open PySem PySem.Spec PyProof.Rows L2
def minL : List Int → Int
  | [] => 0
  | x :: xs => xs.foldl (fun a b => if b < a then b else a) x
def maxL : List Int → Int
  | [] => 0
  | x :: xs => xs.foldl (fun a b => if b > a then b else a) x
theorem foldmin : ∀ (xs : List Int) (a : Int), (xs.foldl (fun a b => if b < a then b else a) a = a ∨ xs.foldl (fun a b => if b < a then b else a) a ∈ xs) ∧ xs.foldl (fun a b => if b < a then b else a) a ≤ a ∧ ∀ y ∈ xs, xs.foldl (fun a b => if b < a then b else a) a ≤ y
  | [], a => ⟨.inl rfl, Int.le_refl _, fun y h => absurd h (by simp)⟩
  | x :: xs, a => by
    rw [List.foldl_cons]
    have ih := foldmin xs (if x < a then x else a)
    refine ⟨?_, ?_, fun y hy => ?_⟩
    · rcases ih.1 with h | h
      · rw [h]; split
        · exact .inr List.mem_cons_self
        · exact .inl rfl
      · exact .inr (List.mem_cons_of_mem _ h)
    · have := ih.2.1; split at this <;> omega
    · rcases List.mem_cons.mp hy with rfl | hy
      · have := ih.2.1; split at this <;> omega
      · exact ih.2.2 y hy
theorem foldmax : ∀ (xs : List Int) (a : Int), (xs.foldl (fun a b => if b > a then b else a) a = a ∨ xs.foldl (fun a b => if b > a then b else a) a ∈ xs) ∧ a ≤ xs.foldl (fun a b => if b > a then b else a) a ∧ ∀ y ∈ xs, y ≤ xs.foldl (fun a b => if b > a then b else a) a
  | [], a => ⟨.inl rfl, Int.le_refl _, fun y h => absurd h (by simp)⟩
  | x :: xs, a => by
    rw [List.foldl_cons]
    have ih := foldmax xs (if x > a then x else a)
    refine ⟨?_, ?_, fun y hy => ?_⟩
    · rcases ih.1 with h | h
      · rw [h]; split
        · exact .inr List.mem_cons_self
        · exact .inl rfl
      · exact .inr (List.mem_cons_of_mem _ h)
    · have := ih.2.1; split at this <;> omega
    · rcases List.mem_cons.mp hy with rfl | hy
      · have := ih.2.1; split at this <;> omega
      · exact ih.2.2 y hy
theorem minL_mem {ns : List Int} (h : ns ≠ []) : minL ns ∈ ns := by
  cases ns with
  | nil => exact absurd rfl h
  | cons x xs =>
    rcases (foldmin xs x).1 with e | e
    · show xs.foldl _ x ∈ _; rw [e]; exact List.mem_cons_self
    · exact List.mem_cons_of_mem _ e
theorem maxL_mem {ns : List Int} (h : ns ≠ []) : maxL ns ∈ ns := by
  cases ns with
  | nil => exact absurd rfl h
  | cons x xs =>
    rcases (foldmax xs x).1 with e | e
    · show xs.foldl _ x ∈ _; rw [e]; exact List.mem_cons_self
    · exact List.mem_cons_of_mem _ e
theorem maxL_le {ns : List Int} {y : Int} (h : y ∈ ns) : y ≤ maxL ns := by
  cases ns with
  | nil => exact absurd h (by simp)
  | cons x xs =>
    rcases List.mem_cons.mp h with rfl | h
    · exact (foldmax xs y).2.1
    · exact (foldmax xs x).2.2 y h
section
variable {X : Cx} {B : Bd} {S S1 S2 S3 : Nz.S} {tg a b c e : Expr} {es : List Expr} {pos p q p2 : Pos} {d : D} {ds : List D} {x : Str} {id : String} {τ : Type} {enc : τ → D}
theorem c_maxL {ns : List Int} (hc : X.calm = true) (h : ns ≠ []) : Cb X (.builtin "max") [.lst (ns.map D.int)] (.int (maxL ns)) := .of (cr_max hc) fun B F α H σ S Q vs R rx k => by
  cases rx with
  | cons r rr =>
    cases rr
    obtain ⟨a, us, rfl, hq, rs⟩ := R.asL (c := .fr (.lst (ns.map D.int))) rfl r
    refine ⟨a, ns, rfl, by rw [← Reps.ints_eq rs]; exact hq, List.length_pos_iff.mpr h, fun m h1 h2 => ?_⟩
    rw [show m = maxL ns from Int.le_antisymm (maxL_le h1) (h2 _ (maxL_mem h))]
    exact k F α _ H R Stp.refl (.int _)
theorem mulW_of {i j : Int} (h : -(2 ^ 900) < i ∧ i < 2 ^ 900 ∧ -(2 ^ 900) < j ∧ j < 2 ^ 900) : CMulW i j :=
  wide_mul (a := 900) (b := 900) (by omega) (by omega) (by decide) (by decide) (by decide)
theorem divW_of {i j : Int} (h : 0 < j ∧ j < 2 ^ 900) : CDivW i j := wide_div (b := 900) h.1 (by omega) (by decide) (by decide)
def isNonD : D → Bool
  | .non => true
  | _ => false
theorem o_isD : Op2 X (compareOp .Is) d .non (.bl (isNonD d)) := fun B F α H σ S Q x y R rx ry k pins s v u I rv ru =>
  op_isN pins s σ H x y v u Q I rv ru ⟨by cases ry; rfl, by
    have : decide (x = .non) = isNonD d := by cases rx <;> simp [isNonD]
    rw [this]; exact k F α _ H R Stp.refl (.bl _)⟩
theorem isNon_O {y : Option τ} (h : ∀ z, isNonD (enc z) = false) : isNonD (eO enc y) = y.isNone := by
  cases y with
  | none => rfl
  | some z => exact h z
theorem o_isO {y : Option τ} (h : ∀ z, isNonD (enc z) = false) : Op2 X (compareOp .Is) (eO enc y) .non (.bl y.isNone) := by rw [← isNon_O h]; exact o_isD
theorem ev_isiO {T t : String} {b : Bool} {xT : Str} {p2 : Pos} {y : Option τ} (ha : Ev X B a S (.fr (eO enc y)) S1) (ht : ∀ z, tyOf (enc z) = some t) (hk : kitB t T = some b) (hk2 : kitB "NoneType" T = some false) (hg : Gl X "isinstance") (hm : X.mg "isinstance" = none) (hgT : Gl X xT) (hmT : X.mg xT = none) (hv : bootBuiltins xT = some (.type T))
    (hv2 : bootBuiltins "isinstance" = some (.builtin "isinstance") := by decide +kernel)
    (hn : xT ≠ "__name__" := by decide) (hd : (xT == ("__debug__" : Str)) = false := by decide)
    (he : starEach (a :: [.Name xT p2]) X.env = (false, eval a X.env) :: starEach [.Name xT p2] X.env := by rfl) (he2 : starEach (.Name xT p2 :: []) X.env = (false, eval (.Name xT p2) X.env) :: starEach [] X.env := by rfl) (hpl : (backTo pos (starEach [.Name xT p2] X.env)).any (·.1) = false := by rfl) :
    Ev X B (.Call (.Name "isinstance" p) [a, .Name xT p2] [] pos) S (.fr (.bl (y.isSome && b))) S1 := by
  cases y with
  | none => exact ev_isi ha rfl hk2 hg hm hgT hmT hv hv2 hn hd he he2 hpl
  | some z => exact ev_isi (b := b) ha (ht z) hk hg hm hgT hmT hv hv2 hn hd he he2 hpl
end
end Nz
namespace Nz
open PySem PySem.Spec PyProof.Rows L2
section
variable {K : Frag} {mg : Mg} {B : Bd} {F F' : Hp} {α : Nat → Addr} {H H' : Hp} {σ : L2.St} {S : Nz.S} {L : List (Nat × LO)} {Q : VK} {E : XK}
theorem RepF.nolook {f : Str} : ∀ {fs : List (Str × D)} {vs : List (Str × V)}, RepF K mg F fs vs → fs.lookup f = none → vs.lookup f = none
  | _, _, .nil, h => rfl
  | (n, e) :: fs, (_, v) :: vs, .cons r rs, h => by
    rw [List.lookup_cons] at h ⊢
    cases hb : (f == n) with
    | true => rw [hb] at h; cases h
    | false => rw [hb] at h; exact rs.nolook h
theorem paired_slotsL : ∀ {ds : List D} {vs : List V}, Reps K mg F ds vs → SlR K mg F α L ((ds.map Ce.fr).map some) (vs.map some)
  | _, _, .nil => .nil
  | _, _, .cons h r => .so h (paired_slotsL r)
theorem CRelF.fr : ∀ {fs : List (Str × D)} {vs : List (Str × V)}, CRelF K mg F α L (fs.map fun p => (p.1, Ce.fr p.2)) vs → RepF K mg F fs vs
  | [], _, .nil => .nil
  | _ :: _, _, .cons h r => .cons h (CRelF.fr r)
/-- __init__ -/
theorem init_call {sp : SpN} {x dx C : Addr} {c : Str} {ds : List D} {vs : List V} {fs : List (Str × D)} (R : Rel K mg B F α H σ S) (hx : H x = none) (hd : H dx = none) (hne : dx ≠ x) (hm : mg c = some (.ref C)) (r : Reps K mg F ds vs)
    (hs : ∀ Kc : Ce → List (Nat × LO) → Prop, Kc (.fr .non) [(0, .ins c (fs.map fun p => (p.1, Ce.fr p.2)))] → sp (.ad 0 :: ds.map Ce.fr) [(0, .ins c [])] Kc)
    (k : ∀ F' H', Rel K mg B F' α H' σ S → Same F F' → Rep K mg F' (.obj c fs) (.ref x) → Q (.ref x) H') :
    SpOf K mg sp (.ref x :: vs) (upd (upd H dx (.own x)) x (.ins C dx [])) (fun v H2 => v = .non ∧ Q (.ref x) H2) E := by
  have fx : F x = none := by
    cases q : F x with
    | none => rfl
    | some o => rw [R.sub x o q] at hx; cases hx
  have fdx : F dx = none := by
    cases q : F dx with
    | none => rfl
    | some o => rw [R.sub dx o q] at hd; cases hd
  have hH2 : ∀ b o, H b = some o → upd (upd H dx (.own x)) x (.ins C dx []) b = some o := fun b o e => by
    rw [upd_ne (fun q => by rw [q, hx] at e; cases e), upd_ne (fun q => by rw [q, hd] at e; cases e)]; exact e
  refine ⟨F, fun _ => x, [(0, .ins c [])], .ad 0 :: ds.map Ce.fr, fun b => b = x ∨ b = dx, ⟨fun b o e => hH2 b o (R.sub b o e), Same.refl _, fun b o e => .inl e, fun b o e _ => e, by simp [names], fun n m h1 h2 _ => ?_, fun n o h => ?_, .so ⟨by simp [names], rfl⟩ (?_), fun n a h hn => ?_⟩, hs _ ?_⟩
  · simp only [names, List.map_cons, List.map_nil, List.mem_singleton] at h1 h2; rw [h1, h2]
  · simp only [List.mem_singleton, Prod.mk.injEq] at h
    obtain ⟨rfl, rfl⟩ := h
    refine ⟨fx, .inr (.inl rfl), C, dx, [], hm, upd_same, ?_, fdx, .inr (.inr rfl), .nil⟩
    rw [upd_ne hne]; exact upd_same
  · exact paired_slotsL r
  · have h2 : (if n < 100 then some x else none) = some a := h
    split at h2
    · cases h2; rfl
    · cases h2
  · intro F' α' v H' ρ' σ' R' r'
    have hv : v = .non := by cases r'; rfl
    refine ⟨hv, ?_⟩
    have hfix : α' 0 = x := R'.fix 0 x rfl (by simp [names])
    obtain ⟨q1, q2, C', dx', us, m1, e1, e2, e3, e4, rf⟩ := R'.live 0 _ (List.mem_singleton.mpr rfl)
    rw [hfix] at q1 q2 e1 e2
    have hne' : dx' ≠ x := fun q => by rw [q, e1] at e2; cases e2
    have old : ∀ b o, H b = some o → ¬ (b = x ∨ b = dx) := fun b o e q => by
      rcases q with q | q
      · rw [q, hx] at e; cases e
      · rw [q, hd] at e; cases e
    have hfresh : ∀ b, (upd (upd H dx (.own x)) x (.ins C dx []) b = none ∨ (b = x ∨ b = dx)) → H b = none := fun b q => by
      cases e : H b with
      | none => rfl
      | some o =>
        rcases q with q | q
        · rw [hH2 b o e] at q; cases q
        · exact absurd q (old b o e)
    have hF2 : Same F' (upd (upd F' dx' (.own x)) x (.ins C' dx' us)) := fun b o e => by
      rw [upd_ne (fun q => by rw [q, q1] at e; cases e), upd_ne (fun q => by rw [q, e3] at e; cases e)]; exact e
    have gx : upd (upd F' dx' (.own x)) x (.ins C' dx' us) x = some (.ins C' dx' us) := upd_same
    have gd : upd (upd F' dx' (.own x)) x (.ins C' dx' us) dx' = some (.own x) := by rw [upd_ne hne']; exact upd_same
    refine k (upd (upd F' dx' (.own x)) x (.ins C' dx' us)) H' (R.grow ((show Same F F' from R'.bF).trans hF2) (fun b o e => R'.frame b o (hH2 b o e) (old b o e)) (fun b o e => ?_) (fun b u e => ?_)) ((show Same F F' from R'.bF).trans hF2) ?_
    · by_cases h1 : b = x
      · subst h1; rw [gx] at e; cases e; exact e1
      · rw [upd_ne h1] at e
        by_cases h2 : b = dx'
        · subst h2; rw [upd_same] at e; cases e; exact e2
        · rw [upd_ne h2] at e; exact R'.sub b o e
    · by_cases h1 : b = x
      · subst h1; exact .inr hx
      · rw [upd_ne h1] at e
        by_cases h2 : b = dx'
        · subst h2; exact .inr (hfresh _ e4)
        · rw [upd_ne h2] at e
          rcases R'.nF b u e with z | z | z
          · exact .inl z
          · exact .inr (hfresh b (.inl z))
          · exact .inr (hfresh b (.inr z))
    · exact .obj m1 gx gd ((CRelF.fr rf).mono hF2)
end
section
variable {X : Cx} {B : Bd} {S S1 S2 : Nz.S} {a e o : Expr} {es : List Expr} {pos apos p q : Pos} {d d1 : D} {ds : List D} {c f m x : Str} {fs : List (Str × D)} {C g pr : Addr} {fd : FuncData} {ps : List Str} {k : Nat} {sp : SpN}
/-- e.f -/
theorem ev_fld (hm : X.mg c = some (.ref C)) (hc : Cls X.K C) (hn : NoAttr X.K C f) (hl : fs.lookup f = some d) (ha : Ev X B a S (.fr (.obj c fs)) S1) (hb : attributeBase a f X.env (eval a X.env) = eval a X.env := by rfl) : Ev X B (.Attribute a f pos) S (.fr d) S1 :=
  fun F α H σ Q R k => wE.of (pe_fld pe_w hb) (ha F α H σ _ R fun F1 α1 v1 H1 R1 st1 r1 => by
    cases (show Rep X.K X.mg F1 (.obj c fs) v1 from r1) with
    | obj m e1 e2 rf =>
      rw [m] at hm; cases hm
      obtain ⟨v, hv, rv⟩ := rf.look hl
      exact ⟨_, _, _, _, v, rfl, R1.sub _ _ e1, hc, hn, hv, k F1 α1 v H1 R1 st1 rv⟩)
/-- o.m(e, ..) -/
theorem ev_meth {pl : Sem Bool} (hm : X.mg c = some (.ref C)) (hc : Cls X.K C) (hme : Meth X.K C m g) (hnl : fs.lookup m = none) (F : FnOk X.prog X.w X.K X.mg X.base CX0 k g fd ps (SpOf X.K X.mg sp)) (hr : Room k X.A) (hb : Binds X.K fd ps [])
    (ho : Ev X B o S (.fr (.obj c fs)) S1) (ha : Ea X B (e :: es) S1 (ds.map Ce.fr) S2) (hs : ∀ Kc : Ce → List (Nat × LO) → Prop, (∀ L', Kc (.fr d) L') → sp (.fr (.obj c fs) :: ds.map Ce.fr) [] Kc) (h1 : Sub S.L S1.L := by exact Sub.refl) (h2 : Sub S1.L S2.L := by exact Sub.refl)
    (hst : starEach (e :: es) X.env = (false, eval e X.env) :: starEach es X.env := by rfl) (hpl : (backTo pos (starEach es X.env)).any (·.1) = false := by rfl)
    (ht : eval (.Call (.Attribute o m apos) (e :: es) [] pos) X.env = (do
      let ov ← eval o X.env
      standAt apos.atName
      let (f, first) ← holding [ov] (getMethod ov m pl)
      callWith pos f first (backTo pos (starEach (e :: es) X.env)) (backToKw pos (keywordEach [] X.env))) := by rfl) : Ev X B (.Call (.Attribute o m apos) (e :: es) [] pos) S (.fr d) S2 :=
  fun F0 α H σ Q R k => wE.of (pe_meth pe_w hc hme F hr hb .nil pass0 pa_w hst hpl ht) (ho F0 α H σ _ R fun F1 α1 v1 H1 R1 st1 r1 => by
    have r := r1
    cases (show Rep X.K X.mg F1 (.obj c fs) v1 from r1) with
    | obj m e1 e2 rf =>
      rw [m] at hm; cases hm
      refine ⟨_, _, _, rfl, R1.sub _ _ e1, rf.nolook hnl, ha F1 α1 H1 σ _ R1 fun F2 α2 vs H2 R2 st2 r2 => ?_⟩
      have rr := CRels.fr r2
      rw [List.append_nil]
      exact ⟨F2, α2, [], _, fun _ => False, R2.call0 (ds := .obj c fs :: ds) (.cons (Rep.mono st2.fro r) rr), hs _ fun L' F' α' v H' ρ' σ' R' r' => k F' α2 v H' (R2.back0 R') ((st1.trans st2 h1).trans ⟨R'.bF, fun _ _ => rfl⟩ fun n h => h2 n (h1 n h)) r'⟩)
/-- the fields behind self.f = .. -/
def putC (f : Str) (c : Ce) : List (Str × Ce) → List (Str × Ce)
  | [] => [(f, c)]
  | (g, x) :: r => if g = f then (g, c) :: r else (g, x) :: putC f c r
theorem CRelF.put {K : Frag} {mg : Mg} {F : Hp} {α : Nat → Addr} {L : List (Nat × LO)} {f : Str} {c : Ce} {v : V} (h : CRel K mg F α L c v) : ∀ {fs : List (Str × Ce)} {vs : List (Str × V)}, CRelF K mg F α L fs vs → CRelF K mg F α L (putC f c fs) (putF f v vs)
  | [], _, .nil => .cons h .nil
  | (g, _) :: _, _, .cons r rs => by
    unfold putC putF
    by_cases q : g = f
    · rw [if_pos q, if_pos q]; exact .cons h rs
    · rw [if_neg q, if_neg q]; exact .cons r (rs.put h)
theorem CRelF.len {K : Frag} {mg : Mg} {F : Hp} {α : Nat → Addr} {L : List (Nat × LO)} : ∀ {fs : List (Str × Ce)} {vs : List (Str × V)}, CRelF K mg F α L fs vs → fs.length = vs.length
  | [], _, .nil => rfl
  | _ :: _, _, .cons r rs => congrArg (· + 1) rs.len
/-- self.f = e -/
theorem ex_fld {K : Out → Prop} {n : Nat} {fsC : List (Str × Ce)} {d : D} (hm : X.mg c = some (.ref C)) (hc : Cls X.K C) (hn : NoAttr X.K C f) (he : Ev X B e S (.fr d) S1) (ho : Ev X B o S1 (.ad n) S1) (hl : getL n S1.L = some (.ins c fsC)) (h100 : fsC.length < 1000)
    (k : K (.nx ⟨S1.ρ, setL n (.ins c (putC f (.fr d) fsC)) S1.L⟩)) (hs : swapsWith e (some (.Attribute o f p)) pos.line X.env = pure false := by rfl) : Ex X B (.Assign [.Attribute o f p] e pos) S K :=
  fun F α H σ D R oo => wS.of (ps_fld pe_w pe_w hs) (he F α H σ _ R fun F1 α1 v1 H1 R1 st1 r1 => ho F1 α1 H1 σ _ R1 fun F2 α2 v2 H2 R2 st2 r2 => by
    obtain ⟨hn1, rfl⟩ := r2
    have hmm := getL_mem hl
    obtain ⟨f0, f1, C', dx, vs, m1, e1, e2, e3, e4, rf⟩ := R2.live n _ hmm
    rw [m1] at hm; cases hm
    refine ⟨_, _, dx, vs, rfl, e1, hc, hn, by rw [← rf.len]; exact h100, ?_⟩
    have hne : dx ≠ α2 n := fun q => by rw [q, e1] at e2; cases e2
    have Rp := R2.put (n := n) (u := .ins c (putC f (.fr d) fsC)) (o' := .ins _ dx (putF f v1 vs)) hmm ⟨_, dx, _, m1, upd_same, by rw [upd_ne hne]; exact e2, e3, e4, (rf.put (c := .fr d) (Rep.mono st2.fro r1)).step Stp.refl fun m h => by rw [names_setL]; exact h⟩
    exact oo.nx _ F2 α2 _ σ k Rp (st1.fro.trans st2.fro))
end
end Nz
namespace Nz
open PySem PySem.Spec PyProof.Rows L2
open AutoSeq1 (wpAny_loadPart')
open Sem (wp)
def tuI (t : Addr) : Obj := { cls := .type "tuple_iterator", data := .fields #[.ref t, .int 0 0] }
def enO (it : Addr) : Obj := { cls := .type "enumerate", data := .fields #[.none, .bool false, .ref it, rawInt 0, .none, .none] }
theorem enumT_new (t : Addr) (its : Array Value) (k : Nat) (dd : Option Addr) (ss : Array (Option Value)) :
    Meets (Builtin.«enumerate.__new__» ⟨[.type "enumerate", .ref t], []⟩) (fun _ R z => z.heap.get? t = some { cls := .type "tuple", dict := dd, data := .seq its k, slots := ss } ∧
      R (.ok (.ret (.ref (z.heap.push (tuI t)).objs.size))) { z with heap := (z.heap.push (tuI t)).push (enO z.heap.objs.size) }) := .of_wp fun P w A R z hz => by
  obtain ⟨q1, q2, q3, q4, q5⟩ := z
  obtain ⟨e, hR⟩ := hz
  have sub := sub_enumerate
  have T : Heap.IsTuple (Shared.heap ⟨q1, q2, q3, q4, q5⟩) t its := ⟨_, e, rfl, k, rfl⟩
  wp_walk using wpAny_loadPart' e
  refine wpAny_stack_any fun _ => wpAny_pure ?_
  split
  · rename_i y _ _ _ _ _
    cases (y == Value.type "enumerate") <;> (wp_walk using wpAny_loadPart' e, wpAny_pyIter_tuple T; exact ⟨_, rfl, hR⟩)
  · wp_walk using wpAny_loadPart' e, wpAny_pyIter_tuple T; exact ⟨_, rfl, hR⟩
theorem enumT_call {P : Program} {w : World} {A : Around} {E : Value → Shared → Prop} {z : Shared} {t : Addr} {its : Array Value} {Q : Value → Shared → Prop} (T : z.heap.IsTuple t its)
    (k : ∀ h', IsEnum h' (z.heap.objs.size + 1) z.heap.objs.size 0 .none → h'.IsTupleIter z.heap.objs.size t 0 → (∀ b o, z.heap.get? b = some o → h'.get? b = some o) → Q (.ref (z.heap.objs.size + 1)) { z with heap := h' }) :
    wpAny (model P w) A (call (.type "enumerate") [.ref t]) Q E z := by
  obtain ⟨⟨oc, od, dt, ss⟩, e, e1, kk, e2⟩ := T
  simp only at e1 e2
  subst e1 e2
  refine callType_new F.called_enumerate (by decide) (F.typeCall_enumerate_1 _) (F.newCall_enumerate_1 _) (fun o => F.args_object_init_2 o _) F.entry_enumerate_new (enumT_new t its kk od ss) ⟨e, ?_⟩
  have sz : (z.heap.push (tuI t)).objs.size = z.heap.objs.size + 1 := Heap.size_push ..
  show _ ∧ _
  rw [sz]
  have en : IsEnum ((z.heap.push (tuI t)).push (enO z.heap.objs.size)) (z.heap.objs.size + 1) z.heap.objs.size 0 .none := by
    have hh := Heap.get?_push_size (z.heap.push (tuI t)) (o := enO z.heap.objs.size) rfl
    rw [sz] at hh; exact hh
  exact ⟨⟨_, en, rfl⟩, k _ en ⟨_, Heap.get?_push_of_some _ (Heap.get?_push_size _ rfl), rfl, rfl⟩ fun b o x => Heap.get?_push_of_some _ (Heap.get?_push_of_some _ x)⟩
theorem enumT_end {P : Program} {w : World} {A : Around} {E : Value → Shared → Prop} {z : Shared} {e it t : Addr} {i : Nat} {its : Array Value} {old : Value} {Q : Option Value → Shared → Prop} (hh : A.handled = none)
    (en : IsEnum z.heap e it i old) (ti : z.heap.IsTupleIter it t i) (T : z.heap.IsTuple t its) (hx : its[i]? = none) (k : ∀ h', Heap.ExtBut it z.heap h' → Q none { z with heap := h' }) : wpAny (model P w) A (pyNext (.ref e)) Q E z := by
  have ty : z.TypeIs (.ref e) "enumerate" := ⟨_, en, rfl⟩
  unfold pyNext
  refine wpAny_bind (wpAny_attempt (wpAny_callSpecial?_slot (name := Str.ofString "__next__") ty F.slot_enumerate_next (wpAny_call_entry F.slot_enumerate_next ty F.entry_enumerate_next ?_ (F.args_enumerate_next_1 _))))
  show wpAny _ _ (field (.ref e) 2 >>= _) _ _ _
  refine wpAny_bind (wpAny_field en rfl (x := .ref it) rfl (wpAny_bind (wpAny_nextOf_tuple_end hh ti T hx fun h' x q1 q2 => ?_)))
  obtain ⟨o, q3, q4⟩ := q2
  exact wpAny_bind (wpAny_isInstance (T := "StopIteration") (b := true) ⟨o, q3, q4⟩ isSubtype_stop (wpAny_pure (k _ q1)))
/-- the tuple at a, each item in a new pair -/
def Iet (K : Frag) (a : Addr) : It :=
  ⟨fun i H => ∃ (xs : List V) (x : V), SqT K H a xs ∧ xs[i]? = some x, fun i H v H' => ∃ T x, v = .ref T ∧ H T = none ∧ H' = upd H T (.tup [.int (i : Nat), x]) ∧ ∀ xs, SqT K H a xs → xs[i]? = some x, fun i H => ∃ xs : List V, SqT K H a xs ∧ xs.length ≤ i⟩
theorem turn_enumT {P : Program} {w : World} {K : Frag} {elts : List Expr} {kk : Nat} {tpos : Pos} (a e it : Addr) :
    Turn P w K (.Tuple elts kk tpos) (Iet K a) [e, it] e (fun i h => (∃ old, IsEnum h e it ((i : Nat) : Int) old) ∧ h.IsTupleIter it a i ∧ e ≠ it ∧ a ≠ it ∧ a ≠ e) where
  mem := List.mem_cons_self
  obj := fun i h st b hb => by
    obtain ⟨⟨old, he⟩, ⟨o, ho, _, hd⟩, _⟩ := st
    rcases (show b = e ∨ b = it by simpa using hb) with rfl | rfl
    · exact ⟨_, he, fun v q => nomatch q⟩
    · exact ⟨o, ho, fun v q => by rw [hd] at q; cases q⟩
  keep := fun i h h' st k => let ⟨⟨old, he⟩, hi, n1, n2⟩ := st; ⟨⟨old, k e List.mem_cons_self _ he⟩, hi.at fun o q => k it (by simp) o q, n1, n2⟩
  item := by
    intro X p1 p2 p3 hc i pins s σ H E I hf st hg
    subst p1 p2 p3
    obtain ⟨⟨old, he⟩, hit, hne, hat, hae⟩ := st
    obtain ⟨xs, x, hq, hx⟩ := hg
    obtain ⟨its, rv, p, hz⟩ := I.tuple hq
    obtain ⟨u, hu, ru⟩ := rv.get hx
    have hel : e < s.heap.objs.size := Heap.lt_size he
    have hil : it < s.heap.objs.size := by obtain ⟨_, q, _⟩ := hit; exact Heap.lt_size q
    have hlt : i < its.toArray.size := by have := (List.getElem?_eq_some_iff.mp hu).1; simpa using this
    have hfr := hf
    refine wpAny_pyNext_enum_itemD (Draws.tuple (A := X.A.in1) (show X.A.in1.handled = none from I.ok.hd hc) it a hat its.toArray) he ⟨hit, p⟩ hlt hne (by simp [hne, Ne.symm hae]) fun y h' tk hP ho hit' hT hsz hk => ?_
    have hy : y = u := by
      have : its.toArray[i]? = some y := hP
      rw [List.getElem?_toArray, hu] at this; exact (Option.some.inj this).symm
    subst hy
    refine ⟨_, rfl, wpAny_letOwnedTupleGo_enum (s := { s with heap := h', toks := tk + 1 }) ho fun h2 he2 sb => ?_⟩
    have hT2 : h2.get? s.heap.objs.size = some { cls := .type "tuple", data := .seq #[.int i tk, y] } := (sb.2 _ (Nat.ne_of_gt hel)).trans hT
    have new : ObjOk X.prog X.w (upd H s.heap.objs.size (.tup [.int (i : Nat), x])) h2 s.heap.objs.size (.tup [.int (i : Nat), x]) :=
      ⟨show 2 ≤ sizeLine by decide, [.int i tk, y], .cons ⟨_, rfl⟩ (.cons ru .nil), ⟨_, hT2, rfl, _, rfl⟩⟩
    have I1 : Inv X pins σ (upd H s.heap.objs.size (.tup [.int (i : Nat), x])) { s with heap := h2, toks := tk + 1 } :=
      I.turnedNew (ch := [e, it]) (fun b ob hb q => (sb.2 b fun z => hb (by rw [z]; exact List.mem_cons_self)).trans (hk b ob (fun z => hb (by rw [z]; exact List.mem_cons_self)) (fun z => hb (by simp [z])) q)) hf (Nat.le_refl _) new
    refine ⟨.ref s.heap.objs.size, _, I1, rfl, ⟨_, x, rfl, I.hok.fresh (Nat.le_refl _), rfl, fun ys hy => by rw [I.tuple_inj hy hq]; exact hx⟩, ⟨⟨y, ?_⟩, hit'.1.at fun o q => (sb.2 it (Ne.symm hne)).trans q, hne, hat, hae⟩, fun b hb => ?_⟩
    · rw [show ((i + 1 : Nat) : Int) = (i : Int) + 1 from rfl]; exact he2
    · have hb2 : b < s.heap.objs.size := by
        rcases (show b = e ∨ b = it by simpa using hb) with rfl | rfl
        · exact hel
        · exact hil
      rw [upd_ne (Nat.ne_of_lt hb2)]; exact (hf b hb).1
  done := by
    intro X p1 p2 p3 hc i pins s σ H E I hf st hg
    subst p1 p2 p3
    obtain ⟨⟨old, he⟩, hit, hne, hat, hae⟩ := st
    obtain ⟨xs, hq, hx⟩ := hg
    obtain ⟨its, rv, p, hz⟩ := I.tuple hq
    obtain ⟨f0, f1, f2, f3, f4, f5⟩ := hf it (by simp)
    have hl := rv.length
    exact enumT_end (I.ok.hd hc) he hit p (by rw [List.getElem?_toArray]; exact List.getElem?_eq_none (by omega)) fun h' eb => ⟨rfl, I.turned (t' := s.toks) (fun b o hb q => eb b o hb q) f0 f1 f3 f4 f5⟩
  self := fun A i s Q E st h => wpAny_pyIter_enum st.1.choose_spec h
def iEnumT (K : Frag) (ta : TA) : TI := fun σ H R => ta σ H fun vs H1 => ∃ a xs, vs = [.ref a] ∧ SqT K H1 a xs ∧ R (Iet K a) H1
theorem pi_enumT {X : Cx} {e : Expr} {ta : TA} {p pos tpos : Pos} {elts : List Expr} {kk : Nat} (hg : Gl X "enumerate") (hm : X.mg "enumerate" = none) (ha : PA X [e] ta) (hs : starEach [e] X.env = [(false, eval e X.env)] := by rfl) :
    PI X (.Tuple elts kk tpos) (.Call (.Name "enumerate" p) [e] [] pos) (iEnumT X.K ta) := by
  refine ⟨fun pins s σ H R I h => Call_ (ld_blt I hg hm boot_enumerate (PyProof.Rows.callWith_type1 (thn (ha.run pos pins s σ H _ I h) fun us s1 ⟨vs, H1, I1, r1, q1⟩ => ?_) hs rfl))⟩
  obtain ⟨a, xs, rfl, hq, q⟩ := q1
  cases r1 with
  | cons r rr =>
    cases rr
    cases r
    obtain ⟨its, rv, p', hz⟩ := I1.tuple hq
    have hal : a < s1.heap.objs.size := by obtain ⟨_, q, _⟩ := p'; exact Heap.lt_size q
    refine enumT_call p' fun h' he hit hk => wpAny_pyIter_enum he ?_
    have I2 : Inv X pins σ H1 { s1 with heap := h' } := I1.kept (t' := s1.toks) hk
    refine ⟨s1.heap.objs.size + 1, [s1.heap.objs.size + 1, s1.heap.objs.size], _, _, H1, rfl, I2, turn_enumT a (s1.heap.objs.size + 1) s1.heap.objs.size, ⟨⟨.none, he⟩, hit, Nat.succ_ne_self _, Nat.ne_of_lt hal, Nat.ne_of_lt (Nat.lt_succ_of_lt hal)⟩, fun b hb => ?_, q⟩
    have hle : s1.heap.objs.size ≤ b := by
      rcases (show b = s1.heap.objs.size + 1 ∨ b = s1.heap.objs.size by simpa using hb) with rfl | rfl <;> omega
    exact I1.fpOk hle (I1.hok.fresh hle)
def enD : Nat → List D → List D
  | _, [] => []
  | k, d :: ds => .tup [.int (k : Nat), d] :: enD (k + 1) ds
theorem enD_at : ∀ {ds : List D} {k i : Nat} {d : D}, (enD k ds)[i]? = some d → ∃ e, ds[i]? = some e ∧ d = .tup [.int ((k + i : Nat) : Int), e]
  | [], _, _, _, h => by simp [enD] at h
  | e :: ds, k, 0, d, h => by simp [enD] at h; exact ⟨e, rfl, h.symm⟩
  | e :: ds, k, i + 1, d, h => by
    obtain ⟨e', h1, h2⟩ := enD_at (ds := ds) (k := k + 1) (i := i) (d := d) (by simpa [enD] using h)
    exact ⟨e', h1, by rw [h2, show k + 1 + i = k + (i + 1) by omega]⟩
theorem enD_length : ∀ {ds : List D} {k : Nat}, (enD k ds).length = ds.length
  | [], _ => rfl
  | _ :: ds, k => congrArg (· + 1) (enD_length (ds := ds) (k := k + 1))
section
variable {X : Cx} {B : Bd} {S S1 S2 S3 : Nz.S} {e : Expr} {elts : List Expr} {kk : Nat} {tpos pos p : Pos} {xs : List D} {tg : Expr}
theorem src_enumT (h : Ea X B [e] S [.fr (.tup xs)] S1) (hg : Gl X "enumerate") (hm : X.mg "enumerate" = none) (hs : starEach [e] X.env = [(false, eval e X.env)] := by rfl) : Src X B (.Tuple elts kk tpos) (.Call (.Name "enumerate" p) [e] [] pos) S (enD 0 xs) S1 :=
  fun F α H σ R RR k => wI.of (pi_enumT hg hm pa_w hs) (h F α H σ _ RR fun F1 α1 v1 H1 R1 st1 r1 => by
    have r := CRels.fr (ds := [.tup xs]) r1
    cases r with
    | cons q rr =>
      cases rr
      cases q with
      | tup h1 h2 =>
        rename_i a vs
        refine ⟨a, vs, rfl, R1.sub.seqT h1, k F1 α1 H1 _ R1 st1 ⟨fun B F' α H σ S i d R' hs hi => ?_, fun B F' α H σ S i R' hs hi => ⟨vs, R'.sub.seqT (hs.seqT h1), by rw [← h2.length, ← enD_length (ds := xs) (k := 0)]; exact hi⟩⟩⟩
        obtain ⟨e', hi', rfl⟩ := enD_at hi
        obtain ⟨v, hv, rv⟩ := h2.get hi'
        refine ⟨⟨vs, v, R'.sub.seqT (hs.seqT h1), hv⟩, fun x H' y => ?_⟩
        obtain ⟨T, z, rfl, hT, rfl, y⟩ := y
        have := y vs (R'.sub.seqT (hs.seqT h1))
        rw [hv] at this; cases this
        refine ⟨upd F' T (.tup [.int (i : Nat), v]), R'.allocF hT, same_upd (R'.fresh hT), .tup (SqT.of upd_same) (.cons ?_ (.cons ((rv.mono hs).mono (same_upd (R'.fresh hT))) .nil))⟩
        rw [Nat.zero_add]; exact .int _)
end
end Nz
namespace Nz
open PySem PySem.Spec PyProof.Rows L2
def cntS (xs : List Str) : Nat → Nat
  | 0 => 0
  | i + 1 => if xs.getD i Str.empty ∈ xs.take i then cntS xs i else cntS xs i + 1
theorem cntS_le (xs : List Str) : ∀ i, cntS xs i ≤ i
  | 0 => Nat.le_refl _
  | i + 1 => by
    have := cntS_le xs i
    unfold cntS
    split <;> omega
theorem take_getD {xs : List Str} {i : Nat} (h : i < xs.length) : xs.take (i + 1) = xs.take i ++ [xs.getD i Str.empty] := by
  rw [List.take_succ, List.getElem?_eq_getElem h, List.getD_eq_getElem?_getD, List.getElem?_eq_getElem h]; rfl
theorem cntS_iff (xs : List Str) : ∀ i, i ≤ xs.length → (cntS xs i = i ↔ (xs.take i).Nodup)
  | 0, _ => by simp [cntS]
  | i + 1, h => by
    have ih := cntS_iff xs i (by omega)
    have hle := cntS_le xs i
    rw [take_getD h, List.nodup_append]
    unfold cntS
    by_cases hm : xs.getD i Str.empty ∈ xs.take i
    · rw [if_pos hm]
      refine ⟨fun e => by omega, fun e => ?_⟩
      exact absurd rfl (e.2.2 _ hm _ (List.mem_singleton.mpr rfl))
    · rw [if_neg hm]
      refine ⟨fun e => ⟨ih.mp (by omega), by simp, fun a ha b hb q => hm (by rw [List.mem_singleton.mp hb] at q; rw [← q]; exact ha)⟩, fun e => ?_⟩
      have := ih.mpr e.1
      omega
theorem cntS_nodup (xs : List Str) : cntS xs xs.length = xs.length ↔ xs.Nodup := by
  have := cntS_iff xs xs.length (Nat.le_refl _)
  rwa [List.take_length] at this
section
variable {P0 : Program} {w : World} {A : Around} {R : Result → Shared → Prop} {it : Addr} {fp wr : List Addr} {G : Array GenState → Array GenState → Prop} {n : Nat} {P : Nat → Value → Prop} {St : Nat → Shared → Prop}
theorem setS_loop (W : WalksS P0 w A.in1 it fp wr G n P St) (a : Addr) (ha : a ∉ fp) (xs : List Str) (hl : xs.length = n) (hn : n + 1 < scanBound) (hv : ∀ i v, P i v → ∃ t, v = .str (xs.getD i Str.empty) t) :
    ∀ (m i : Nat) (z : Shared), n - i = m → i ≤ n → St i z → z.heap.SetOf (PySem.strKind P0 w) a (fun y => decide (y ∈ xs.take i)) (cntS xs i) →
      (∀ z', Moved (a :: wr) G z z' → z'.heap.SetOf (PySem.strKind P0 w) a (fun y => decide (y ∈ xs.take n)) (cntS xs n) → R (.ok (.ret .none)) z') → codeAny (model P0 w) A (.builtin "set.update.loop" ⟨[.ref a, .ref it], []⟩) R z := by
  have hw : a ∉ wr := fun q => ha (W.sub _ q)
  have hs : ∀ b ∈ wr, b ∈ a :: wr := fun b q => List.mem_cons_of_mem _ q
  have same : ∀ {z z' : Shared} {S : Str → Bool} {c : Nat}, Moved wr G z z' → z.heap.SetOf (PySem.strKind P0 w) a S c → z'.heap.SetOf (PySem.strKind P0 w) a S c := fun mv q => by
    obtain ⟨o, es, ep, tb, ho, rest⟩ := q
    exact ⟨o, es, ep, tb, mv.heap a _ hw ho, rest⟩
  intro m
  induction m with
  | zero =>
    intro i z e1 e2 st S0 fin
    obtain rfl : i = n := by omega
    refine codeAny_builtin PyProof.Rows.F.entry_set_update_loop ?_
    rw [Around.under_plainId PyProof.Rows.F.plain_set_update_loop _]
    show wpAny _ A.in1 (pyNext (.ref it) >>= _) _ _ z
    exact wpAny_bind (W.done z _ _ st fun z' mv => wpAny_pure (fin z' (mv.mono hs) (same mv S0)))
  | succ m ih =>
    intro i z e1 e2 st S0 fin
    have e3 : i < n := by omega
    refine codeAny_builtin PyProof.Rows.F.entry_set_update_loop ?_
    rw [Around.under_plainId PyProof.Rows.F.plain_set_update_loop _]
    show wpAny _ A.in1 (pyNext (.ref it) >>= _) _ _ z
    refine wpAny_bind (W.item i z _ _ e3 st fun v z' hP st' mv => ?_)
    obtain ⟨t, rfl⟩ := hv i v hP
    have S1 := same mv S0
    show wpAny _ A.in1 (holding [Value.str (xs.getD i Str.empty) t] (setAdd a (.str (xs.getD i Str.empty) t)) >>= _) _ _ z'
    unfold setAdd
    refine wpAny_bind (wpAny_holding (wpAny_holding (wpAny_bind ((PySem.strKind P0 w).pyHash (k := xs.getD i Str.empty) (strKind_is _ _ _ _) ?_))))
    refine wpAny_setAddHashed_of (knd := PySem.strKind P0 w) (s := { z' with toks := z'.toks + 1 }) (strKind_is _ _ _ _) rfl S1 (by have := cntS_le xs i; omega) fun h2 sb S2 => ?_
    have S3 : h2.SetOf (PySem.strKind P0 w) a (fun y => decide (y ∈ xs.take (i + 1))) (cntS xs (i + 1)) := by
      refine SetOf_congr S2 (fun y => ?_) ?_
      · rw [take_getD (by omega)]
        by_cases q1 : y ∈ xs.take i
        · simp [q1]
        · by_cases q2 : y = xs.getD i Str.empty <;> simp [q1, q2]
      · show _ = if xs.getD i Str.empty ∈ xs.take i then cntS xs i else cntS xs i + 1
        by_cases q : xs.getD i Str.empty ∈ xs.take i <;> simp [q]
    have oth : ∀ b, b ≠ a → h2.get? b = z'.heap.get? b := fun b q => sb.2 b q
    refine wpAny_pure ⟨plainId_quiet PyProof.Rows.F.plain_set_update_loop _, ih (i + 1) _ (by omega) e3 (W.frame _ z' _ _ st' (Nat.le_succ _) fun b hb o e => by rw [oth b fun q => ha (q ▸ hb)]; exact e) S3 fun z2 mv2 S4 => ?_⟩
    exact fin z2 (Moved.trans W.gtrans ((mv.mono hs).then_heap (Nat.le_succ _) fun b o hb e => by rw [oth b fun q => hb (q ▸ List.mem_cons_self)]; exact e) mv2) S4
end
section
variable {P0 : Program} {w : World} {A : Around} {E : Value → Shared → Prop} {z : Shared}
def set0 (led : Bool) : Obj := { cls := .type "set", dict := none, data := .set #[] 0 (.fresh 0 0 led) }
set_option maxHeartbeats 3200000 in
theorem setS_call {a : Addr} {us : Array Value} {xs : List Str} {Q : Value → Shared → Prop} (hh : A.handled = none) (L : z.heap.IsList a us) (hi : PyProof.Rows.StrsAre us.toList xs) (hn : xs.length + 1 < scanBound)
    (k : ∀ (h' : Heap) (tk : Nat), h'.SetOf (PySem.strKind P0 w) z.heap.objs.size (fun y => decide (y ∈ xs)) (cntS xs xs.length) → (∀ b o, b < z.heap.objs.size → z.heap.get? b = some o → h'.get? b = some o) → Q (.ref z.heap.objs.size) { z with heap := h', toks := tk }) :
    wpAny (model P0 w) A (call (.type "set") [.ref a]) Q E z := by
  have m0 := PySem.F.called_set.mro
  obtain ⟨mc, mt, hmro⟩ := m0
  have hmade := PySem.F.called_set.made
  have hsub := PySem.F.called_set.sub
  refine wpAny_call (codeAny_of_tree ?_)
  show wpAny _ _ (callAny (.type "set") _) _ _ _
  refine wpAny_pure ⟨Code.quiet_builtin _ (by decide +kernel), codeAny_builtin PySem.F.entry_type_call ?_⟩
  rw [Around.under_plain (weight_type_call_type "set" [.ref a] []) rfl]
  have c1 := PySem.F.called_set.notType
  have c2 := PySem.F.called_set.canCreate
  have c3 := PySem.F.typeCall_set_1 (.ref a)
  repeat (any_goals (first | assumption | wp_step))
  refine codeAny_mono (code_set_new_1 (.ref a) (E := E) (Q₁ := fun o y => ∃ led : Bool, o = .ref z.heap.objs.size ∧ y = { z with heap := z.heap.push (set0 led) }) fun led => ⟨led, rfl, rfl⟩) fun r y hr => ?_
  cases r with
  | error e => exact hr
  | ok fl =>
    cases fl with
    | ret o =>
      obtain ⟨led, rfl, rfl⟩ := hr
      have g0 : (z.heap.push (set0 led)).get? z.heap.objs.size = some (set0 led) := Heap.get?_push_size _ rfl
      have t0 : Shared.TypeIs { z with heap := z.heap.push (set0 led) } (.ref z.heap.objs.size) "set" := ⟨_, g0, rfl⟩
      have l0 := PySem.F.called_set.init.lookup
      have b0 := PySem.F.called_set.init.bind (.ref z.heap.objs.size)
      repeat (any_goals (first | assumption | wp_step))
      refine codeAny_mono (codeAny_call_builtin (R := wants (fun r y => r = .none ∧ ∃ h' tk, y = { z with heap := h', toks := tk } ∧ h'.SetOf (PySem.strKind P0 w) z.heap.objs.size (fun y => decide (y ∈ xs)) (cntS xs xs.length) ∧
          (∀ b o, b < z.heap.objs.size → z.heap.get? b = some o → h'.get? b = some o)) E) PySem.F.called_set.init.plain PySem.F.entry_set_init (check_set_init_1 t0 ?_)) fun r2 y2 hr2 => ?_
      · obtain ⟨⟨oc, od, dt, ss⟩, e0, e1, kk, e2⟩ := L
        simp only at e1 e2
        subst e1 e2
        have e3 : (z.heap.push (set0 led)).get? a = some { cls := .type "list", dict := od, data := .seq us kk, slots := ss } := Heap.get?_push_of_some _ e0
        have s1 := PySem.F.sub_list_set
        have s2 := PySem.F.sub_list_frozenset
        have s3 : (Value.type "list" == Value.type "dict") = false := by decide
        have L1 : (z.heap.push (set0 led)).IsList a us := ⟨_, e3, rfl, kk, rfl⟩
        have hal : a < z.heap.objs.size := Heap.lt_size e0
        have h3 : A.in1.in1.in1.handled = none := by simp [hh]
        have sz : (z.heap.push (set0 led)).objs.size = z.heap.objs.size + 1 := Heap.size_push ..
        unfold Builtin.«set.__init__» noKeywords Builtin.Frozenset.updateFrom
        generalize hPI : pyIter = PI
        wp_walk
        subst hPI
        refine wpAny_pyIter_list L1 (wpAny_bind (wpAny_runValue ?_))
        have n1 : a ≠ (z.heap.push (set0 led)).objs.size := by rw [sz]; exact Nat.ne_of_lt (Nat.lt_succ_of_lt hal)
        have n2 : z.heap.objs.size ∉ [(z.heap.push (set0 led)).objs.size, a] := by
          rw [sz]
          intro q
          rcases List.mem_cons.mp q with q | q
          · exact absurd q (Nat.ne_of_lt (Nat.lt_succ_self _))
          · exact absurd (List.mem_singleton.mp q) (Nat.ne_of_gt hal)
        have hsz : xs.length = us.size := by rw [← StrsAre.len_eq hi, Array.length_toList]
        refine setS_loop ((Walks.list h3 _ a n1 us).toS) z.heap.objs.size n2 xs hsz (by rw [← hsz]; exact hn) (fun i v hv => SS.strs_at hi i v (by rw [Array.getElem?_toList]; exact hv)) (us.size - 0) 0 _ rfl (Nat.zero_le _) ⟨⟨_, Heap.get?_push_size _ rfl, rfl, rfl⟩, (L1.push _)⟩ ?_ ?_
        · have g1 : ((z.heap.push (set0 led)).push { cls := .type "list_iterator", data := .fields #[.ref a, .int 0 0] }).get? z.heap.objs.size = some (set0 led) := Heap.get?_push_of_some _ g0
          exact PyProof.Rows.SetOf_congr ((PyProof.Rows.setObjOf_fresh (knd := PySem.strKind P0 w) led).setOf g1 (by unfold scanBound; omega)) (fun _ => by simp) rfl
        · intro y' mv S'
          obtain ⟨h', g', d', tk', os'⟩ := y'
          obtain rfl : g' = z.gens := mv.gens
          obtain rfl : d' = z.drawn := mv.drawn
          obtain rfl : os' = z.os := mv.os
          show wpAny _ _ _ _ _ _
          refine wpAny_pure ?_
          show wpAny _ _ (ret Value.none) _ _ _
          rw [← hsz, List.take_length] at S'
          refine wpAny_pure ⟨rfl, h', tk', rfl, S', fun b o hb e => mv.heap b o (fun q => ?_) (Heap.get?_push_of_some _ (Heap.get?_push_of_some _ e))⟩
          rcases List.mem_cons.mp q with q | q
          · exact absurd q (Nat.ne_of_lt hb)
          · rw [List.mem_singleton.mp q, sz] at hb; exact absurd hb (by omega)
      · cases r2 with
        | error e => exact hr2
        | ok fl2 =>
          cases fl2 with
          | ret r =>
            obtain ⟨rfl, h', tk, rfl, S', k'⟩ := hr2
            repeat (any_goals (first | assumption | wp_step))
            exact k _ _ S' k'
          | _ => exact hr2.elim
    | _ => exact hr.elim
end
end Nz
namespace Nz
open PySem PySem.Spec PyProof.Rows L2
theorem Reps.strs_eq {K : Frag} {mg : Mg} {F : Hp} : ∀ {ns : List Str} {vs : List V}, Reps K mg F (ns.map D.str) vs → vs = ns.map V.str
  | [], _, .nil => rfl
  | _ :: _, _, .cons h r => by cases h; rw [Reps.strs_eq r]; rfl
section
variable {X : Cx} {B : Bd} {S S1 S2 S3 : Nz.S} {tg a b c e : Expr} {es elts : List Expr} {kk : Nat} {tpos pos p q p2 : Pos} {d : D} {ds : List D} {x : Str} {τ : Type} {enc : τ → D}
/-- len(set(e)) -/
theorem ev_lenSet {xs : List Str} (hc : X.calm = true) (hg : Gl X "len") (hm : X.mg "len" = none) (hg2 : Gl X "set") (hm2 : X.mg "set" = none) (hn : xs.length + 1 < scanBound) (ha : Ev X B a S (.fr (eL D.str xs)) S1)
    (na : starEach [a] X.env = (false, eval a X.env) :: starEach [] X.env := by rfl) : Ev X B (.Call (.Name "len" p) [.Call (.Name "set" p2) [a] [] q] [] pos) S (.fr (.int (cntS xs xs.length : Nat))) S1 := fun F α H σ Q R k pins s I => by
  refine Call_ (ld_blt I hg hm boot_len (PyProof.Rows.callWith_builtin1 (PyProof.Rows.args_cons (Call_ (ld_blt I hg2 hm2 boot_set (PyProof.Rows.callWith_type1 (PyProof.Rows.args_cons (thn (ha F α H σ (fun v H1 => ∃ F1 α1, RelX X B F1 α1 H1 σ S1 ∧ Stp F α S.L F1 α1 ∧ Rep X.K X.mg F1 (eL D.str xs) v) R
    (fun F1 α1 v1 H1 R1 st1 r1 => ⟨F1, α1, R1, st1, r1⟩) pins s I) fun v s1 ⟨y, H1, I1, rv, F1, α1, R1, st1, r1⟩ => PyProof.Rows.args_nil ?_) na) na rfl))) rfl) rfl rfl))
  cases r1 with
  | lst h1 h2 =>
    cases rv
    have hq := R1.sub.seq h1
    rw [Reps.strs_eq h2] at hq
    obtain ⟨its, r, pl, hz⟩ := I1.list hq
    refine setS_call (I1.ok.hd hc) pl.isList (by simpa using strsAre_of r) hn fun h' tk S' hk => PyProof.Rows.args_nil ?_
    obtain ⟨o, es', ep, t, ho, hex, hd, _, _, _, hf, hn'⟩ := S'
    have I2 : Inv X pins σ H1 { s1 with heap := h', toks := tk } := I1.kept fun b o e => hk b o (Heap.lt_size e) e
    have hle := cntS_le xs xs.length
    have hb : scanBound ≤ 2 ^ 62 := by unfold scanBound; decide
    exact call_len_set ho hex hd hf (by rw [hn'] <;> omega) ⟨.int (cntS xs xs.length : Nat), H1, I2.tok _, ⟨_, by rw [hn']⟩, k F1 α1 _ H1 R1 st1 (.int _)⟩
def chs (z : Str) : List Str := z.cps.toList.map fun c => ⟨#[c]⟩
theorem src_str {z : Str} (h : Ev X B e S (.fr (.str z)) S1) : Src X B tg e S ((chs z).map D.str) S1 := fun F α H σ R RR k => wI.of (pi_str pe_w) (h F α H σ _ RR fun F1 α1 v1 H1 R1 st1 r1 => by
  cases (show Rep X.K X.mg F1 (.str z) v1 from r1) with
  | str =>
    have hlen : ((chs z).map D.str).length = z.cps.size := by simp [chs]
    refine ⟨z, rfl, k F1 α1 H1 _ R1 st1 ⟨fun B F' α H σ S i d R' hs hi => ?_, fun B F' α H σ S i R' hs hi => by rw [hlen] at hi; exact hi⟩⟩
    have hi2 := (List.getElem?_eq_some_iff.mp hi).1
    rw [hlen] at hi2
    refine ⟨hi2, fun x H' y => ?_⟩
    obtain ⟨rfl, c, hc, rfl⟩ := y
    refine ⟨F', R', Same.refl _, ?_⟩
    have e1 : ((chs z).map D.str)[i]? = some (.str ⟨#[c]⟩) := by
      rw [List.getElem?_map]
      unfold chs
      rw [List.getElem?_map, Array.getElem?_toList, hc]; rfl
    rw [e1] at hi
    cases hi
    exact .str _)
def inS (i j : Str) : Bool := !(Builtin.Str.occurrences j i 0 j.length 1).isEmpty
theorem o_inS {i j : Str} : Op2 X (compareOp .In) (.str i) (.str j) (.bl (inS i j)) :=
  .pure (v := .bl (inS i j)) op_in_str (fun _ => .bl _) fun F H Q x y _ rx ry q => by cases rx; cases ry; exact ⟨i, j, rfl, rfl, q⟩
def enL : Nat → List τ → List (Int × τ)
  | _, [] => []
  | k, x :: xs => ((k : Int), x) :: enL (k + 1) xs
theorem enD_map {xs : List τ} : ∀ {k : Nat}, enD k (xs.map enc) = (enL k xs).map (eT2 D.int enc) := by
  induction xs with
  | nil => intro k; rfl
  | cons x r ih => intro k; show _ :: _ = _ :: _; rw [ih]
theorem src_enumU {xs : List τ} (h : Ea X B [e] S [.fr (eU enc xs)] S1) (hg : Gl X "enumerate") (hm : X.mg "enumerate" = none) (hs : starEach [e] X.env = [(false, eval e X.env)] := by rfl) :
    Src X B (.Tuple elts kk tpos) (.Call (.Name "enumerate" p) [e] [] pos) S ((enL 0 xs).map (eT2 D.int enc)) S1 := by
  rw [← enD_map]; exact src_enumT h hg hm hs
theorem src_enum {xs : List D} (h : Ea X B [e] S [.fr (.lst xs)] S1) (hg : Gl X "enumerate") (hm : X.mg "enumerate" = none) (hs : starEach [e] X.env = [(false, eval e X.env)] := by rfl) : Src X B (.Tuple elts kk tpos) (.Call (.Name "enumerate" p) [e] [] pos) S (enD 0 xs) S1 :=
  fun F α H σ R RR k => wI.of (pi_enum hg hm pa_w hs) (h F α H σ _ RR fun F1 α1 v1 H1 R1 st1 r1 => by
    have r := CRels.fr (ds := [.lst xs]) r1
    cases r with
    | cons q rr =>
      cases rr
      cases q with
      | lst h1 h2 =>
        rename_i a vs
        refine ⟨a, vs, rfl, R1.sub.seq h1, k F1 α1 H1 _ R1 st1 ⟨fun B F' α H σ S i d R' hs hi => ?_, fun B F' α H σ S i R' hs hi => ⟨vs, R'.sub.seq (hs.seq h1), by rw [← h2.length, ← enD_length (ds := xs) (k := 0)]; exact hi⟩⟩⟩
        obtain ⟨e', hi', rfl⟩ := enD_at hi
        obtain ⟨v, hv, rv⟩ := h2.get hi'
        refine ⟨⟨vs, v, R'.sub.seq (hs.seq h1), hv⟩, fun x H' y => ?_⟩
        obtain ⟨T, z, rfl, hT, rfl, y⟩ := y
        have := y vs (R'.sub.seq (hs.seq h1))
        rw [hv] at this; cases this
        refine ⟨upd F' T (.tup [.int (i : Nat), v]), R'.allocF hT, same_upd (R'.fresh hT), .tup (SqT.of upd_same) (.cons ?_ (.cons ((rv.mono hs).mono (same_upd (R'.fresh hT))) .nil))⟩
        rw [Nat.zero_add]; exact .int _)
theorem src_enumL {xs : List τ} (h : Ea X B [e] S [.fr (eL enc xs)] S1) (hg : Gl X "enumerate") (hm : X.mg "enumerate" = none) (hs : starEach [e] X.env = [(false, eval e X.env)] := by rfl) :
    Src X B (.Tuple elts kk tpos) (.Call (.Name "enumerate" p) [e] [] pos) S ((enL 0 xs).map (eT2 D.int enc)) S1 := by
  rw [← enD_map]; exact src_enum h hg hm hs
end
end Nz
namespace Nz
open PySem PySem.Spec PyProof.Rows L2
def wK (X : Cx) (kws : List Keyword) (σ : L2.St) (H : Hp) (Q : List V → Hp → Prop) : Prop :=
  ∀ pos pins s, Inv X pins σ H s → wpAny (model X.prog X.w) X.A (evalAll ((backToKw pos (keywordEach kws X.env)).map (·.2))) (AP X pins σ Q) X.xe s
theorem pk_w {X : Cx} {kws : List Keyword} : PK X kws (wK X kws) := ⟨fun pos pins s σ H Q I h => h pos pins s I⟩
theorem wK.of {X : Cx} {kws : List Keyword} {t : TA} (h : PK X kws t) {σ : L2.St} {H : Hp} {Q : List V → Hp → Prop} (q : t σ H Q) : wK X kws σ H Q := fun pos pins s I => h.run pos pins s σ H Q I q
def Ek (X : Cx) (B : Bd) (kws : List Keyword) (S : S) (ds : List D) (S' : Nz.S) : Prop :=
  ∀ F α H σ Q, RelX X B F α H σ S → (∀ F' α' vs H', RelX X B F' α' H' σ S' → Stp F α S.L F' α' → Reps X.K X.mg F' ds vs → Q vs H') → wK X kws σ H Q
section
variable {X : Cx} {B : Bd} {S S1 S2 S3 : Nz.S} {a e : Expr} {es : List Expr} {kws : List Keyword} {pos p kpos : Pos} {d : D} {ds es' : List D} {c nm : Str} {fs : List (Str × D)} {C g : Addr} {fd : FuncData} {ps ks : List Str} {k n : Nat} {sp : SpN}
theorem ek_nil : Ek X B [] S [] S := fun F α H σ Q R k => wK.of pk_nil (k F α [] H R Stp.refl .nil)
theorem ek_cons (ha : Ev X B e S (.fr d) S1) (hr : Ek X B kws S1 ds S2) (h1 : Sub S.L S1.L := by exact Sub.refl) : Ek X B (⟨nm, e, kpos⟩ :: kws) S (d :: ds) S2 := fun F α H σ Q R k => wK.of (pk_cons pe_w pk_w) (ha F α H σ _ R fun F1 α1 v1 H1 R1 st1 r1 =>
  hr F1 α1 H1 σ _ R1 fun F2 α2 vs H2 R2 st2 r2 => k F2 α2 _ H2 R2 (st1.trans st2 h1) (.cons (Rep.mono st2.fro r1) r2))
/-- every parameter given: n values, then keywords by name in the def's order -/
theorem kbn_all {K : Frag} (h : ∀ us ws : List Value, us.length = n → ws.length = ks.length → bindArgs fd ⟨us, ks.zip ws⟩ = pure (ps.zip (us ++ ws))) : KBn K fd ps n ks (fun us ws => us ++ ws) (fun vs zs => vs ++ zs) :=
  ⟨fun s us ws _ l1 l2 => .of_eq (h us ws l1 l2), fun r1 r2 => r1.append r2⟩
/-- C(e, .., k = v, ..) -/
theorem ev_makeK (hm : X.mg c = some (.ref C)) (M : Mk X.K C g) (F : FnOk X.prog X.w X.K X.mg X.base CX0 k g fd ps (SpOf X.K X.mg sp)) (hr : Room (k + 1) X.A) (hb : KBn X.K fd ps (n + 1) ks (fun us ws => us ++ ws) (fun vs zs => vs ++ zs)) (ha : Ea X B (e :: es) S (ds.map Ce.fr) S1) (hk : Ek X B kws S1 es' S2)
    (l1 : ds.length = n) (l2 : es'.length = ks.length)
    (hs : ∀ Kc : Ce → List (Nat × LO) → Prop, Kc (.fr .non) [(0, .ins c (fs.map fun p => (p.1, Ce.fr p.2)))] → sp (.ad 0 :: (ds ++ es').map Ce.fr) [(0, .ins c [])] Kc) (hg : Gl X c) (h1 : Sub S.L S1.L := by exact Sub.refl) (h2 : Sub S1.L S2.L := by exact Sub.refl) (hdb : (c == ("__debug__" : Str)) = false := by decide)
    (hall : (backToKw pos (keywordEach kws X.env)).all (·.1.isSome) = true := by rfl) (hks : (backToKw pos (keywordEach kws X.env)).filterMap (·.1) = ks := by rfl)
    (he : starEach (e :: es) X.env = (false, eval e X.env) :: starEach es X.env := by rfl) (hpl : ((backTo pos (starEach (e :: es) X.env)).any (·.1) || (backToKw pos (keywordEach kws X.env)).any (·.1.isNone)) = false := by rfl) : Ev X B (.Call (.Name c p) (e :: es) kws pos) S (.fr (.obj c fs)) S2 :=
  fun F0 α H σ Q R k => wE.of (pe_makeK M F hr hg hm hb pass0 pa_w pk_w hall hks hdb he hpl) (ha F0 α H σ _ R fun F1 α1 vs H1 R1 st1 r1 => hk F1 α1 H1 σ _ R1 fun F2 α2 zs H2 R2 st2 r2 => by
    have rr := Reps.append ((CRels.fr r1).mono st2.fro) r2
    have lv : vs.length = n := by rw [← (CRels.fr r1).length]; exact l1
    have lz : zs.length = ks.length := by rw [← r2.length]; exact l2
    exact ⟨lv, lz, fun y dy hy hdy hne => init_call R2 hy hdy hne hm rr hs fun F' H' R' st' r' => k F' α2 _ H' R' ((st1.trans st2 h1).trans ⟨st', fun _ _ => rfl⟩ fun n h => h2 n (h1 n h)) r'⟩)
end
end Nz
namespace Nz
open PySem PySem.Spec PyProof.Rows L2
section
variable {X : Cx} {B : Bd} {S S1 S2 S3 : Nz.S} {tg a b c e o : Expr} {pos apos p q p2 : Pos} {d : D} {ds : List D} {x : Str}
/-- the sign at a place -/
def chA (z : Str) (i : Int) : Str := ⟨#[z.cps.toList.getD i.toNat 0]⟩
theorem ev_ixS {z : Str} {i : Int} (ha : Ev X B a S (.fr (.str z)) S1) (hb : Ev X B b S1 (.fr (.int i)) S2) (hz : z.length ≤ sizeLine) (h0 : 0 ≤ i) (h1 : i < z.length) (hs : PlainIx b := by exact fun _ _ => rfl) (g1 : Sub S.L S1.L := by exact Sub.refl) (g2 : Sub S1.L S2.L := by exact Sub.refl) :
    Ev X B (.Subscript a b pos) S (.fr (.str (chA z i))) S2 :=
  fun F α H σ Q R k => wE.of (pe_ix ix_str pe_w pe_w hs) (ha F α H σ _ R fun F1 α1 v1 H1 R1 st1 r1 => hb F1 α1 H1 σ _ R1 fun F2 α2 v2 H2 R2 st2 r2 => by
    cases r1
    cases r2
    obtain ⟨n, rfl⟩ := Int.eq_ofNat_of_zero_le h0
    have hn : n < z.cps.toList.length := by rw [Array.length_toList]; have : z.length = z.cps.size := rfl; omega
    refine ⟨z, (n : Int), z.cps.toList.getD n 0, rfl, rfl, hz, atI_nat (by rw [List.getD_eq_getElem?_getD, List.getElem?_eq_getElem hn]; rfl), k F2 α2 _ H2 R2 (st1.trans st2 g1) (.str _)⟩)
end
end Nz
namespace Nz
open PySem PySem.Spec PyProof.Rows L2
section
variable {X : Cx} {B : Bd} {S S1 S2 : Nz.S} {a e o : Expr} {es : List Expr} {pos apos p q : Pos} {d d1 : D} {ds : List D} {c f m x : Str} {C g pr : Addr} {fd : FuncData} {ps : List Str} {k : Nat} {sp : SpN} {f : Addr}
/-- f(e, .., k = v, ..) -/
theorem ev_callKw {kws : List Keyword} {es' : List D} {ks : List Str} {n : Nat} (F : FnOk X.prog X.w X.K X.mg X.base CX0 k f fd ps (SpOf X.K X.mg sp)) (hr : Room k X.A) (hm : X.mg x = some (.ref f)) (hkp : PySem.W.keepIn X.K (.ref f) = true) (hb : KBn X.K fd ps n ks (fun us ws => us ++ ws) (fun vs zs => vs ++ zs))
    (ha : Ea X B (e :: es) S (ds.map Ce.fr) S1) (hk : Ek X B kws S1 es' S2) (l1 : ds.length = n) (l2 : es'.length = ks.length)
    (hs : ∀ Kc : Ce → List (Nat × LO) → Prop, (∀ L', Kc (.fr d) L') → sp ((ds ++ es').map Ce.fr) [] Kc) (hg : Gl X x) (h1 : Sub S.L S1.L := by exact Sub.refl) (h2 : Sub S1.L S2.L := by exact Sub.refl) (hdb : (x == ("__debug__" : Str)) = false := by decide)
    (hall : (backToKw pos (keywordEach kws X.env)).all (·.1.isSome) = true := by rfl) (hks : (backToKw pos (keywordEach kws X.env)).filterMap (·.1) = ks := by rfl)
    (he : starEach (e :: es) X.env = (false, eval e X.env) :: starEach es X.env := by rfl) (hpl : ((backTo pos (starEach (e :: es) X.env)).any (·.1) || (backToKw pos (keywordEach kws X.env)).any (·.1.isNone)) = false := by rfl) : Ev X B (.Call (.Name x p) (e :: es) kws pos) S (.fr d) S2 :=
  fun F0 α H σ Q R k => wE.of (pe_callN F hr hg hm hkp hb pass0 pa_w pk_w hall hks hdb he hpl) (ha F0 α H σ _ R fun F1 α1 vs H1 R1 st1 r1 => hk F1 α1 H1 σ _ R1 fun F2 α2 zs H2 R2 st2 r2 => by
    have rr := Reps.append ((CRels.fr r1).mono st2.fro) r2
    have lv : vs.length = n := by rw [← (CRels.fr r1).length]; exact l1
    have lz : zs.length = ks.length := by rw [← r2.length]; exact l2
    exact ⟨lv, lz, F2, α2, [], _, fun _ => False, R2.call0 rr, hs _ fun L' F' α' v H' ρ' σ' R' r' => k F' α2 v H' (R2.back0 R') ((st1.trans st2 h1).trans ⟨R'.bF, fun _ _ => rfl⟩ fun n h => h2 n (h1 n h)) r'⟩)
end
end Nz
namespace Nz
open PySem PySem.Spec PyProof.Rows L2
section
variable {X : Cx} {B : Bd} {S S1 : Nz.S} {a : Expr} {τ : Type} {enc : τ → D}
/-- zip of two lists -/
theorem src_zip {μ : Type} {encB : μ → D} {xs : List τ} {ys : List μ} {e e2 : Expr} {elts : List Expr} {kk : Nat} {tpos pos p : Pos} (h : Ea X B [e, e2] S [.fr (eL enc xs), .fr (eL encB ys)] S1) (hg : Gl X "zip") (hm : X.mg "zip" = none)
    (hs : starEach [e, e2] X.env = (false, eval e X.env) :: starEach [e2] X.env := by rfl) (hpl : (backTo pos (starEach [e2] X.env)).any (·.1) = false := by rfl) :
    Src X B (.Tuple elts kk tpos) (.Call (.Name "zip" p) [e, e2] [] pos) S ((xs.zip ys).map (eT2 enc encB)) S1 :=
  fun F α H σ R RR k => wI.of (pi_zip hg hm pa_w hs hpl) (h F α H σ _ RR fun F1 α1 v1 H1 R1 st1 r1 => by
    have r := CRels.fr (ds := [eL enc xs, eL encB ys]) r1
    cases r with
    | cons q rr =>
      cases rr with
      | cons q2 rr2 =>
        cases rr2
        cases q with
        | lst h1 h2 =>
          rename_i a vs
          cases q2 with
          | lst g1 g2 =>
            rename_i b us
            have hlen : ((xs.zip ys).map (eT2 enc encB)).length = min vs.length us.length := by
              rw [List.length_map, List.length_zip, ← h2.length, ← g2.length, List.length_map, List.length_map]
            refine ⟨a, b, vs, us, rfl, R1.sub.seq h1, R1.sub.seq g1, k F1 α1 H1 _ R1 st1 ⟨fun B F' α H σ S i d R' hs hi => ?_, fun B F' α H σ S i R' hs hi => ⟨vs, us, R'.sub.seq (hs.seq h1), R'.sub.seq (hs.seq g1), by rw [hlen] at hi; omega⟩⟩⟩
            rw [List.getElem?_map] at hi
            cases hz : (xs.zip ys)[i]? with
            | none => rw [hz] at hi; cases hi
            | some pr =>
              rw [hz] at hi
              have hd : d = eT2 enc encB pr := (Option.some.inj hi).symm
              obtain ⟨z1, z2⟩ := List.getElem?_zip_eq_some.mp hz
              obtain ⟨v, hv, rv⟩ := h2.get (show (xs.map enc)[i]? = some (enc pr.1) by rw [List.getElem?_map, z1]; rfl)
              obtain ⟨u, hu, ru⟩ := g2.get (show (ys.map encB)[i]? = some (encB pr.2) by rw [List.getElem?_map, z2]; rfl)
              refine ⟨⟨vs, us, v, u, R'.sub.seq (hs.seq h1), R'.sub.seq (hs.seq g1), hv, hu⟩, fun x H' y => ?_⟩
              obtain ⟨T, x1, y1, rfl, hT, rfl, y2, y3⟩ := y
              have e1 := y2 vs (R'.sub.seq (hs.seq h1))
              have e2 := y3 us (R'.sub.seq (hs.seq g1))
              rw [hv] at e1; rw [hu] at e2; cases e1; cases e2
              subst hd
              exact ⟨upd F' T (.tup [v, u]), R'.allocF hT, same_upd (R'.fresh hT), .tup (SqT.of upd_same) (.cons ((rv.mono hs).mono (same_upd (R'.fresh hT))) (.cons ((ru.mono hs).mono (same_upd (R'.fresh hT))) .nil))⟩)
end
end Nz
namespace Nz
theorem some_of {τ : Type} {y : Option τ} (h : ¬ (y.isNone = true)) : y.isSome = true := by
  cases y with
  | none => exact absurd rfl h
  | some z => rfl
theorem some_of2 {τ : Type} {y : Option τ} (h : ¬ ¬ ¬ (y.isNone = true)) : y.isSome = true := some_of fun z => h fun w => w z
end Nz
namespace Nz
end Nz
namespace Nz
open PySem PySem.Spec PyProof.Rows L2
end Nz
namespace Nz
open PySem PySem.Spec PyProof.Rows L2
section
variable {K : Frag} {mg : Mg} {B : Bd} {F : Hp} {α : Nat → Addr} {H : Hp} {σ : L2.St} {S : Nz.S}
theorem Rel.adopt (R : Rel K mg B F α H σ S) {p : Addr} {m : Nat} {xs : List D} {vs : List V} (hm : m ∉ names S.L) (h100 : 100 ≤ m) (f0 : F p = none) (f1 : B.H0 p = none ∨ B.fp p) (e : H p = some (.lst vs)) (r : Reps K mg F xs vs) (ne : ∀ k, k ∈ names S.L → α k ≠ p) :
    Rel K mg B F (setα α m p) H σ ⟨S.ρ, S.L ++ [(m, .fl xs)]⟩ := by
  have st : Stp F α S.L F (setα α m p) := stp_setα hm
  have hsub : ∀ k, k ∈ names S.L → k ∈ names (S.L ++ [(m, LO.fl xs)]) := fun k hk => by rw [names_append]; exact List.mem_append_left _ hk
  have hself : setα α m p m = p := by unfold setα; rw [if_pos rfl]
  refine ⟨R.sub, R.bF, R.nF, R.frame, ?_, ?_, ?_, R.slots.step st hsub, fun k a e' hk => ?_⟩
  · rw [names_append]
    exact List.nodup_append.mpr ⟨R.nd, by simp, fun a ha b hb => by
      have : b = m := by simpa using hb
      subst this
      exact fun q => hm (q ▸ ha)⟩
  · intro a b ha hb e'
    rw [names_append] at ha hb
    rcases List.mem_append.mp ha with ha' | ha' <;> rcases List.mem_append.mp hb with hb' | hb'
    · rw [st.nm a ha', st.nm b hb'] at e'; exact R.inj a b ha' hb' e'
    · have h2 : b = m := by simpa using hb'
      rw [h2, hself, st.nm a ha'] at e'
      exact absurd e' (ne a ha')
    · have h2 : a = m := by simpa using ha'
      rw [h2, hself, st.nm b hb'] at e'
      exact absurd e'.symm (ne b hb')
    · have h1 : a = m := by simpa using ha'
      have h2 : b = m := by simpa using hb'
      rw [h1, h2]
  · intro k o' hk
    rcases List.mem_append.mp hk with hk | hk
    · obtain ⟨h1, h2, h3⟩ := R.live k o' hk
      have e' : setα α m p k = α k := st.nm k (mem_names hk)
      rw [e']
      exact ⟨h1, h2, h3.step st hsub (fun _ _ z => z) fun b w' z => .inl z⟩
    · have e' : (k, o') = (m, LO.fl xs) := by simpa using hk
      cases e'
      rw [hself]
      exact ⟨f0, f1, vs, e, r⟩
  · have hk : k ∈ names (S.L ++ [(m, LO.fl xs)]) := hk
    rw [names_append] at hk
    rcases List.mem_append.mp hk with hk | hk
    · rw [st.nm k hk]; exact R.fix k a e' hk
    · have : k = m := by simpa using hk
      rw [this, B.hpa m h100] at e'; cases e'
end
section
variable {X : Cx} {B : Bd} {S S1 S2 : Nz.S} {a b e o : Expr} {es : List Expr} {pos apos p q : Pos} {d d1 : D} {ds xs : List D} {x : Str} {fd : FuncData} {ps : List Str} {k : Nat} {sp : SpN} {f : Addr}
/-- f(e, ..) that hands back a new list that lives -/
theorem ev_callNew (m : Nat) (F : FnOk X.prog X.w X.K X.mg X.base CX0 k f fd ps (SpOf X.K X.mg sp)) (hr : Room k X.A) (hm : X.mg x = some (.ref f)) (hk : PySem.W.keepIn X.K (.ref f) = true) (hb : Binds X.K fd ps [])
    (ha : Ea X B (e :: es) S (ds.map Ce.fr) S1) (hn : m ∉ names S1.L) (h100 : 100 ≤ m) (hs : ∀ Kc : Ce → List (Nat × LO) → Prop, (∀ n L', getL n L' = some (.fl xs) → Kc (.ad n) L') → sp (ds.map Ce.fr) [] Kc) (hg : Gl X x) (h1 : Sub S.L S1.L := by exact Sub.refl) (hdb : (x == ("__debug__" : Str)) = false := by decide)
    (he : starEach (e :: es) X.env = (false, eval e X.env) :: starEach es X.env := by rfl) (hpl : (backTo pos (starEach es X.env)).any (·.1) = false := by rfl) : Ev X B (.Call (.Name x p) (e :: es) [] pos) S (.ad m) ⟨S1.ρ, S1.L ++ [(m, .fl xs)]⟩ :=
  fun F0 α H σ Q R k => wE.of (pe_call F hr hg hm hk hb .nil pass0 pa_w hdb he hpl) (ha F0 α H σ _ R fun F1 α1 vs H1 R1 st1 r1 => by
    rw [List.append_nil]
    refine ⟨F1, α1, [], _, fun _ => False, R1.call0 (CRels.fr r1), hs _ fun n L' h0 F' α' v H' ρ' σ' R' r' => ?_⟩
    obtain ⟨hnm, rfl⟩ := r'
    obtain ⟨g0, g1, us, hu, ru⟩ := R'.live n _ (getL_mem h0)
    have g1 : H1 (α' n) = none := g1.elim id fun z => z.elim
    have Rb := R1.back0 R'
    have ne : ∀ k, k ∈ names S1.L → α1 k ≠ α' n := fun k hk q => by
      obtain ⟨⟨k', o'⟩, h1, h2⟩ := List.mem_map.mp hk
      cases h2
      obtain ⟨w', hw⟩ := (R1.live _ _ h1).2.2.is
      rw [q, g1] at hw; cases hw
    have hB : B.H0 (α' n) = none ∨ B.fp (α' n) := by
      by_cases z : B.fp (α' n)
      · exact .inr z
      · refine .inl ?_
        cases q : B.H0 (α' n) with
        | none => rfl
        | some w' => rw [R1.frame _ w' q z] at g1; cases g1
    have Ra := Rb.adopt (m := m) hn h100 g0 hB hu ru ne
    have self : setα α1 m (α' n) m = α' n := by unfold setα; rw [if_pos rfl]
    refine k F' (setα α1 m (α' n)) _ H' Ra ((st1.trans ⟨R'.bF, fun _ _ => rfl⟩ h1).trans (stp_setα hn) h1) ⟨?_, by rw [self]⟩
    rw [names_append]; exact List.mem_append_right _ (List.mem_singleton.mpr rfl))
/-- .. that is frozen at once -/
theorem ev_callNewF (m : Nat) (F : FnOk X.prog X.w X.K X.mg X.base CX0 k f fd ps (SpOf X.K X.mg sp)) (hr : Room k X.A) (hm : X.mg x = some (.ref f)) (hk : PySem.W.keepIn X.K (.ref f) = true) (hb : Binds X.K fd ps [])
    (ha : Ea X B (e :: es) S (ds.map Ce.fr) S1) (hn : m ∉ names S1.L) (h100 : 100 ≤ m) (hs : ∀ Kc : Ce → List (Nat × LO) → Prop, (∀ n L', getL n L' = some (.fl xs) → Kc (.ad n) L') → sp (ds.map Ce.fr) [] Kc) (hg : Gl X x) (hfr : frS m (.lst xs) ⟨S1.ρ, S1.L ++ [(m, .fl xs)]⟩ = S1 := by rfl) (h1 : Sub S.L S1.L := by exact Sub.refl) (hdb : (x == ("__debug__" : Str)) = false := by decide)
    (he : starEach (e :: es) X.env = (false, eval e X.env) :: starEach es X.env := by rfl) (hpl : (backTo pos (starEach es X.env)).any (·.1) = false := by rfl) : Ev X B (.Call (.Name x p) (e :: es) [] pos) S (.fr (.lst xs)) S1 := by
  have h := ev_freeze m (ev_callNew (p := p) (pos := pos) m F hr hm hk hb ha hn h100 hs hg h1 hdb he hpl) (getL_app hn)
  rw [hfr] at h
  have e1 : frC m (.lst xs) (.ad m) = .fr (.lst xs) := by show (if m = m then _ else _) = _; rw [if_pos rfl]
  rwa [e1] at h
/-- xs[i] = v, the list lives -/
theorem ex_setI {K : Out → Prop} (n : Nat) {i : Int} (he : Ev X B e S (.fr d) S1) (ho : Ev X B o S1 (.ad n) S1) (hi : Ev X B a S1 (.fr (.int i)) S1) (hl : getL n S1.L = some (.fl xs)) (h0 : 0 ≤ i) (h1 : i < xs.length)
    (k : K (.nx ⟨S1.ρ, setL n (.fl (xs.set i.toNat d)) S1.L⟩)) (hs : swapsWithSole [.Subscript o a p] e pos.line X.env = pure false := by rfl) (hw : swappedStores [.Subscript o a p] e X.env = pure none := by rfl)
    (h2 : (assignEach [.Subscript o a p] X.env).map (·.2) = [assign (.Subscript o a p) X.env] := by rfl)
    (hsub : ∀ v, assign (.Subscript o a p) X.env v = (do
      let ov ← holding [v] (eval o X.env)
      let iv ← holding [v, ov] (eval a X.env)
      standAt p
      holding [v, ov, iv] (setItem ov iv v)
      release [v, ov, iv] []) := by intro _; rfl) : Ex X B (.Assign [.Subscript o a p] e pos) S K :=
  fun F α H σ D R oo => wS.of (ps_asg pe_w (pg_sub pe_w pe_w set_list hsub) hs hw h2) (he F α H σ _ R fun F1 α1 v1 H1 R1 st1 r1 => ho F1 α1 H1 σ _ R1 fun F2 α2 v2 H2 R2 st2 r2 => hi F2 α2 H2 σ _ R2 fun F3 α3 v3 H3 R3 st3 r3 => by
    obtain ⟨hn1, rfl⟩ := r2
    cases r3
    have hmm := getL_mem hl
    obtain ⟨f0, f1, vs, e1, rs⟩ := R3.live n _ hmm
    have en : α3 n = α2 n := st3.nm n hn1
    refine ⟨α2 n, vs, i, i.toNat, rfl, rfl, by rw [← en]; exact e1, by unfold ixN; rw [if_pos h0, ← rs.length, if_pos h1], ?_⟩
    have Rp := R3.put (n := n) (u := .fl (xs.set i.toNat d)) (o' := .lst (vs.set i.toNat v1)) hmm ⟨vs.set i.toNat v1, upd_same, rs.set i.toNat (Rep.mono (st2.fro.trans st3.fro) r1)⟩
    rw [en] at Rp
    exact oo.nx _ F3 α3 _ σ k Rp (st1.fro.trans (st2.fro.trans st3.fro)))
/-- [e, ..] * n -/
theorem Reps.rep {K : Frag} {mg : Mg} {F : Hp} {ds : List D} {vs : List V} (h : Reps K mg F ds vs) : ∀ n : Nat, Reps K mg F (List.replicate n ds).flatten (List.replicate n vs).flatten
  | 0 => .nil
  | n + 1 => by
    rw [List.replicate_succ, List.flatten_cons, List.replicate_succ, List.flatten_cons]
    exact h.append (Reps.rep h n)
end
section
variable {X : Cx} {B : Bd} {S S1 : Nz.S} {elt tg iter : Expr} {ifs : List Expr} {scope : Scope} {own : List (Str × Nat)} {pos : Pos}
theorem lc_readingL {τ : Type} (nD : Nat) {ys : List τ} {enc : τ → D} (f : τ → D) (p : τ → Bool) (Sx : Nat → τ → List D → Nz.S)
    (hsrc : Src X B tg iter S (ys.map enc) S1) (hn : nD ∉ names S1.L) (h100 : 100 ≤ nD) (hz : ys.length ≤ sizeLine) (hL : ∀ i y acc, (Sx i y acc).L = S1.L ++ [(nD, .fl acc)])
    (hg : ∀ i y acc, ys[i]? = some y → ∀ s H0 C cl fp, EgC (Blk X scope s H0 C cl fp) B tg (.fr (enc y)) ⟨wipeC S1.ρ (own.map (·.2)), S1.L ++ [(nD, .fl acc)]⟩ (Sx i y acc) (own.map (·.2)))
    (ht : ∀ i y acc, ys[i]? = some y → ∀ s H0 C cl fp, Ets (Blk X scope s H0 C cl fp) B ifs (Sx i y acc) (p y))
    (he : ∀ i y acc, ys[i]? = some y → p y = true → ∀ s H0 C cl fp, Ev (Blk X scope s H0 C cl fp) B elt (Sx i y acc) (.fr (f y)) (Sx i y acc))
    (F : Hp) (α : Nat → Addr) (H : Hp) (σ : L2.St) (Q : VK) (R : RelX X B F α H σ S) (hS : Sub S.L S1.L)
    (k : ∀ F' α' H', RelX X B F' α' H' σ ⟨S1.ρ, S1.L ++ [(nD, .fl ((ys.filter p).map f))]⟩ → Stp F α S.L F' α' → Q (.ref (α' nD)) H') :
    tLc (wI X tg iter) (fun v σ H Q => ∀ s H0 C cl fp, wG (Blk X scope s H0 C cl fp) tg v σ H Q) (fun σ H Q => ∀ s H0 C cl fp, wTs (Blk X scope s H0 C cl fp) ifs σ H Q) (fun σ H Q => ∀ s H0 C cl fp, wE (Blk X scope s H0 C cl fp) elt σ H Q) (own.map (·.2)) σ H Q := by
  refine hsrc F α H σ _ R fun F1 α1 H1 J R1 st1 j => ?_
  intro D hD
  have Rn := R1.allocL (n := nD) (u := .fl []) (o := .lst []) hD hn h100 ⟨[], upd_same, .nil⟩
  have stn : Stp F1 α1 S1.L F1 (setα α1 nD D) := stp_setα hn
  have eD : setα α1 nD D nD = D := by unfold setα; rw [if_pos rfl]
  -- the state at turn i
  let W : Nat → Hp → Prop := fun i H => ∃ F' α', RelX X B F' α' H (L2.wipe σ (own.map (·.2))) ⟨wipeC S1.ρ (own.map (·.2)), S1.L ++ [(nD, .fl (((ys.take i).filter p).map f))]⟩ ∧ Stp F1 (setα α1 nD D) (S1.L ++ [(nD, .fl [])]) F' α'
  have w0 : W 0 (upd H1 D (.lst [])) := ⟨F1, setα α1 nD D, ⟨Rn.sub, Rn.bF, Rn.nF, Rn.frame, Rn.nd, Rn.inj, Rn.live, Rn.slots.wipe _, Rn.fix⟩, Stp.refl⟩
  refine ⟨fun i m H => m = ys.length - i ∧ i ≤ ys.length ∧ W i H, ⟨ys.length, by simp, Nat.zero_le _, w0⟩, ?_⟩
  rintro i m H' ⟨rfl, hi, F', α', R', st'⟩
  have sm : Same F1 F' := st'.fro
  have nmD : α' nD = D := by rw [st'.nm nD (by rw [names_append]; exact List.mem_append_right _ (List.mem_singleton.mpr rfl)), eD]
  by_cases hlt : i < ys.length
  · obtain ⟨y, hy⟩ : ∃ y, ys[i]? = some y := ⟨ys[i], by simp [hlt]⟩
    obtain ⟨g, yl⟩ := j.go B F' α' H' _ _ i (enc y) R' sm (by rw [List.getElem?_map, hy]; rfl)
    have tk : (ys.take (i + 1)) = ys.take i ++ [y] := by rw [List.take_succ, hy]; rfl
    refine .inr ⟨g, W (i + 1), fun H2 w2 => ⟨ys.length - (i + 1), by omega, rfl, hlt, w2⟩, fun x H2 yy => ?_⟩
    obtain ⟨F2, R2, s2, r2⟩ := yl x H2 yy
    intro sA HA CA clA fpA
    refine hg i y (((ys.take i).filter p).map f) hy sA HA CA clA fpA F2 α' H2 _ x _ R2 r2 fun σ3 F3 H3 R3 s3 w3 => ⟨w3.trans wipe_idem, ?_⟩
    intro sB HB CB clB fpB
    refine ht i y (((ys.take i).filter p).map f) hy sB HB CB clB fpB F3 α' H3 σ3 _ R3 fun F4 α4 H4 R4 st4 => ?_
    have hLL := hL i y (((ys.take i).filter p).map f)
    have full : ∀ {F5 : Hp} {α5 : Nat → Addr} {acc : List Nz.D}, Same F' F5 → (∀ n, n ∈ names (S1.L ++ [(nD, LO.fl (((ys.take i).filter p).map f))]) → α5 n = α' n) → Stp F1 (setα α1 nD D) (S1.L ++ [(nD, .fl [])]) F5 α5 := fun {F5 α5 acc} h1 h2 =>
      ⟨sm.trans h1, fun n hn' => by
        rw [h2 n (by rw [names_append] at hn' ⊢; exact hn'), st'.nm n hn']⟩
    have back : ∀ {F5 : Hp} {α5 : Nat → Addr} {H5 : Hp} {acc : List Nz.D}, RelX X B F5 α5 H5 σ3 ⟨(Sx i y (((ys.take i).filter p).map f)).ρ, S1.L ++ [(nD, .fl acc)]⟩ → SlR X.K X.mg F5 α5 (S1.L ++ [(nD, .fl acc)]) (wipeC S1.ρ (own.map (·.2))) (L2.wipe σ (own.map (·.2))) →
        RelX X B F5 α5 H5 (L2.wipe σ (own.map (·.2))) ⟨wipeC S1.ρ (own.map (·.2)), S1.L ++ [(nD, .fl acc)]⟩ := fun {F5 α5 H5 acc} Rr sl => ⟨Rr.sub, Rr.bF, Rr.nF, Rr.frame, Rr.nd, Rr.inj, Rr.live, sl, Rr.fix⟩
    have sl0 : SlR X.K X.mg F' α' (S1.L ++ [(nD, .fl (((ys.take i).filter p).map f))]) (wipeC S1.ρ (own.map (·.2))) (L2.wipe σ (own.map (·.2))) := R'.slots
    have st4' : Stp F' α' (S1.L ++ [(nD, .fl (((ys.take i).filter p).map f))]) F4 α4 := ⟨s2.trans (s3.trans st4.fro), fun n hn' => st4.nm n (by rw [hLL]; exact hn')⟩
    cases hp : p y with
    | false =>
      rw [if_neg Bool.false_ne_true]
      have e2 : ((ys.take (i + 1)).filter p).map f = ((ys.take i).filter p).map f := by rw [tk, List.filter_append]; simp [hp]
      refine ⟨F4, α4, ?_, full (acc := []) st4'.fro st4'.nm⟩
      rw [e2]
      have R4' : RelX X B F4 α4 H4 σ3 ⟨(Sx i y (((ys.take i).filter p).map f)).ρ, S1.L ++ [(nD, .fl (((ys.take i).filter p).map f))]⟩ := by rw [← hLL]; exact R4
      exact back R4' (sl0.step st4' fun _ z => z)
    | true =>
      rw [if_pos rfl]
      intro sC HC CC clC fpC
      refine he i y (((ys.take i).filter p).map f) hy hp sC HC CC clC fpC F4 α4 H4 σ3 _ R4 fun F5 α5 v5 H5 R5 st5 r5 => ?_
      have st5' : Stp F' α' (S1.L ++ [(nD, .fl (((ys.take i).filter p).map f))]) F5 α5 := st4'.trans ⟨st5.fro, fun n hn' => st5.nm n (by rw [hLL]; exact hn')⟩ fun _ z => z
      have R5' : RelX X B F5 α5 H5 σ3 ⟨(Sx i y (((ys.take i).filter p).map f)).ρ, S1.L ++ [(nD, .fl (((ys.take i).filter p).map f))]⟩ := by rw [← hLL]; exact R5
      obtain ⟨q0, q1, vs5, e5, rs5⟩ := R5'.live nD _ (List.mem_append_right _ (List.mem_singleton.mpr rfl))
      have nm5 : α5 nD = D := by rw [st5'.nm nD (by rw [names_append]; exact List.mem_append_right _ (List.mem_singleton.mpr rfl)), nmD]
      have gl := getL_app (o := .fl (((ys.take i).filter p).map f)) hn
      have sl : ∀ (acc : List Nz.D), setL nD (.fl acc) (S1.L ++ [(nD, LO.fl (((ys.take i).filter p).map f))]) = S1.L ++ [(nD, .fl acc)] := fun acc => setL_app hn
      rw [nm5] at e5
      have e2 : ((ys.take (i + 1)).filter p).map f = ((ys.take i).filter p).map f ++ [f y] := by rw [tk, List.filter_append, List.map_append]; simp [hp]
      have lenv : vs5.length < sizeLine := by
        rw [← rs5.length, List.length_map]
        have := List.length_filter_le p (ys.take i)
        rw [List.length_take] at this
        omega
      refine ⟨vs5, e5, lenv, F5, α5, ?_, full (acc := []) st5'.fro st5'.nm⟩
      have Rp := R5'.put (n := nD) (u := .fl (((ys.take i).filter p).map f ++ [f y])) (o' := .lst (vs5 ++ [v5])) (getL_mem gl) ⟨vs5 ++ [v5], upd_same, rs5.append (.cons r5 .nil)⟩
      rw [nm5] at Rp
      rw [e2]
      have Rp' : RelX X B F5 α5 (upd H5 D (.lst (vs5 ++ [v5]))) σ3 ⟨(Sx i y (((ys.take i).filter p).map f)).ρ, S1.L ++ [(nD, .fl (((ys.take i).filter p).map f ++ [f y]))]⟩ := by rw [← sl]; exact Rp
      refine back Rp' (sl0.step (L' := S1.L ++ [(nD, .fl (((ys.take i).filter p).map f ++ [f y]))]) st5' fun n hn' => by rw [names_append] at hn' ⊢; exact hn')
  · have e1 : i = ys.length := by omega
    subst e1
    refine .inl ⟨j.stop B F' α' H' _ _ _ R' sm (by rw [List.length_map]; exact Nat.le_refl _), ?_⟩
    rw [List.take_length] at R'
    have stA : Stp F1 α1 S1.L F' α' := stn.trans ⟨st'.fro, fun n hn' => st'.nm n (Sub.app n hn')⟩ fun _ z => z
    have R6 : RelX X B F' α' H' σ ⟨S1.ρ, S1.L ++ [(nD, .fl ((ys.filter p).map f))]⟩ := ⟨R'.sub, R'.bF, R'.nF, R'.frame, R'.nd, R'.inj, R'.live, R1.slots.step (L' := S1.L ++ [(nD, .fl ((ys.filter p).map f))]) stA fun n hn' => Sub.app n hn', R'.fix⟩
    have := k F' α' H' R6 (st1.trans stA hS)
    rw [nmD] at this
    exact this
section
variable {τ : Type} {ys : List τ} {enc : τ → D}
theorem ex_setLcL (i : Nat) {y : Str} {py spos : Pos} {K : Out → Prop} (nD : Nat) (ys : List τ) (enc : τ → D) (f : τ → D) (p : τ → Bool) (Sx : Nat → τ → List D → Nz.S) (hc : X.calm = true) (hN : X.N.Nodup) (hy : X.N[i]? = some y) (hyl : X.env.scope.names.lookup y = some .local)
    (hsw : swapsWith (.ListComp elt [⟨tg, iter, ifs, 0⟩] scope pos) (some (.Name y py)) spos.line X.env = pure true) (ok : BlkOk X.N X.env.scope scope own)
    (hsrc : Src X B tg iter S (ys.map enc) S1) (hn : nD ∉ names S1.L) (h100 : 100 ≤ nD) (hz : ys.length ≤ sizeLine) (hL : ∀ i y acc, (Sx i y acc).L = S1.L ++ [(nD, .fl acc)])
    (hg : ∀ i y acc, ys[i]? = some y → ∀ s H0 C cl fp, EgC (Blk X scope s H0 C cl fp) B tg (.fr (enc y)) ⟨wipeC S1.ρ (own.map (·.2)), S1.L ++ [(nD, .fl acc)]⟩ (Sx i y acc) (own.map (·.2)))
    (ht : ∀ i y acc, ys[i]? = some y → ∀ s H0 C cl fp, Ets (Blk X scope s H0 C cl fp) B ifs (Sx i y acc) (p y))
    (he : ∀ i y acc, ys[i]? = some y → p y = true → ∀ s H0 C cl fp, Ev (Blk X scope s H0 C cl fp) B elt (Sx i y acc) (.fr (f y)) (Sx i y acc))
    (k : K (.nx (setS ⟨S1.ρ, S1.L ++ [(nD, .fl ((ys.filter p).map f))]⟩ i (.ad nD)))) (hS : Sub S.L S1.L := by exact Sub.refl) (hs : ∀ x, foldedSetIterable iter X.env x = pure x := by intro _; rfl) :
    Ex X B (.Assign [.Name y py] (.ListComp elt [⟨tg, iter, ifs, 0⟩] scope pos) spos) S K :=
  fun F α H σ D R o => wS.of (ps_setLc hc hN hy hyl hsw pi_w ok (fun s H0 C cl fp => ⟨fun pins s1 σ1 H1 v u Q1 I r h => h s H0 C cl fp pins s1 u I r⟩) (fun s H0 C cl fp => ⟨fun pins s1 σ1 H1 Q1 I h => h s H0 C cl fp pins s1 I⟩) (fun s H0 C cl fp => ⟨fun pins s1 σ1 H1 Q1 I h => h s H0 C cl fp pins s1 I⟩) hs)
    (lc_readingL nD f p Sx hsrc hn h100 hz hL hg ht he F α H σ _ R hS fun F' α' H' R' st => o.nx _ F' α' H' _ k (R'.setS (S := ⟨S1.ρ, S1.L ++ [(nD, .fl ((ys.filter p).map f))]⟩) (c := .ad nD) ⟨by rw [names_append]; exact List.mem_append_right _ (List.mem_singleton.mpr rfl), rfl⟩) st.fro)
end
end
end Nz
namespace Nz
open PySem PySem.Spec PyProof.Rows L2
section
variable {X : Cx} {B : Bd} {S S1 S2 : Nz.S} {a b e o tg : Expr} {es : List Expr} {pos apos p q : Pos} {d1 : D} {c2 : Ce} {τ : Type} {enc : τ → D} {n : Nat}
/-- xs[i] = v, typed -/
theorem ex_setIT {K : Out → Prop} (n : Nat) {i : Int} {xs : List τ} (v : τ) {d : D} (hd : d = enc v) (hl : getL n S1.L = some (.fl (xs.map enc))) (h0 : 0 ≤ i) (h1 : i < xs.length) (he : Ev X B e S (.fr d) S1) (ho : Ev X B o S1 (.ad n) S1) (hi : Ev X B a S1 (.fr (.int i)) S1)
    (k : K (.nx ⟨S1.ρ, setL n (.fl ((xs.set i.toNat v).map enc)) S1.L⟩)) (hs : swapsWithSole [.Subscript o a p] e pos.line X.env = pure false := by rfl) (hw : swappedStores [.Subscript o a p] e X.env = pure none := by rfl)
    (h2 : (assignEach [.Subscript o a p] X.env).map (·.2) = [assign (.Subscript o a p) X.env] := by rfl)
    (hsub : ∀ v, assign (.Subscript o a p) X.env v = (do
      let ov ← holding [v] (eval o X.env)
      let iv ← holding [v, ov] (eval a X.env)
      standAt p
      holding [v, ov, iv] (setItem ov iv v)
      release [v, ov, iv] []) := by intro _; rfl) : Ex X B (.Assign [.Subscript o a p] e pos) S K := by
  subst hd
  refine ex_setI n he ho hi hl h0 (by rw [List.length_map]; exact h1) ?_ hs hw h2 hsub
  rw [← List.map_set]; exact k
/-- [x] * n, typed -/
theorem flat_rep (x : τ) : ∀ n : Nat, (List.replicate n [enc x]).flatten = (List.replicate n x).map enc
  | 0 => rfl
  | n + 1 => by rw [List.replicate_succ, List.flatten_cons, flat_rep x n, List.replicate_succ]; rfl
/-- .. that lives -/
theorem ev_repTL {i : Int} (m : Nat) (x : τ) (ha : Ea X B es S [.fr (enc x)] S1) (hb : Ev X B b S1 (.fr (.int i)) S1) (hn : m ∉ names S1.L) (h100 : 100 ≤ m) (h1 : i ≤ sizeLine) (h2 : -(2 ^ 63) ≤ i) (SUBS : Sub S.L S1.L := by exact Sub.refl) :
    Ev X B (.BinOp (.List es q) .Mult b pos) S (.ad m) ⟨S1.ρ, S1.L ++ [(m, .fl ((List.replicate i.toNat x).map enc))]⟩ :=
  fun F α H σ Q R k => wE.of (pe_op op_rep (pe_lst pa_w) pe_w) (ha F α H σ _ R fun F1 α1 vs H1 R1 st1 r1 => by
    have hSL := sizeLine_eq
    have r := CRels.fr (ds := [enc x]) r1
    have hlen := r.length
    rw [List.length_singleton] at hlen
    refine ⟨by omega, fun p hp => ?_⟩
    have hf := R1.fresh hp
    have R2 := R1.allocF (o := .lst vs) hp
    refine hb _ α1 _ σ _ R2 fun F3 α3 v3 H3 R3 st3 r3 => ?_
    cases r3
    have e3 : F3 p = some (.lst vs) := st3.fro _ _ upd_same
    refine ⟨p, i, vs, rfl, rfl, R3.sub _ _ e3, h2, by omega, by rw [← hlen]; omega, fun p' hp' => ?_⟩
    have hf' := R3.fresh hp'
    have rr : Reps X.K X.mg F3 [enc x] vs := r.mono ((same_upd hf).trans st3.fro)
    have rr2 := rr.rep i.toNat
    rw [flat_rep] at rr2
    have stA : Stp F α S.L F3 α3 := ⟨(st1.fro.trans (same_upd hf)).trans st3.fro, fun n hn => by rw [st3.nm n (SUBS n hn), st1.nm n hn]⟩
    refine k F3 (setα α3 m p') _ _ (R3.allocL hp' hn h100 ⟨_, upd_same, rr2⟩) (stA.trans (stp_setα hn) SUBS) ⟨?_, ?_⟩
    · rw [names_append]; exact List.mem_append_right _ (List.mem_singleton.mpr rfl)
    · show V.ref p' = V.ref (if m = m then p' else α3 m)
      rw [if_pos rfl])
/-- for i in range(a, b, -1) -/
theorem src_rangeD {i j : Int} {c : Expr} (h : Ea X B [a, b, c] S [.fr (.int i), .fr (.int j), .fr (.int (-1))] S1) (hg : Gl X "range") (hm : X.mg "range" = none) (h1 : -(2 ^ 62) ≤ i) (h2 : i < 2 ^ 62) (h3 : -(2 ^ 62) ≤ j) (h4 : j < 2 ^ 62) (hs : starEach [a, b, c] X.env = (false, eval a X.env) :: starEach [b, c] X.env := by rfl) (hpl : (backTo pos (starEach [b, c] X.env)).any (·.1) = false := by rfl) :
    Src X B tg (.Call (.Name "range" p) [a, b, c] [] pos) S ((List.range (i - j).toNat).map fun k : Nat => D.int (i + (k : Int) * -1)) S1 :=
  fun F α H σ R RR k => wI.of (pi_range3 hg hm pa_w hs hpl) (h F α H σ _ RR fun F1 α1 vs H1 R1 st1 r1 => by
    have r := CRels.fr (ds := [.int i, .int j, .int (-1)]) r1
    cases r with
    | cons q1 r =>
      cases r with
      | cons q2 r =>
        cases r with
        | cons q3 r =>
          cases r
          cases q1; cases q2; cases q3
          refine ⟨i, j, -1, (i - j).toNat, rfl, RgC.neg h1 h2 h3 h4, k F1 α1 H1 _ R1 st1 ⟨fun B F' α H σ S n d R' hs hi => ?_, fun B F' α H σ S n R' hs hi => by rw [List.length_map, List.length_range] at hi; exact hi⟩⟩
          rw [List.getElem?_map] at hi
          by_cases hn : n < (i - j).toNat
          · rw [List.getElem?_range hn] at hi
            refine ⟨hn, fun x H' y => ?_⟩
            obtain ⟨rfl, rfl⟩ := y
            cases hi
            exact ⟨F', R', Same.refl _, .int _⟩
          · rw [List.getElem?_eq_none (by rw [List.length_range]; omega)] at hi; cases hi)
end
section
variable {X : Cx} {B : Bd} {S S1 : Nz.S} {elt tg iter a : Expr} {scope : Scope} {own : List (Str × Nat)} {pos : Pos} {K : Out → Prop} {τ μ : Type} {ys : List τ} {enc : τ → D} {enc2 : μ → D}
theorem ex_setLcML (i : Nat) {y : Str} {py spos : Pos} (nD : Nat) (g : τ → μ) (Sx : Nat → τ → List D → Nz.S) (hc : X.calm = true) (hN : X.N.Nodup) (hy : X.N[i]? = some y) (hyl : X.env.scope.names.lookup y = some .local)
    (hsw : swapsWith (.ListComp elt [⟨tg, iter, [], 0⟩] scope pos) (some (.Name y py)) spos.line X.env = pure true) (ok : BlkOk X.N X.env.scope scope own)
    (hsrc : Src X B tg iter S (ys.map enc) S1) (hn : nD ∉ names S1.L) (h100 : 100 ≤ nD) (hz : ys.length ≤ sizeLine)
    (hg : ∀ i y acc, ys[i]? = some y → ∀ s H0 C cl fp, EgC (Blk X scope s H0 C cl fp) B tg (.fr (enc y)) ⟨wipeC S1.ρ (own.map (·.2)), S1.L ++ [(nD, .fl acc)]⟩ (Sx i y acc) (own.map (·.2)))
    (he : ∀ i y acc, ys[i]? = some y → ∀ s H0 C cl fp, Ev (Blk X scope s H0 C cl fp) B elt (Sx i y acc) (.fr (enc2 (g y))) (Sx i y acc))
    (k : K (.nx (setS ⟨S1.ρ, S1.L ++ [(nD, .fl ((ys.map g).map enc2))]⟩ i (.ad nD)))) (hL : ∀ i y acc, (Sx i y acc).L = S1.L ++ [(nD, .fl acc)] := by exact fun _ _ _ => rfl) (hS : Sub S.L S1.L := by exact Sub.refl) (hs : ∀ x, foldedSetIterable iter X.env x = pure x := by intro _; rfl) :
    Ex X B (.Assign [.Name y py] (.ListComp elt [⟨tg, iter, [], 0⟩] scope pos) spos) S K :=
  ex_setLcL i nD ys enc (fun y => enc2 (g y)) (fun _ => true) Sx hc hN hy hyl hsw ok hsrc hn h100 hz hL hg (fun _ _ _ _ _ _ _ _ _ => ets_nil) (fun i y acc h1 _ => he i y acc h1) (by
    rw [lm_map]; exact k) hS hs
end
end Nz
namespace Nz
open PySem PySem.Spec PyProof.Rows L2
mutual
def noL : D → Bool
  | .non | .bl _ | .int _ | .str _ => true
  | .tup xs => noLs xs
  | _ => false
def noLs : List D → Bool
  | [] => true
  | d :: ds => noL d && noLs ds
end
structure NoL {τ : Type} (e : τ → D) : Prop where
  ok : ∀ x, noL (e x) = true
theorem nl_int : NoL D.int := ⟨fun _ => rfl⟩
section
variable {τ μ ν κ ι : Type} {e : τ → D} {f : μ → D} {g : ν → D} {h : κ → D} {j : ι → D}
theorem nl_O (a : NoL e) : NoL (eO e) := ⟨fun x => by cases x with | none => rfl | some y => exact a.ok y⟩
theorem nl_T2 (a : NoL e) (b : NoL f) : NoL (eT2 e f) := ⟨fun x => by simp [noL, noLs, a.ok, b.ok]⟩
end
section
variable {K : Frag} {mg : Mg} {F F' : Hp}
mutual
theorem Rep.lent (hT : ∀ a vs, SqT K F a vs → SqT K F' a vs) : ∀ {d : D} {v : V}, noL d = true → Rep K mg F d v → Rep K mg F' d v
  | .non, _, _, .non => .non
  | .bl _, _, _, .bl b => .bl b
  | .int _, _, _, .int i => .int i
  | .str _, _, _, .str s => .str s
  | .tup _, _, h, .tup h1 h2 => .tup (hT _ _ h1) (Reps.lent hT (by simpa [noL] using h) h2)
  | .lst _, _, h, .lst _ _ => by simp [noL] at h
  | .obj _ _, _, h, .obj _ _ _ _ => by simp [noL] at h
  | .dK _, _, h, .dK _ _ _ => by simp [noL] at h
  | .dT _, _, h, .dT _ _ _ => by simp [noL] at h
theorem Reps.lent (hT : ∀ a vs, SqT K F a vs → SqT K F' a vs) : ∀ {ds : List D} {vs : List V}, noLs ds = true → Reps K mg F ds vs → Reps K mg F' ds vs
  | [], _, _, .nil => .nil
  | _ :: _, _, h, .cons h1 h2 => by
    rw [noLs, Bool.and_eq_true] at h
    exact .cons (Rep.lent hT h.1 h1) (Reps.lent hT h.2 h2)
end
end
/-- what is lent: lists and dicts -/
def isLD : HO → Bool
  | .lst _ => true
  | .dK _ => true
  | .dT _ => true
  | _ => false
/-- a live object as data, where it holds frozen data alone -/
def frzO : LO → Option D
  | .fl xs => some (.lst xs)
  | .dT kvs => some (.dT kvs)
  | .dK kvs => some (.dK kvs)
  | _ => none
def boOf (L : List (Nat × LO)) : List Ce → Option (List D)
  | [] => some []
  | .fr d :: cs => (boOf L cs).map (d :: ·)
  | .ad n :: cs => match (getL n L).bind frzO with
    | some d => (boOf L cs).map (d :: ·)
    | none => none
  | .xv _ :: _ => none
section
variable {K : Frag} {mg : Mg} {B : Bd} {F F' : Hp} {α α' : Nat → Addr} {H H' : Hp} {σ σ' : L2.St} {S S' : Nz.S}
def lentAt (α : Nat → Addr) (L : List (Nat × LO)) (b : Addr) : Prop := ∃ n o d, (n, o) ∈ L ∧ frzO o = some d ∧ b = α n
open Classical in
noncomputable def lendF (F H : Hp) (α : Nat → Addr) (L : List (Nat × LO)) : Hp := fun b => if lentAt α L b then H b else F b
open Classical in
noncomputable def unlend (F : Hp) (α : Nat → Addr) (L : List (Nat × LO)) : Hp := fun b => if lentAt α L b then none else F b
theorem CRelK.fr {κ : Type} {K : Frag} {mg : Mg} {F : Hp} {α : Nat → Addr} {L : List (Nat × LO)} : ∀ {ds : List (κ × D)} {vs : List (κ × V)}, CRelK K mg F α L (ds.map fun p => (p.1, Ce.fr p.2)) vs → ds.map Prod.fst = vs.map Prod.fst ∧ Reps K mg F (ds.map Prod.snd) (vs.map Prod.snd)
  | [], _, .nil => ⟨rfl, .nil⟩
  | (k, d) :: ds, _, .cons h r => by
    obtain ⟨a, b⟩ := CRelK.fr (ds := ds) r
    exact ⟨by rw [List.map_cons, List.map_cons, a], .cons h b⟩
theorem Paired.reps {κ : Type} {K : Frag} {mg : Mg} {F : Hp} : ∀ {ds : List (κ × D)} {vs : List (κ × V)}, Paired (fun (p : κ × D) (q : κ × V) => p.1 = q.1 ∧ Rep K mg F p.2 q.2) ds vs → ds.map Prod.fst = vs.map Prod.fst ∧ Reps K mg F (ds.map Prod.snd) (vs.map Prod.snd)
  | _, _, .nil => ⟨rfl, .nil⟩
  | _, _, .cons h r => by
    obtain ⟨a, b⟩ := Paired.reps r
    exact ⟨by rw [List.map_cons, List.map_cons, a, h.1], .cons h.2 b⟩
/-- a live object that is data is so in any frozen heap that has it -/
theorem LAt.asD {a : Addr} {o : LO} {d : D} {L : List (Nat × LO)} (h : LAt K mg B F α L H a o) (hd : frzO o = some d) : ∃ ho, H a = some ho ∧ isLD ho = true ∧ ∀ G, Same F G → G a = some ho → Rep K mg G d (.ref a) := by
  cases o with
  | fl xs => cases hd; obtain ⟨vs, e, r⟩ := h; exact ⟨_, e, rfl, fun G s g => .lst (SqL.of g) (r.mono s)⟩
  | cl xs => cases hd
  | ins _ _ => cases hd
  | dT kvs =>
    cases hd
    obtain ⟨vs, e, r⟩ := h
    obtain ⟨r1, r2⟩ := Paired.reps r
    exact ⟨_, e, rfl, fun G s g => .dT g r1 (r2.mono s)⟩
  | dK kvs =>
    cases hd
    obtain ⟨vs, e, r⟩ := h
    obtain ⟨r1, r2⟩ := Paired.reps r
    exact ⟨_, e, rfl, fun G s g => .dK g r1 (r2.mono s)⟩
  | dC _ => cases hd
theorem Rel.lent_none (R : Rel K mg B F α H σ S) {b : Addr} (h : lentAt α S.L b) : F b = none := by
  obtain ⟨n, o, d, h1, _, rfl⟩ := h
  exact (R.live n _ h1).1
theorem Rel.lent_lst (R : Rel K mg B F α H σ S) {b : Addr} (h : lentAt α S.L b) : ∃ ho, H b = some ho ∧ isLD ho = true := by
  obtain ⟨n, o, d, h1, h2, rfl⟩ := h
  obtain ⟨ho, e1, e2, _⟩ := LAt.asD (R.live n _ h1).2.2 h2
  exact ⟨ho, e1, e2⟩
theorem Rel.lend_same (R : Rel K mg B F α H σ S) : Same F (lendF F H α S.L) := fun b o e => by
  unfold lendF
  by_cases h : lentAt α S.L b
  · rw [R.lent_none h] at e; cases e
  · rw [if_neg h]; exact e
theorem Rel.lend_sub (R : Rel K mg B F α H σ S) : Same (lendF F H α S.L) H := fun b o e => by
  unfold lendF at e
  by_cases h : lentAt α S.L b
  · rw [if_pos h] at e; exact e
  · rw [if_neg h] at e; exact R.sub b o e
theorem Rel.lend_reps (R : Rel K mg B F α H σ S) : ∀ {cs : List Ce} {ds : List D} {vs : List V}, boOf S.L cs = some ds → CRels K mg F α S.L cs vs → Reps K mg (lendF F H α S.L) ds vs
  | [], ds, _, h, .nil => by cases h; exact .nil
  | .fr d :: cs, ds, _, h, .cons r rs => by
    unfold boOf at h
    cases q : boOf S.L cs with
    | none => rw [q] at h; cases h
    | some ds' =>
      rw [q] at h; cases h
      exact .cons (Rep.mono R.lend_same (show Rep K mg F d _ from r)) (R.lend_reps q rs)
  | .ad n :: cs, ds, _, h, .cons r rs => by
    unfold boOf at h
    split at h
    · rename_i d hx
      cases q : boOf S.L cs with
      | none => rw [q] at h; cases h
      | some ds' =>
        rw [q] at h; cases h
        obtain ⟨hn, rfl⟩ := r
        obtain ⟨o, ho, hd⟩ := Option.bind_eq_some_iff.mp hx
        obtain ⟨u, e1, _, e3⟩ := LAt.asD (R.live n _ (getL_mem ho)).2.2 hd
        refine .cons (e3 _ R.lend_same ?_) (R.lend_reps q rs)
        unfold lendF
        rw [if_pos ⟨n, o, d, getL_mem ho, hd, rfl⟩]; exact e1
    · cases h
  | .xv _ :: cs, ds, _, h, .cons r rs => by simp [boOf] at h
/-- behind the call -/
theorem Rel.unlend (R : Rel K mg B F α H σ S) {α0 : Nat → Addr} (R' : Rel K mg (bdOf (lendF F H α S.L) H (fun _ => False) α0 []) F' α' H' σ' S') :
    Rel K mg B (Nz.unlend F' α S.L) α H' σ S ∧ Same F (Nz.unlend F' α S.L) ∧ (∀ a vs, SqT K F' a vs → SqT K (Nz.unlend F' α S.L) a vs) := by
  have hF' : Same (lendF F H α S.L) F' := R'.bF
  have h1 : Same F (Nz.unlend F' α S.L) := fun b o e => by
    unfold Nz.unlend
    by_cases h : lentAt α S.L b
    · rw [R.lent_none h] at e; cases e
    · rw [if_neg h]; exact hF' b o (R.lend_same b o e)
  have hH : Same H H' := fun b o e => R'.frame b o e fun z => z
  refine ⟨R.grow h1 hH (fun b o e => ?_) fun b u e => ?_, h1, fun a vs q => ?_⟩
  · unfold Nz.unlend at e
    by_cases h : lentAt α S.L b
    · rw [if_pos h] at e; cases e
    · rw [if_neg h] at e; exact R'.sub b o e
  · unfold Nz.unlend at e
    by_cases h : lentAt α S.L b
    · rw [if_pos h] at e; cases e
    · rw [if_neg h] at e
      rcases R'.nF b u e with z | z | z
      · have z : lendF F H α S.L b = some u := z
        unfold lendF at z
        rw [if_neg h] at z; exact .inl z
      · exact .inr z
      · exact z.elim
  · have key : ∀ o, F' a = some o → isLD o = false → Nz.unlend F' α S.L a = some o := fun o e ne => by
      unfold Nz.unlend
      by_cases h : lentAt α S.L a
      · obtain ⟨u, hw, hl⟩ := R.lent_lst h
        have : F' a = some u := hF' a _ (by unfold lendF; rw [if_pos h]; exact hw)
        rw [this] at e; cases e; rw [hl] at ne; cases ne
      · rw [if_neg h]; exact e
    rcases q with (q | ⟨o, q⟩) | q
    · exact .inl (.inl (key _ q rfl))
    · exact .inl (.inr ⟨o, key _ q rfl⟩)
    · exact .inr q
end
section
variable {X : Cx} {B : Bd} {S S1 S2 : Nz.S} {e : Expr} {es : List Expr} {pos p : Pos} {d : D} {ds : List D} {cs : List Ce} {x : Str} {fd : FuncData} {ps : List Str} {k : Nat} {sp : SpN} {f : Addr}
/-- f(e, ..) where arguments live; what it gives holds no list -/
theorem ev_callBo (F : FnOk X.prog X.w X.K X.mg X.base CX0 k f fd ps (SpOf X.K X.mg sp)) (hr : Room k X.A) (hm : X.mg x = some (.ref f)) (hk : PySem.W.keepIn X.K (.ref f) = true) (hb : Binds X.K fd ps [])
    (ha : Ea X B (e :: es) S cs S1) (hbo : boOf S1.L cs = some ds) (hno : noL d = true) (hs : ∀ Kc : Ce → List (Nat × LO) → Prop, (∀ L', Kc (.fr d) L') → sp (ds.map Ce.fr) [] Kc) (hg : Gl X x) (h1 : Sub S.L S1.L := by exact Sub.refl) (hdb : (x == ("__debug__" : Str)) = false := by decide)
    (he : starEach (e :: es) X.env = (false, eval e X.env) :: starEach es X.env := by rfl) (hpl : (backTo pos (starEach es X.env)).any (·.1) = false := by rfl) : Ev X B (.Call (.Name x p) (e :: es) [] pos) S (.fr d) S1 :=
  fun F0 α H σ Q R k => wE.of (pe_call F hr hg hm hk hb .nil pass0 pa_w hdb he hpl) (ha F0 α H σ _ R fun F1 α1 vs H1 R1 st1 r1 => by
    rw [List.append_nil]
    have rr := R1.lend_reps hbo r1
    refine ⟨lendF F1 H1 α1 S1.L, α1, [], _, fun _ => False, ⟨R1.lend_sub, Same.refl _, fun b o e => .inl e, fun b o e _ => e, List.nodup_nil, fun n m h => absurd h (by simp [names]), fun n o h => absurd h (by simp), paired_slots rr, fun n a h hn => absurd hn (by simp [names])⟩, hs _ fun L' F' α' v H' ρ' σ' R' r' => ?_⟩
    obtain ⟨Ru, sF, hT⟩ := R1.unlend R'
    exact k _ α1 v H' Ru (st1.trans ⟨sF, fun _ _ => rfl⟩ h1) (Rep.lent hT hno (show Rep X.K X.mg F' d v from r')))
end
end Nz
namespace Nz
theorem rng_lt {n i y : Nat} (h : (List.range n)[i]? = some y) : y < n := List.mem_range.mp (List.mem_of_getElem? h)
end Nz
namespace Nz
open PySem PySem.Spec PyProof.Rows L2
end Nz
namespace Nz
theorem small_log {i : Int} (h : -1000000 ≤ i ∧ i ≤ 1000000) : i.natAbs.log2 < 1920 := by
  by_cases h0 : i.natAbs = 0
  · rw [h0]; decide
  · have h1 : i.natAbs < 2 ^ 20 := by
      have : (2 : Nat) ^ 20 = 1048576 := by decide
      omega
    have := (Nat.log2_lt h0).mpr h1
    omega
end Nz
namespace Nz
theorem some_of3 {τ : Type} {y : Option τ} {b : Bool} (h : ¬ ¬ ((y.isSome && b) = true)) : y.isSome = true := by
  have := Classical.not_not.mp h
  rw [Bool.and_eq_true] at this
  exact this.1
theorem some_of4 {τ : Type} {y : Option τ} {b : Bool} {q : Prop} (h : ¬ ((¬ ((y.isSome && b) = true)) ∨ q)) : y.isSome = true := some_of3 fun z => h (.inl z)
theorem some_of5 {τ : Type} {y : Option τ} {b : Bool} {q : Prop} (h : ((y.isSome && b) = true)) : y.isSome = true := some_of3 fun z => z h
end Nz
namespace Nz
/-- from the test of a while -/
theorem some_ofW {τ : Type} {y : Option τ} (h : (!y.isNone) = true) : y.isSome = true := by
  cases y with
  | none => exact absurd h (by simp)
  | some z => rfl
end Nz
namespace Nz
open PySem PySem.Spec PyProof.Rows L2
end Nz
namespace Nz
open PySem PySem.Spec PyProof.Rows L2
def maxLD (ns : List Int) (d : Int) : Int := if ns = [] then d else maxL ns
theorem maxOf_maxL (x : Int) (xs : List Int) : PySem.W.maxOf x xs = maxL (x :: xs) := by
  unfold PySem.W.maxOf maxL
  congr 1
  funext a y
  show (if decide (a < y) = true then y else a) = _
  by_cases h : a < y
  · rw [if_pos (decide_eq_true h), if_pos h]
  · rw [if_neg (by simpa using h), if_neg h]
def rMaxLD (K : PySem.W.Frag) : List V → List V → Hp → VK → Prop := fun vs zs H Q => ∃ (a : Addr) (ns : List Int) (d : Int), vs = [V.ref a] ∧ zs = [V.int d] ∧ SqL K H a (ns.map V.int) ∧ Q (.int (maxLD ns d)) H
theorem cr_maxLD {X : Cx} (hc : X.calm = true) (hu : X.A.units + 1 < cLine) : CallRK X (.builtin "max") [Str.ofString "default"] (rMaxLD X.K) := by
  intro pins s σ H vs zs us ws Q I r rz h
  obtain ⟨a, ns, d, rfl, rfl, hs, q⟩ := h
  obtain ⟨its, rv, hl, _⟩ := I.list hs
  rw [Vals.ref1 r]
  cases rz with
  | cons z zz =>
    cases zz
    obtain ⟨t, rfl⟩ := z
    refine PySem.W.max_list_datum_default (xs := ns) (I.ok.hd hc) hl.isList (PySem.W.HoldAll.of_ints rv.ints) hu (fun e h' tk hk => ?_) fun y ys i v h' tk e hi hv hk => ?_
    · subst e
      exact ⟨.int _, H, I.kept hk, ⟨_, rfl⟩, q⟩
    · subst e
      obtain ⟨as, rr⟩ := hv
      obtain ⟨t', rfl, _⟩ := reads_int_inv rr
      refine ⟨.int _, H, I.kept hk, ⟨_, rfl⟩, ?_⟩
      rw [maxOf_maxL]
      unfold maxLD at q
      rw [if_neg (by simp)] at q
      exact q
section
variable {X : Cx} {B : Bd} {S S1 S2 : Nz.S}
theorem ev_maxLD {e : Expr} {kws : List Keyword} {ns : List Int} {d : Int} {p pos : Pos} (hc : X.calm = true) (hu : X.A.units + 64 < cLine) (ha : Ea X B [e] S [.fr (.lst (ns.map D.int))] S1) (hk : Ek X B kws S1 [.int d] S2) (hg : Gl X "max") (hm : X.mg "max" = none)
    (hv : bootBuiltins "max" = some (.builtin "max") := by decide +kernel) (h1 : Sub S.L S1.L := by exact Sub.refl) (h2 : Sub S1.L S2.L := by exact Sub.refl)
    (he : backTo pos (starEach [e] X.env) = (false, eval e X.env) :: backTo pos (starEach [] X.env) := by rfl) (hpl : (backTo pos (starEach [e] X.env)).any (·.1) = false := by rfl)
    (hall : (backToKw pos (keywordEach kws X.env)).all (·.1.isSome) = true := by rfl) (hnone : (backToKw pos (keywordEach kws X.env)).any (·.1.isNone) = false := by rfl) (hks : (backToKw pos (keywordEach kws X.env)).filterMap (·.1) = [Str.ofString "default"] := by rfl) :
    Ev X B (.Call (.Name "max" p) [e] kws pos) S (.fr (.int (maxLD ns d))) S2 :=
  fun F0 α H σ Q R k => wE.of (pe_callBK (cr_maxLD hc (by omega)) hg hm hv pa_w pk_w (by decide) (by decide) he hpl hall hnone hks) (ha F0 α H σ _ R fun F1 α1 vs H1 R1 st1 r1 => hk F1 α1 H1 σ _ R1 fun F2 α2 zs H2 R2 st2 r2 => by
    have rr := (CRels.fr (ds := [.lst (ns.map D.int)]) r1).mono st2.fro
    cases rr with
    | cons r rr =>
      cases rr
      cases r2 with
      | cons z zz =>
        cases zz
        cases z
        obtain ⟨a, us, rfl, hq, rs⟩ := R2.asL (c := .fr (.lst (ns.map D.int))) rfl r
        exact ⟨a, ns, d, rfl, rfl, by rw [← Reps.ints_eq rs]; exact hq, k F2 α2 _ H2 R2 ((st1.trans st2 h1)) (.int _)⟩)
end
end Nz
namespace Nz
open PySem PySem.Spec PyProof.Rows L2
theorem kbn_dfl1 {K : Frag} {fd : FuncData} {ps ks : List Str} {n : Nat} {Dd : Addr} {nm : Str} {u : Value} {v : V} (hq : PySem.W.nsIn K Dd nm = some (some u)) (rv : RelV v u)
    (h : ∀ us ws : List Value, us.length = n → ws.length = ks.length → KwChain Dd [(nm, u)] (bindArgs fd ⟨us, ks.zip ws⟩) (ps.zip (us ++ ws ++ [u]))) : KBn K fd ps n ks (fun us ws => us ++ ws ++ [u]) (fun vs zs => vs ++ zs ++ [v]) :=
  ⟨fun s us ws X l1 l2 => BindsTo.of_looks fun M => KwChain.looks X (fun q hm => by rw [List.mem_singleton.mp hm]; exact hq) (h us ws l1 l2), fun r1 r2 => (r1.append r2).append (.cons rv .nil)⟩
theorem kbn_dfl2 {K : Frag} {fd : FuncData} {ps ks : List Str} {n : Nat} {Dd : Addr} {nm nm2 : Str} {u u2 : Value} {v v2 : V} (hq : PySem.W.nsIn K Dd nm = some (some u)) (hq2 : PySem.W.nsIn K Dd nm2 = some (some u2)) (rv : RelV v u) (rv2 : RelV v2 u2)
    (h : ∀ us ws : List Value, us.length = n → ws.length = ks.length → KwChain Dd [(nm, u), (nm2, u2)] (bindArgs fd ⟨us, ks.zip ws⟩) (ps.zip (us ++ ws ++ [u, u2]))) : KBn K fd ps n ks (fun us ws => us ++ ws ++ [u, u2]) (fun vs zs => vs ++ zs ++ [v, v2]) :=
  ⟨fun s us ws X l1 l2 => BindsTo.of_looks fun M => KwChain.looks X (fun q hm => by
    rcases List.mem_cons.mp hm with e | e
    · rw [e]; exact hq
    · rw [List.mem_singleton.mp e]; exact hq2) (h us ws l1 l2), fun r1 r2 => (r1.append r2).append (.cons rv (.cons rv2 .nil))⟩
section
variable {X : Cx} {B : Bd} {S S1 S2 S3 : Nz.S} {a e : Expr} {es : List Expr} {kws : List Keyword} {pos p kpos : Pos} {x : Str} {d : D} {ds es' dd : List D} {dv : List V} {mv : List Value} {c nm : Str} {fs : List (Str × D)} {C g f : Addr} {fd : FuncData} {ps ks : List Str} {k n : Nat} {sp : SpN}
theorem c_intB {b : Bool} : Cb X (.type "int") [.bl b] (.int (if b = true then 1 else 0)) := .of call_int1 fun B F α H σ S Q xs R rx k => by
  cases rx with | cons r rr => cases rr; cases r; exact .inr ⟨b, rfl, k F α _ H R Stp.refl (.int _)⟩
/-- f(e, .., k = v, ..), the last parameters left out -/
theorem ev_callKwD (F : FnOk X.prog X.w X.K X.mg X.base CX0 k f fd ps (SpOf X.K X.mg sp)) (hr : Room k X.A) (hm : X.mg x = some (.ref f)) (hkp : PySem.W.keepIn X.K (.ref f) = true) (hb : KBn X.K fd ps n ks (fun us ws => us ++ ws ++ mv) (fun vs zs => vs ++ zs ++ dv)) (hd : ∀ F', Reps X.K X.mg F' dd dv)
    (ha : Ea X B (e :: es) S (ds.map Ce.fr) S1) (hk : Ek X B kws S1 es' S2) (l1 : ds.length = n) (l2 : es'.length = ks.length)
    (hs : ∀ Kc : Ce → List (Nat × LO) → Prop, (∀ L', Kc (.fr d) L') → sp ((ds ++ es' ++ dd).map Ce.fr) [] Kc) (hg : Gl X x) (h1 : Sub S.L S1.L := by exact Sub.refl) (h2 : Sub S1.L S2.L := by exact Sub.refl) (hdb : (x == ("__debug__" : Str)) = false := by decide)
    (hall : (backToKw pos (keywordEach kws X.env)).all (·.1.isSome) = true := by rfl) (hks : (backToKw pos (keywordEach kws X.env)).filterMap (·.1) = ks := by rfl)
    (he : starEach (e :: es) X.env = (false, eval e X.env) :: starEach es X.env := by rfl) (hpl : ((backTo pos (starEach (e :: es) X.env)).any (·.1) || (backToKw pos (keywordEach kws X.env)).any (·.1.isNone)) = false := by rfl) : Ev X B (.Call (.Name x p) (e :: es) kws pos) S (.fr d) S2 :=
  fun F0 α H σ Q R k => wE.of (pe_callN F hr hg hm hkp hb pass0 pa_w pk_w hall hks hdb he hpl) (ha F0 α H σ _ R fun F1 α1 vs H1 R1 st1 r1 => hk F1 α1 H1 σ _ R1 fun F2 α2 zs H2 R2 st2 r2 => by
    have rr := Reps.append (Reps.append ((CRels.fr r1).mono st2.fro) r2) (hd F2)
    have lv : vs.length = n := by rw [← (CRels.fr r1).length]; exact l1
    have lz : zs.length = ks.length := by rw [← r2.length]; exact l2
    exact ⟨lv, lz, F2, α2, [], _, fun _ => False, R2.call0 rr, hs _ fun L' F' α' v H' ρ' σ' R' r' => k F' α2 v H' (R2.back0 R') ((st1.trans st2 h1).trans ⟨R'.bF, fun _ _ => rfl⟩ fun n h => h2 n (h1 n h)) r'⟩)
end
end Nz
namespace Nz
open PySem PySem.Spec PyProof.Rows L2
end Nz
namespace Nz
open PySem PySem.Spec PyProof.Rows L2
section
variable {K : Frag} {mg : Mg} {B : Bd} {F F' : Hp} {α : Nat → Addr} {H : Hp} {σ : L2.St} {S : Nz.S}
/-- the ground is moved up -/
def Bd.at (B : Bd) (F : Hp) : Bd := { B with F0 := F }
end
/-- // by any number but 0 -/
def CDivZ (_ j : Int) : Prop := j ≠ 0 ∧ j.natAbs.log2 < 9000
theorem fdivW_of {i j : Int} (h : j ≠ 0) (h2 : -(2 ^ 900) < j ∧ j < 2 ^ 900) : CDivZ i j := ⟨h, Nat.lt_of_lt_of_le (PySem.Flt.log2_lt_of (k := 900) (by decide) (by omega)) (by decide)⟩
end Nz
namespace PySem
open PySem.AutoSeq1
end PySem
namespace L2
open PySem PySem.Spec PyProof.Rows
end L2
namespace Nz
open PySem PySem.Spec PyProof.Rows L2
end Nz
namespace Nz
open PySem PySem.Spec PyProof.Rows L2
end Nz
namespace Nz
open PySem PySem.Spec PyProof.Rows L2
end Nz
namespace Nz
open PySem PySem.Spec PyProof.Rows L2 NdefX
def okD (d : D) : Prop := (∃ i : Int, d = .int i ∧ i.natAbs.log2 < 1920) ∨ ∃ s : Str, d = .str s ∧ s.length ≤ 20000
theorem okD_int {i : Int} (h : -(2 ^ 900) < i ∧ i < 2 ^ 900) : okD (.int i) := .inl ⟨i, rfl, Nat.lt_of_lt_of_le (PySem.Flt.log2_lt_of (k := 900) (by decide) (by omega)) (by decide)⟩
theorem okD_str {s : Str} (h : s.length ≤ 20000) : okD (.str s) := .inr ⟨s, rfl, h⟩
/-- what the ground knows of the error -/
def ExD (K : Frag) (mg : Mg) (F : Hp) (fs : List (Str × D)) (d : Option Addr) : Prop := (fs = [] ∧ d = none) ∨ (fs ≠ [] ∧ ∃ dx vs, d = some dx ∧ F dx = some (.xd vs) ∧ RepF K mg F fs vs)
theorem ExD.mono {K : Frag} {mg : Mg} {F F' : Hp} {fs : List (Str × D)} {d : Option Addr} (h : ExD K mg F fs d) (s : Same F F') : ExD K mg F' fs d := by
  rcases h with h | ⟨h, dx, vs, h1, h2, h3⟩
  · exact .inl h
  · exact .inr ⟨h, dx, vs, h1, s _ _ h2, h3.mono s⟩
end Nz
namespace Nz
open PySem PySem.Spec PyProof.Rows L2
end Nz
namespace Nz
open PySem PySem.Spec PyProof.Rows L2
end Nz
namespace Nz
open PySem PySem.Spec PyProof.Rows L2
end Nz
namespace Nz
open PySem PySem.Spec PyProof.Rows L2
end Nz
namespace Nz
open PySem PySem.Spec PyProof.Rows L2
end Nz
namespace Nz
open PySem PySem.Spec PyProof.Rows L2
end Nz
namespace Nz
open PySem PySem.Spec PyProof.Rows L2
open AutoSeq1 (wpAny_loadPart')
open Sem (wp)
end Nz
namespace Nz
open PySem PySem.Spec PyProof.Rows L2
def IsG (t : Bool) (h : Heap) (a : Addr) (items : Array Value) : Prop := match t with | true => h.IsTuple a items | false => h.IsList a items
def ItG (t : Bool) (h : Heap) (it a : Addr) (i : Nat) : Prop := match t with | true => h.IsTupleIter it a i | false => h.IsListIter it a i
theorem ItG.at {t : Bool} {h h' : Heap} {it a : Addr} {i : Nat} (x : ItG t h it a i) (k : ∀ o, h.get? it = some o → h'.get? it = some o) : ItG t h' it a i := by
  cases t
  · exact Heap.IsListIter.at x k
  · exact Heap.IsTupleIter.at x k
theorem ItG.is {t : Bool} {h : Heap} {it a : Addr} {i : Nat} (x : ItG t h it a i) : ∃ o, h.get? it = some o ∧ ∀ v, o.data ≠ .cell v := by
  cases t
  · obtain ⟨o, e, _, d⟩ := x; exact ⟨o, e, fun v q => by rw [d] at q; cases q⟩
  · obtain ⟨o, e, _, d⟩ := x; exact ⟨o, e, fun v q => by rw [d] at q; cases q⟩
theorem IsG.at {t : Bool} {h h' : Heap} {a : Addr} {xs : Array Value} (x : IsG t h a xs) (k : ∀ o, h.get? a = some o → h'.get? a = some o) : IsG t h' a xs := by
  cases t
  · exact Heap.IsList.at x k
  · exact Heap.IsTuple.at x k
end Nz
namespace Nz
open PySem PySem.Spec PyProof.Rows L2
end Nz
namespace PySem
open AutoSeq1
end PySem
namespace Nz
open PySem PySem.Spec PyProof.Rows L2
end Nz
namespace Nz
open PySem PySem.Spec PyProof.Rows L2
end Nz
namespace Nz
open PySem PySem.Spec PyProof.Rows L2
end Nz
namespace L2
open PySem PySem.Spec PyProof.Rows
end L2
namespace Nz
open PySem PySem.Spec PyProof.Rows L2
end Nz
namespace Nz
open PySem PySem.Spec PyProof.Rows L2 SkE TL
abbrev eD : D → D := fun d => d
end Nz
namespace L2
open PySem PySem.Spec PyProof.Rows
end L2
namespace Nz
open PySem PySem.Spec PyProof.Rows L2 SkE TL
end Nz
namespace Nz
open PySem PySem.Spec PyProof.Rows L2
/-- the scope of the comprehension that a statement assigns -/
def lcScope : Stmt → Scope
  | .Assign _ (.ListComp _ _ sc _) _ => sc
  | _ => ⟨.function, [], false, false, []⟩
/-- the scope of a comprehension as it stands in its own frame -/
def relabS (scope outer : Scope) : Scope := { scope with names := scope.names.map fun (n, k) => if (k == NameKind.free && outer.kind == .function && outer.names.lookup n == some .cell) then (n, NameKind.cell) else (n, k) }
end Nz
namespace Nz
open PySem PySem.Spec PyProof.Rows L2 SkE TL
end Nz
namespace Nz
open PySem PySem.Spec PyProof.Rows L2 SkE TL
end Nz
namespace Nz
open PySem PySem.Spec PyProof.Rows L2
end Nz
namespace Nz
open PySem PySem.Spec PyProof.Rows L2
end Nz
namespace Nz
open PySem PySem.Spec PyProof.Rows L2
end Nz
namespace Nz
open PySem PySem.Spec PyProof.Rows L2
end Nz
namespace Nz
open PySem PySem.Spec PyProof.Rows L2
end Nz
namespace Nz
open PySem PySem.Spec PyProof.Rows L2
end Nz
namespace Nz
open PySem PySem.Spec PyProof.Rows L2
end Nz
namespace Nz
open PySem PySem.Spec PyProof.Rows L2
end Nz
namespace Nz
open PySem PySem.Spec PyProof.Rows L2
end Nz
namespace Nz
open PySem PySem.Spec PyProof.Rows L2
end Nz
namespace Nz
open PySem PySem.Spec PyProof.Rows L2
end Nz
namespace Nz
open PySem PySem.Spec PyProof.Rows L2
end Nz
namespace Nz
open PySem PySem.Spec PyProof.Rows L2
end Nz
namespace Nz
open PySem PySem.Spec PyProof.Rows L2
end Nz
namespace Nz
open PySem PySem.Spec PyProof.Rows L2
/-- how a zip stands that gave out i pairs, all of them still held -/
def ZSt (z TI TO i1 i2 l1 l2 : Addr) (i : Nat) (h : Heap) : Prop :=
  IsPair h TI (.ref i1) (.ref i2) ∧ h.IsListIter i1 l1 i ∧ h.IsListIter i2 l2 i ∧ (∃ o, h.get? TO = some o) ∧
    ((IsZip h z TI TO .none ∧ ∃ x y, IsPair h TO x y) ∨ ∃ T f oT, IsZipHeld h z TI TO T f ∧ h.get? T = some oT ∧ T ∉ [z, TI, TO, i1, i2])
theorem ZSt.frame {z TI TO i1 i2 l1 l2 : Addr} {i : Nat} {h h' : Heap} {S : Addr} (st : ZSt z TI TO i1 i2 l1 l2 i h) (hS : S ∉ [z, TI, TO, i1, i2]) (hk : ∀ b o, b ≠ S → h.get? b = some o → h'.get? b = some o)
    (hS2 : ∀ o, h.get? S = some o → ∃ o', h'.get? S = some o') : ZSt z TI TO i1 i2 l1 l2 i h' := by
  obtain ⟨a1, a2, a3, ⟨oo, aO⟩, a4⟩ := st
  simp only [List.mem_cons, List.not_mem_nil, or_false, not_or] at hS
  obtain ⟨s1, s2, s3, s4, s5⟩ := hS
  refine ⟨hk _ _ (Ne.symm s2) a1, a2.at fun o e => hk _ o (Ne.symm s4) e, a3.at fun o e => hk _ o (Ne.symm s5) e, ⟨oo, hk _ _ (Ne.symm s3) aO⟩, ?_⟩
  rcases a4 with ⟨a, x, y, b⟩ | ⟨T, f, oT, a, b, c⟩
  · exact .inl ⟨hk _ _ (Ne.symm s1) a, x, y, hk _ _ (Ne.symm s3) b⟩
  · by_cases q : T = S
    · subst q
      obtain ⟨o', ho⟩ := hS2 _ b
      exact .inr ⟨T, f, o', hk _ _ (Ne.symm s1) a, ho, c⟩
    · exact .inr ⟨T, f, oT, hk _ _ (Ne.symm s1) a, hk _ _ q b, c⟩
end Nz
namespace Nz
open PySem PySem.Spec PyProof.Rows L2
section
variable {κ τ : Type} [DecidableEq κ]
def dget (xs : List (κ × τ)) (k : κ) : Option τ := (xs.find? fun p => decide (p.1 = k)).map (·.2)
def dput (xs : List (κ × τ)) (k : κ) (v : τ) : List (κ × τ) := if (xs.any fun p => decide (p.1 = k)) = true then xs.map (fun p => if p.1 = k then (p.1, v) else p) else xs ++ [(k, v)]
theorem dget_cons (p : κ × τ) (xs : List (κ × τ)) (k : κ) : dget (p :: xs) k = if p.1 = k then some p.2 else dget xs k := by
  unfold dget
  rw [List.find?_cons]
  by_cases h : p.1 = k
  · rw [if_pos h, decide_eq_true h]; rfl
  · rw [if_neg h, decide_eq_false h]
theorem dput_len (xs : List (κ × τ)) (k : κ) (v : τ) : (dput xs k v).length ≤ xs.length + 1 := by
  unfold dput
  split
  · rw [List.length_map]; omega
  · rw [List.length_append, List.length_singleton]; exact Nat.le_refl _
theorem dany (xs : List (κ × τ)) (k : κ) : (xs.any fun p => decide (p.1 = k)) = (dget xs k).isSome := by
  induction xs with
  | nil => rfl
  | cons p xs ih =>
    rw [List.any_cons, dget_cons, ih]
    by_cases h : p.1 = k
    · rw [if_pos h, decide_eq_true h]; rfl
    · rw [if_neg h, decide_eq_false h]; rfl
end
/-- a dict's entries as they stand in the state -/
def enM {κ τ ι μ : Type} (kk : κ → ι) (e : τ → μ) (xs : List (κ × τ)) : List (ι × μ) := xs.map fun p => (kk p.1, e p.2)
section
variable {κ τ ι μ : Type} [DecidableEq κ] [DecidableEq ι] {kk : κ → ι} {e : τ → μ}
theorem dget_en (h : ∀ a b, kk a = kk b → a = b) (xs : List (κ × τ)) (k : κ) : dget (enM kk e xs) (kk k) = (dget xs k).map e := by
  induction xs with
  | nil => rfl
  | cons p xs ih =>
    show dget ((kk p.1, e p.2) :: enM kk e xs) (kk k) = _
    rw [dget_cons, dget_cons, ih]
    by_cases q : p.1 = k
    · rw [if_pos q, if_pos (congrArg kk q)]; rfl
    · rw [if_neg q, if_neg (fun z => q (h _ _ z))]
theorem dput_en (h : ∀ a b, kk a = kk b → a = b) (xs : List (κ × τ)) (k : κ) (v : τ) : dput (enM kk e xs) (kk k) (e v) = enM kk e (dput xs k v) := by
  unfold dput
  rw [dany, dany, dget_en h, Option.isSome_map]
  split
  · unfold enM
    rw [List.map_map, List.map_map]
    refine List.map_congr_left fun p _ => ?_
    show (if kk p.1 = kk k then (kk p.1, e v) else (kk p.1, e p.2)) = (kk (if p.1 = k then (p.1, v) else p).1, e (if p.1 = k then (p.1, v) else p).2)
    by_cases q : p.1 = k
    · rw [if_pos q, if_pos (congrArg kk q)]
    · rw [if_neg q, if_neg (fun z => q (h _ _ z))]
  · unfold enM; rw [List.map_append]; rfl
end
section
variable {κ : Type} [DecidableEq κ] {K : Frag} {mg : Mg} {F F' : Hp}
abbrev PrR (κ : Type) (K : Frag) (mg : Mg) (F : Hp) (ds : List (κ × D)) (vs : List (κ × V)) : Prop := Paired (fun (p : κ × D) (q : κ × V) => p.1 = q.1 ∧ Rep K mg F p.2 q.2) ds vs
theorem PrR.of : ∀ {ds : List (κ × D)} {vs : List (κ × V)}, ds.map Prod.fst = vs.map Prod.fst → Reps K mg F (ds.map Prod.snd) (vs.map Prod.snd) → PrR κ K mg F ds vs
  | [], [], _, _ => .nil
  | [], _ :: _, h, _ => by cases h
  | _ :: _, [], h, _ => by cases h
  | p :: ds, q :: vs, h, r => by
    rw [List.map_cons, List.map_cons] at h
    cases r with
    | cons r1 r2 => exact .cons ⟨(List.cons.inj h).1, r1⟩ (PrR.of (List.cons.inj h).2 r2)
theorem PrR.mono (s : Same F F') {ds : List (κ × D)} {vs : List (κ × V)} (h : PrR κ K mg F ds vs) : PrR κ K mg F' ds vs := Paired.imp (fun _ _ z => ⟨z.1, z.2.mono s⟩) h
theorem PrR.get : ∀ {ds : List (κ × D)} {vs : List (κ × V)} {k : κ} {d : D}, PrR κ K mg F ds vs → dget ds k = some d → ∃ v, dget vs k = some v ∧ Rep K mg F d v
  | _, _, k, d, .nil, h => by cases h
  | p :: ds, q :: vs, k, d, .cons ⟨h1, h2⟩ r, h => by
    rw [dget_cons] at h ⊢
    rw [← h1]
    by_cases z : p.1 = k
    · rw [if_pos z] at h ⊢
      cases h
      exact ⟨_, rfl, h2⟩
    · rw [if_neg z] at h ⊢
      exact PrR.get r h
theorem PrR.getN : ∀ {ds : List (κ × D)} {vs : List (κ × V)} {k : κ}, PrR κ K mg F ds vs → dget ds k = none → dget vs k = none
  | _, _, k, .nil, h => rfl
  | p :: ds, q :: vs, k, .cons ⟨h1, h2⟩ r, h => by
    rw [dget_cons] at h ⊢
    rw [← h1]
    by_cases z : p.1 = k
    · rw [if_pos z] at h; cases h
    · rw [if_neg z] at h ⊢
      exact PrR.getN r h
theorem PrR.some {ds : List (κ × D)} {vs : List (κ × V)} {k : κ} (h : PrR κ K mg F ds vs) : (dget vs k).isSome = (dget ds k).isSome := by
  cases q : dget ds k with
  | none => rw [h.getN q]; rfl
  | some d => obtain ⟨v, e, _⟩ := h.get q; rw [e]; rfl
theorem PrR.length : ∀ {ds : List (κ × D)} {vs : List (κ × V)}, PrR κ K mg F ds vs → ds.length = vs.length
  | _, _, .nil => rfl
  | _, _, .cons _ r => congrArg (· + 1) (PrR.length r)
theorem PrR.app : ∀ {ds : List (κ × D)} {vs : List (κ × V)} {es : List (κ × D)} {us : List (κ × V)}, PrR κ K mg F ds vs → PrR κ K mg F es us → PrR κ K mg F (ds ++ es) (vs ++ us)
  | _, _, _, _, .nil, s => s
  | _, _, _, _, .cons h r, s => .cons h (PrR.app r s)
theorem PrR.upd {k : κ} {d : D} {v : V} (h0 : Rep K mg F d v) : ∀ {ds : List (κ × D)} {vs : List (κ × V)}, PrR κ K mg F ds vs → PrR κ K mg F (ds.map fun p => if p.1 = k then (p.1, d) else p) (vs.map fun p => if p.1 = k then (p.1, v) else p)
  | _, _, .nil => .nil
  | p :: ds, q :: vs, .cons ⟨h1, h2⟩ r => by
    refine .cons ?_ (PrR.upd h0 r)
    show (if p.1 = k then (p.1, d) else p).1 = (if q.1 = k then (q.1, v) else q).1 ∧ Rep K mg F (if p.1 = k then (p.1, d) else p).2 (if q.1 = k then (q.1, v) else q).2
    by_cases z : p.1 = k
    · have z2 : q.1 = k := h1 ▸ z
      rw [if_pos z, if_pos z2]; exact ⟨h1, h0⟩
    · have z2 : ¬ q.1 = k := h1 ▸ z
      rw [if_neg z, if_neg z2]; exact ⟨h1, h2⟩
theorem PrR.put {ds : List (κ × D)} {vs : List (κ × V)} {k : κ} {d : D} {v : V} (h : PrR κ K mg F ds vs) (h0 : Rep K mg F d v) : PrR κ K mg F (dput ds k d) (dput vs k v) := by
  unfold dput
  rw [dany, dany, h.some]
  split
  · exact PrR.upd h0 h
  · exact h.app (.cons ⟨rfl, h0⟩ .nil)
end
/-- a key as it stands in the state, and as data -/
structure KeyE {κ : Type} (kk : κ → Key) (ke : κ → D) : Prop where
  val : ∀ {K mg F k v}, Rep K mg F (ke k) v → v = kV (kk k)
  inj : ∀ a b, kk a = kk b → a = b
def kS : Str → Key := Sum.inr
theorem ke_str : KeyE kS D.str := ⟨fun r => by cases r; rfl, fun a b h => Sum.inr.inj h⟩
abbrev eDK {κ τ : Type} (kk : κ → Key) (e : τ → D) (xs : List (κ × τ)) : D := .dK (enM kk e xs)
abbrev loK {κ τ : Type} (kk : κ → Key) (e : τ → D) (xs : List (κ × τ)) : LO := .dK (enM kk e xs)
def AsDK (L : List (Nat × LO)) (c : Ce) (ds : List (Key × D)) : Prop :=
  match c with
  | .fr d => d = .dK ds
  | .ad n => getL n L = some (.dK ds)
  | .xv _ => False
section
variable {X : Cx} {B : Bd} {S S1 S2 : Nz.S} {κ τ : Type} [DecidableEq κ] {kk : κ → Key} {ke : κ → D} {e : τ → D}
theorem Rel.asDK {F : Hp} {α : Nat → Addr} {H : Hp} {σ : L2.St} {S : Nz.S} (R : RelX X B F α H σ S) {c : Ce} {ds : List (Key × D)} {v : V} (h : AsDK S.L c ds) (r : CR X F α S.L c v) : ∃ a vs, v = .ref a ∧ H a = some (.dK vs) ∧ PrR Key X.K X.mg F ds vs := by
  cases c with
  | fr d =>
    have e : d = .dK ds := h
    subst e
    have r' : Rep X.K X.mg F (.dK ds) v := r
    cases r' with
    | dK h1 h2 h3 => exact ⟨_, _, rfl, R.sub _ _ h1, PrR.of h2 h3⟩
  | ad n =>
    obtain ⟨_, rfl⟩ := r
    obtain ⟨_, _, vs, e, q⟩ := R.live n _ (getL_mem h)
    exact ⟨_, vs, rfl, e, q⟩
  | xv u => exact False.elim h
/-- {}, a new dict that lives -/
theorem ev_dnewK (m : Nat) {pos : Pos} (kk : κ → Key) (e : τ → D) (hn : m ∉ names S.L) (h100 : 100 ≤ m) : Ev X B (.Dict [] [] pos) S (.ad m) ⟨S.ρ, S.L ++ [(m, loK kk e [])]⟩ :=
  fun F α H σ Q R k => wE.of pe_dnewK fun p hp => by
    refine k F (setα α m p) _ _ (R.allocL hp hn h100 ⟨[], upd_same, .nil⟩) (stp_setα hn) ⟨?_, ?_⟩
    · rw [names_append]; exact List.mem_append_right _ (List.mem_singleton.mpr rfl)
    · show V.ref p = V.ref (if m = m then _ else α m)
      rw [if_pos rfl]
/-- d[k] -/
theorem ev_dgetK [Inhabited τ] {o i : Expr} {pos : Pos} {c : Ce} {xs : List (κ × τ)} {k : κ} (hu : X.A.units + 64 < cLine) (hk : KeyE kk ke) (hl : AsDK S2.L c (enM kk e xs)) (hsome : (dget xs k).isSome = true) (ho : Ev X B o S c S1) (hi : Ev X B i S1 (.fr (ke k)) S2)
    (h1 : Sub S.L S1.L := by exact Sub.refl) (h2 : Sub S1.L S2.L := by exact Sub.refl) (hs : NoSl i := by exact fun _ _ => rfl) : Ev X B (.Subscript o i pos) S (.fr (e ((dget xs k).getD default))) S2 :=
  fun F α H σ Q R kk' => wE.of (pe_dget (by omega) pe_w pe_w hs) (ho F α H σ _ R fun F1 α1 v1 H1 R1 st1 r1 => hi F1 α1 H1 σ _ R1 fun F2 α2 v2 H2 R2 st2 r2 => by
    obtain ⟨a, vs, rfl, ha, hp⟩ := R2.asDK hl (CRel.step st2 h2 r1)
    have hv := hk.val r2
    subst hv
    obtain ⟨y, hy⟩ := Option.isSome_iff_exists.mp hsome
    have hg : dget (enM kk e xs) (kk k) = some (e y) := by rw [dget_en hk.inj, hy]; rfl
    obtain ⟨v, e1, r⟩ := hp.get hg
    have g := DGet.k (k := kk k) ha
    rw [show valV vs (kk k) = some v from e1] at g
    refine ⟨a, v, rfl, g, kk' F2 α2 v H2 R2 (st1.trans st2 h1) ?_⟩
    rw [hy]; exact r)
/-- d[k] = v -/
theorem ex_dputK {K : Out → Prop} {n : Nat} {o i value : Expr} {pos pos' : Pos} {xs : List (κ × τ)} {k : κ} {v : τ} (hu : X.A.units + 64 < cLine) (hk : KeyE kk ke) (hn : getL n S1.L = some (loK kk e xs)) (hlen : xs.length < sizeLine) (he : Ev X B value S (.fr (e v)) S1) (ho : Ev X B o S1 (.ad n) S1) (hi : Ev X B i S1 (.fr (ke k)) S1)
    (k' : K (.nx ⟨S1.ρ, setL n (loK kk e (dput xs k v)) S1.L⟩)) (hs : swapsWith value (some (.Subscript o i pos')) pos.line X.env = pure false := by rfl) : Ex X B (.Assign [.Subscript o i pos'] value pos) S K :=
  fun F α H σ D R oo => wS.of (ps_dput (by omega) pe_w pe_w pe_w hs) (he F α H σ _ R fun F1 α1 v1 H1 R1 st1 r1 => ho F1 α1 H1 σ _ R1 fun F2 α2 v2 H2 R2 st2 r2 => hi F2 α2 H2 σ _ R2 fun F3 α3 v3 H3 R3 st3 r3 => by
    obtain ⟨hm, rfl⟩ := r2
    have hv := hk.val r3
    subst hv
    obtain ⟨f0, f1, vs, e1, rs⟩ := R3.live n _ (getL_mem hn)
    have en : α3 n = α2 n := st3.nm n hm
    rw [en] at e1
    refine ⟨α2 n, _, rfl, DPut.k e1 (by have := PrR.length rs; unfold enM at this; rw [List.length_map] at this; omega), ?_⟩
    have Rp := R3.put (n := n) (u := loK kk e (dput xs k v)) (o' := .dK (putK vs (kk k) v1)) (getL_mem hn) ⟨putK vs (kk k) v1, upd_same, by
      have := PrR.put (k := kk k) rs (Rep.mono (st2.fro.trans st3.fro) r1)
      rw [dput_en hk.inj] at this
      exact this⟩
    rw [en] at Rp
    exact oo.nx _ F3 α3 _ σ k' Rp ((st1.fro.trans st2.fro).trans st3.fro))
end
theorem PrR.keys {κ : Type} {K : Frag} {mg : Mg} {F : Hp} : ∀ {ds : List (κ × D)} {vs : List (κ × V)}, Paired (fun (p : κ × D) (q : κ × V) => p.1 = q.1 ∧ Rep K mg F p.2 q.2) ds vs → ds.map Prod.fst = vs.map Prod.fst
  | _, _, .nil => rfl
  | _, _, .cons h r => by rw [List.map_cons, List.map_cons, h.1, PrR.keys r]
theorem PrR.reps {κ : Type} {K : Frag} {mg : Mg} {F : Hp} : ∀ {ds : List (κ × D)} {vs : List (κ × V)}, Paired (fun (p : κ × D) (q : κ × V) => p.1 = q.1 ∧ Rep K mg F p.2 q.2) ds vs → Reps K mg F (ds.map Prod.snd) (vs.map Prod.snd)
  | _, _, .nil => .nil
  | _, _, .cons h r => .cons h.2 (PrR.reps r)
section
variable {K : Frag} {mg : Mg} {B : Bd} {F : Hp} {α : Nat → Addr} {H : Hp} {σ : L2.St} {S : Nz.S}
/-- a live dict is frozen -/
theorem Rel.freezeDK (R : Rel K mg B F α H σ S) {n : Nat} {ds : List (Key × D)} (hn : getL n S.L = some (.dK ds)) :
    ∃ F', Rel K mg B F' α H σ (frS n (.dK ds) S) ∧ Stp F α S.L F' α ∧ Rep K mg F' (.dK ds) (.ref (α n)) ∧ ∀ c v, CRel K mg F α S.L c v → CRel K mg F' α (frS n (.dK ds) S).L (frC n (.dK ds) c) v := by
  obtain ⟨f0, f1, vs, e, r⟩ := R.live n _ (getL_mem hn)
  have hF : Same F (upd F (α n) (.dK vs)) := same_upd f0
  have hd : Rep K mg (upd F (α n) (.dK vs)) (.dK ds) (.ref (α n)) := .dK upd_same (PrR.keys r) (PrR.reps (PrR.mono hF r))
  refine ⟨upd F (α n) (.dK vs), ⟨fun b u q => ?_, R.bF.trans hF, fun b u q => ?_, R.frame, ?_, fun a b ha hb => ?_, fun m o hm => ?_, R.slots.freeze hF hd, fun m a e hm => R.fix m a e (names_delL.mp (by rw [← names_frS]; exact hm)).2⟩, ⟨hF, fun _ _ => rfl⟩, hd, fun c v h => h.freeze hF hd⟩
  · by_cases z : b = α n
    · subst z; rw [upd_same] at q; rw [e]; exact q
    · rw [upd_ne z] at q; exact R.sub b u q
  · by_cases z : b = α n
    · subst z; exact .inr f1
    · rw [upd_ne z] at q; exact R.nF b u q
  · show (names ((delL n S.L).map fun p => (p.1, frO n (.dK ds) p.2))).Nodup
    rw [names_frS]; exact nodup_delL R.nd
  · have ha : a ∈ names ((delL n S.L).map fun p => (p.1, frO n (.dK ds) p.2)) := ha
    have hb : b ∈ names ((delL n S.L).map fun p => (p.1, frO n (.dK ds) p.2)) := hb
    rw [names_frS] at ha hb
    exact R.inj a b (names_delL.mp ha).2 (names_delL.mp hb).2
  · obtain ⟨⟨m', o'⟩, h1, h2⟩ := List.mem_map.mp hm
    cases h2
    obtain ⟨h3, h4⟩ := mem_delL.mp h1
    obtain ⟨g0, g1, g2⟩ := R.live m' o' h4
    have ne : α m' ≠ α n := fun q => h3 (R.inj _ _ (mem_names h4) (mem_names (getL_mem hn)) q)
    refine ⟨(upd_ne ne).trans g0, g1, ?_⟩
    cases o' with
    | fl ds' => obtain ⟨us, e1, r1⟩ := g2; exact ⟨us, e1, r1.mono hF⟩
    | cl cs => obtain ⟨us, e1, r1⟩ := g2; exact ⟨us, e1, r1.freeze hF hd⟩
    | ins c fs =>
      obtain ⟨C, dx, us, m1, e1, e2, e3, e4, r1⟩ := g2
      exact ⟨C, dx, us, m1, e1, e2, by rw [upd_ne (fun q => by rw [q, e] at e2; cases e2)]; exact e3, e4, r1.freeze hF hd⟩
    | dT kvs => obtain ⟨us, e1, r1⟩ := g2; exact ⟨us, e1, Paired.imp (fun _ _ z => ⟨z.1, z.2.mono hF⟩) r1⟩
    | dK kvs => obtain ⟨us, e1, r1⟩ := g2; exact ⟨us, e1, Paired.imp (fun _ _ z => ⟨z.1, z.2.mono hF⟩) r1⟩
    | dC kvs => obtain ⟨us, e1, r1⟩ := g2; exact ⟨us, e1, r1.freeze hF hd⟩
end
section
variable {X : Cx} {B : Bd} {S : Nz.S} {κ τ : Type} {kk : κ → Key} {e : τ → D}
theorem exs_freezeDK {sts : List Stmt} {K : Out → Prop} (n : Nat) {xs : List (κ × τ)} (hn : getL n S.L = some (loK kk e xs)) (h : Exs X B sts (frS n (eDK kk e xs) S) K) : Exs X B sts S K := fun F α H σ D R o => by
  obtain ⟨F', R', st, _⟩ := R.freezeDK hn
  exact h F' α H σ D R' (o.mono st.fro)
end
end Nz
namespace Nz
open PySem PySem.Spec PyProof.Rows L2
/-- the scope of a comprehension that a return hands back -/
def lcScopeR : Stmt → Scope
  | .Return (some (.ListComp _ _ sc _)) _ => sc
  | st => lcScope st
section
variable {X : Cx} {B : Bd} {S S2 : Nz.S} {kws : List Keyword} {pos p : Pos} {x : Str} {d : D} {es' dd : List D} {dv : List V} {mv : List Value} {f : Addr} {fd : FuncData} {ps ks : List Str} {k n : Nat} {sp : SpN}
theorem wpE_callN0 {CX : CXT} {sp : Sp} {E : XK} {g : List Value → List Value → List Value} {gV : List V → List V → List V} (F : FnOk X.prog X.w X.K X.mg X.base CX k f fd ps sp) (hr : Room k X.A) (hg : Gl X x) (hm : X.mg x = some (.ref f)) (hk : PySem.W.keepIn X.K (.ref f) = true) (hb : KBn X.K fd ps 0 ks g gV) (hx : Passes CX X E)
    (hall : (backToKw pos (keywordEach kws X.env)).all (·.1.isSome) = true) (hks : (backToKw pos (keywordEach kws X.env)).filterMap (·.1) = ks) (hdb : (x == ("__debug__" : Str)) = false)
    (hpl : ((backTo pos (starEach [] X.env)).any (·.1) || (backToKw pos (keywordEach kws X.env)).any (·.1.isNone)) = false) {σ : L2.St} {H : Hp} {Q : VK}
    (h : wK X kws σ H fun zs H2 => zs.length = ks.length ∧ sp (gV [] zs) H2 Q E) : wE X (.Call (.Name x p) [] kws pos) σ H Q := by
  intro pins s I
  refine wpAny_Call_Name_kw (ld_glob I hg hm ?_ hdb)
  refine PySem.W.callWith_KW0 (h₀ := X.base) I.ok.mod.kin hk hall (thn (h pos pins s I) fun ws s2 ⟨zs, H2, I2, rz, l2, q2⟩ => ⟨I2.kIn, ?_⟩) hpl
  rw [hks]
  exact run_fnN (us := []) (vs := []) F hr hb hx I2 .nil rz rfl l2 q2
/-- f(k = v, ..) -/
theorem ev_callKw0 (F : FnOk X.prog X.w X.K X.mg X.base CX0 k f fd ps (SpOf X.K X.mg sp)) (hr : Room k X.A) (hm : X.mg x = some (.ref f)) (hkp : PySem.W.keepIn X.K (.ref f) = true) (hb : KBn X.K fd ps 0 ks (fun us ws => us ++ ws) (fun vs zs => vs ++ zs))
    (hk : Ek X B kws S es' S2) (l2 : es'.length = ks.length) (hs : ∀ Kc : Ce → List (Nat × LO) → Prop, (∀ L', Kc (.fr d) L') → sp (es'.map Ce.fr) [] Kc) (hg : Gl X x) (h2 : Sub S.L S2.L := by exact Sub.refl) (hdb : (x == ("__debug__" : Str)) = false := by decide)
    (hall : (backToKw pos (keywordEach kws X.env)).all (·.1.isSome) = true := by rfl) (hks : (backToKw pos (keywordEach kws X.env)).filterMap (·.1) = ks := by rfl)
    (hpl : ((backTo pos (starEach [] X.env)).any (·.1) || (backToKw pos (keywordEach kws X.env)).any (·.1.isNone)) = false := by rfl) : Ev X B (.Call (.Name x p) [] kws pos) S (.fr d) S2 :=
  fun F0 α H σ Q R k => wpE_callN0 F hr hg hm hkp hb pass0 hall hks hdb hpl (hk F0 α H σ _ R fun F2 α2 zs H2 R2 st2 r2 => by
    exact ⟨by rw [← r2.length]; exact l2, F2, α2, [], _, fun _ => False, R2.call0 r2, hs _ fun L' F' α' v H' ρ' σ' R' r' => k F' α2 v H' (R2.back0 R') (st2.trans ⟨R'.bF, fun _ _ => rfl⟩ h2) r'⟩)
theorem ev_callKwD0 (F : FnOk X.prog X.w X.K X.mg X.base CX0 k f fd ps (SpOf X.K X.mg sp)) (hr : Room k X.A) (hm : X.mg x = some (.ref f)) (hkp : PySem.W.keepIn X.K (.ref f) = true) (hb : KBn X.K fd ps 0 ks (fun us ws => us ++ ws ++ mv) (fun vs zs => vs ++ zs ++ dv)) (hd : ∀ F', Reps X.K X.mg F' dd dv)
    (hk : Ek X B kws S es' S2) (l2 : es'.length = ks.length) (hs : ∀ Kc : Ce → List (Nat × LO) → Prop, (∀ L', Kc (.fr d) L') → sp ((es' ++ dd).map Ce.fr) [] Kc) (hg : Gl X x) (h2 : Sub S.L S2.L := by exact Sub.refl) (hdb : (x == ("__debug__" : Str)) = false := by decide)
    (hall : (backToKw pos (keywordEach kws X.env)).all (·.1.isSome) = true := by rfl) (hks : (backToKw pos (keywordEach kws X.env)).filterMap (·.1) = ks := by rfl)
    (hpl : ((backTo pos (starEach [] X.env)).any (·.1) || (backToKw pos (keywordEach kws X.env)).any (·.1.isNone)) = false := by rfl) : Ev X B (.Call (.Name x p) [] kws pos) S (.fr d) S2 :=
  fun F0 α H σ Q R k => wpE_callN0 F hr hg hm hkp hb pass0 hall hks hdb hpl (hk F0 α H σ _ R fun F2 α2 zs H2 R2 st2 r2 => by
    exact ⟨by rw [← r2.length]; exact l2, F2, α2, [], _, fun _ => False, R2.call0 (Reps.append r2 (hd F2)), hs _ fun L' F' α' v H' ρ' σ' R' r' => k F' α2 v H' (R2.back0 R') (st2.trans ⟨R'.bF, fun _ _ => rfl⟩ h2) r'⟩)
end
end Nz
set_option maxRecDepth 100000
set_option maxHeartbeats 4000000
namespace My
open PySem PySem.Spec PyProof.Rows L2 Nz
def top (i : Nat) : Stmt := PySem.Challenge.pw_neverlate_k82_servers.main.body.getD i (.Pass ⟨0, 0, 0, 0⟩)
local macro_rules | `(tactic| walk_at "dl") => `(tactic| omega)
local macro_rules | `(tactic| walk_at "dk") => `(tactic| assumption)
local macro_rules | `(tactic| walk_at "pad") => `(tactic| decide)
local macro_rules | `(tactic| walk_at "okd") => `(tactic| first | exact okD_int (by omega) | exact okD_str (by omega))
local macro_rules | `(tactic| walk_at "intt") => `(tactic| fail)
local macro_rules | `(tactic| walk_at "rep") => `(tactic| omega)
local macro_rules | `(tactic| walk_at "sdI") => `(tactic| omega)
local macro_rules | `(tactic| walk_at "sdN") => `(tactic| first | omega | (simp only [List.length_set]; omega))
local macro_rules | `(tactic| walk_at "lnl") => `(tactic| fail)
local macro_rules | `(tactic| walk_at "ext") => `(tactic| omega)
local macro_rules | `(tactic| walk_at "lcm") => `(tactic| omega)
local macro_rules | `(tactic| walk_at "fdivw") => `(tactic| exact fdivW_of (by omega) (by omega))
local macro_rules | `(tactic| walk_at "str") => `(tactic| (apply small_log; omega))
local macro_rules | `(tactic| walk_at "scan") => `(tactic| (unfold PySem.scanBound; omega))
local macro_rules | `(tactic| walk_at "mulw") => `(tactic| first | exact mulW_of (by omega) | with_reducible assumption)
local macro_rules | `(tactic| walk_at "divw") => `(tactic| first | exact divW_of (by omega) | with_reducible assumption)
local macro_rules | `(tactic| walk_at "some") => `(tactic| first | assumption | exact some_ofW (by assumption) | exact some_of (by assumption) | exact some_of2 (by assumption) | exact some_of3 (by assumption) | exact some_of4 (by assumption) | exact some_of5 (by assumption) | (simp_all; done))
local macro_rules | `(tactic| walk_at "mem") => `(tactic| first | assumption | exact minL_mem (by walk_at "ne") | exact maxL_mem (by walk_at "ne"))
local macro_rules | `(tactic| walk_at "sd") => `(tactic| first | omega | (have hyy := seq_range (by assumption); omega) | (have hyy := rng_lt (by assumption); omega) | (simp only [List.length_append, List.length_map, List.length_cons, List.length_nil, List.length_range, List.length_replicate] at *; omega) | decide | with_reducible assumption | exact Int.emod_nonneg _ (by omega) | exact Int.emod_lt_of_pos _ (by omega) | (constructor <;> omega) | (refine ⟨?_, ?_⟩ <;> omega))
local macro_rules | `(tactic| walk_at "mul") => `(tactic| first | exact Or.inl ⟨by omega, by omega⟩ | (have hyy := seq_range (by assumption); exact Or.inl ⟨by omega, by omega⟩) | exact Or.inr ⟨by omega, by omega⟩ | with_reducible assumption)
local macro_rules | `(tactic| walk_at "ne") => `(tactic| first | assumption | (intro h; subst h; contradiction) | (intro h; simp only [h, List.isEmpty_nil, not_true_eq_false] at *; done) | (intro h; have := congrArg List.length h; simp only [List.length_map, List.length_range, List.length_nil, List.length_append, List.length_cons] at this; omega) | (simp; done) | (intro h; simp [h] at *; done) | (intro h; simp [h] at *; omega))
local macro_rules | `(tactic| walk_at "pre") => `(tactic| first | omega | with_reducible assumption | (simp only [List.length_map]; omega) | (refine ⟨?_, ?_⟩ <;> first | omega | with_reducible assumption) | (refine ⟨?_, ?_, ?_⟩ <;> first | omega | with_reducible assumption) | (refine ⟨?_, ?_, ?_, ?_⟩ <;> first | omega | with_reducible assumption) | (have hyy := seq_range (by assumption); (repeat' apply And.intro) <;> omega))
structure Task where
  name : Str
  kinds : List (Str × Int × Int)
  ways : List (Str × Str × Int)
  deriving Inhabited
def fTask (t : Task) : List (Str × D) := [("name", D.str t.name), ("kinds", (eU (eT3 D.str D.int D.int)) t.kinds), ("ways", (eU (eT3 D.str D.str D.int)) t.ways)]
abbrev eTask (t : Task) : D := .obj "Task" (fTask t)
abbrev s_law_row : Stmt := top 35
abbrev s_law_numbers : Stmt := top 36
abbrev s_is_integer : Stmt := top 25
abbrev s_is_name : Stmt := top 26
abbrev s_is_kind : Stmt := top 27
abbrev s_is_way : Stmt := top 28
abbrev s_are_different : Stmt := top 29
abbrev s_are_kinds : Stmt := top 30
abbrev s_are_ways : Stmt := top 31
abbrev s_Task_init__ : Stmt := inClass (top 33) 0
abbrev s_Task_kind_number : Stmt := inClass (top 33) 3
abbrev s_Task_kind : Stmt := inClass (top 33) 7
abbrev s_Task_ways_from : Stmt := inClass (top 33) 6
abbrev s_steps : Stmt := top 5
abbrev s_best_step : Stmt := top 6
abbrev s_rows : Stmt := top 2
abbrev s_demands : Stmt := top 3
abbrev s_joint_demands : Stmt := top 4
abbrev s_law_kinds : Stmt := top 37
abbrev s_law_ways : Stmt := top 38
abbrev s_server_table : Stmt := top 8
abbrev s_server_supply : Stmt := top 9
abbrev s_quotient_up : Stmt := top 14
abbrev s_needed_capacity : Stmt := top 10
abbrev s_is_enough : Stmt := top 13
abbrev s_needed_budget : Stmt := top 11
abbrev s_longest_period : Stmt := top 12
abbrev s_law_is_integer : Stmt := top 39
abbrev s_law_is_integero : Stmt := top 39
abbrev s_law_leasts : Stmt := top 40
abbrev s_law_demands : Stmt := top 41
abbrev s_law_server : Stmt := top 42
abbrev s_law_enough : Stmt := top 43
abbrev s_law_reserved : Stmt := top 44
abbrev s_law_budget : Stmt := top 45
abbrev s_law_is : Stmt := top 46
abbrev s_law_needs : Stmt := top 47
abbrev s_law : Stmt := top 48
structure TX (P : Program) (K : Frag) (mg : Mg) where
  n_abs : mg "abs" = none
  n_all : mg "all" = none
  n_bool : mg "bool" = none
  n_divmod : mg "divmod" = none
  n_enumerate : mg "enumerate" = none
  n_int : mg "int" = none
  n_isinstance : mg "isinstance" = none
  n_len : mg "len" = none
  n_list : mg "list" = none
  n_max : mg "max" = none
  n_min : mg "min" = none
  n_range : mg "range" = none
  n_set : mg "set" = none
  n_str : mg "str" = none
  n_sum : mg "sum" = none
  n_tuple : mg "tuple" = none
  n_zip : mg "zip" = none
  t_LONGEST_NAME : Tok
  c_LONGEST_NAME : mg "LONGEST_NAME" = some (.int 12 t_LONGEST_NAME)
  t_MOST_KINDS : Tok
  c_MOST_KINDS : mg "MOST_KINDS" = some (.int 8 t_MOST_KINDS)
  t_MOST_UNITS : Tok
  c_MOST_UNITS : mg "MOST_UNITS" = some (.int 1000 t_MOST_UNITS)
  t_MOST_WAYS : Tok
  c_MOST_WAYS : mg "MOST_WAYS" = some (.int 16 t_MOST_WAYS)
  t_NAME_CHARACTERS : Tok
  c_NAME_CHARACTERS : mg "NAME_CHARACTERS" = some (.str "abcdefghijklmnopqrstuvwxyz0123456789" t_NAME_CHARACTERS)
  C_Task : Addr
  q_Task : mg "Task" = some (.ref C_Task)
  cl_Task : Cls K C_Task
  na_Task_name : NoAttr K C_Task "name"
  na_Task_kinds : NoAttr K C_Task "kinds"
  na_Task_ways : NoAttr K C_Task "ways"
  a_law_row : Addr
  d_law_row : FuncData
  F_law_row : Fun K "_law_row" "_law_row" s_law_row a_law_row d_law_row
  k_law_row : PySem.W.keepIn K (.ref a_law_row) = true
  m_law_row : mg "_law_row" = some (.ref a_law_row)
  b_law_row : Binds K d_law_row ["_law_cell", "_law_many"] []
  a_law_numbers : Addr
  d_law_numbers : FuncData
  F_law_numbers : Fun K "_law_numbers" "_law_numbers" s_law_numbers a_law_numbers d_law_numbers
  k_law_numbers : PySem.W.keepIn K (.ref a_law_numbers) = true
  m_law_numbers : mg "_law_numbers" = some (.ref a_law_numbers)
  b_law_numbers : Binds K d_law_numbers ["_law_script", "_law_many"] []
  a_is_integer : Addr
  d_is_integer : FuncData
  F_is_integer : Fun K "is_integer" "is_integer" s_is_integer a_is_integer d_is_integer
  k_is_integer : PySem.W.keepIn K (.ref a_is_integer) = true
  m_is_integer : mg "is_integer" = some (.ref a_is_integer)
  b_is_integer : Binds K d_is_integer ["value", "low", "high"] []
  a_is_name : Addr
  d_is_name : FuncData
  F_is_name : Fun K "is_name" "is_name" s_is_name a_is_name d_is_name
  k_is_name : PySem.W.keepIn K (.ref a_is_name) = true
  m_is_name : mg "is_name" = some (.ref a_is_name)
  b_is_name : Binds K d_is_name ["value"] []
  a_is_kind : Addr
  d_is_kind : FuncData
  F_is_kind : Fun K "is_kind" "is_kind" s_is_kind a_is_kind d_is_kind
  k_is_kind : PySem.W.keepIn K (.ref a_is_kind) = true
  m_is_kind : mg "is_kind" = some (.ref a_is_kind)
  b_is_kind : Binds K d_is_kind ["value"] []
  a_is_way : Addr
  d_is_way : FuncData
  F_is_way : Fun K "is_way" "is_way" s_is_way a_is_way d_is_way
  k_is_way : PySem.W.keepIn K (.ref a_is_way) = true
  m_is_way : mg "is_way" = some (.ref a_is_way)
  b_is_way : Binds K d_is_way ["value", "kind_names"] []
  a_are_different : Addr
  d_are_different : FuncData
  F_are_different : Fun K "are_different" "are_different" s_are_different a_are_different d_are_different
  k_are_different : PySem.W.keepIn K (.ref a_are_different) = true
  m_are_different : mg "are_different" = some (.ref a_are_different)
  b_are_different : Binds K d_are_different ["names"] []
  a_are_kinds : Addr
  d_are_kinds : FuncData
  F_are_kinds : Fun K "are_kinds" "are_kinds" s_are_kinds a_are_kinds d_are_kinds
  k_are_kinds : PySem.W.keepIn K (.ref a_are_kinds) = true
  m_are_kinds : mg "are_kinds" = some (.ref a_are_kinds)
  b_are_kinds : Binds K d_are_kinds ["kinds"] []
  a_are_ways : Addr
  d_are_ways : FuncData
  F_are_ways : Fun K "are_ways" "are_ways" s_are_ways a_are_ways d_are_ways
  k_are_ways : PySem.W.keepIn K (.ref a_are_ways) = true
  m_are_ways : mg "are_ways" = some (.ref a_are_ways)
  b_are_ways : Binds K d_are_ways ["ways", "kinds"] []
  a_Task_init__ : Addr
  d_Task_init__ : FuncData
  F_Task_init__ : Fun K "__init__" "Task.__init__" s_Task_init__ a_Task_init__ d_Task_init__
  k_Task_init__ : PySem.W.keepIn K (.ref a_Task_init__) = true
  mk_Task_init__ : Mk K C_Task a_Task_init__
  kb_Task_init___1_kinds_ways : KBn K d_Task_init__ ["self", "name", "kinds", "ways"] (1 + 1) ["kinds", "ways"] (fun us ws => us ++ ws) (fun vs zs => vs ++ zs)
  a_Task_kind_number : Addr
  d_Task_kind_number : FuncData
  F_Task_kind_number : Fun K "kind_number" "Task.kind_number" s_Task_kind_number a_Task_kind_number d_Task_kind_number
  k_Task_kind_number : PySem.W.keepIn K (.ref a_Task_kind_number) = true
  me_Task_kind_number : Meth K C_Task "kind_number" a_Task_kind_number
  b_Task_kind_number : Binds K d_Task_kind_number ["self", "kind_name"] []
  a_Task_kind : Addr
  d_Task_kind : FuncData
  F_Task_kind : Fun K "_kind" "Task._kind" s_Task_kind a_Task_kind d_Task_kind
  k_Task_kind : PySem.W.keepIn K (.ref a_Task_kind) = true
  me_Task_kind : Meth K C_Task "_kind" a_Task_kind
  b_Task_kind : Binds K d_Task_kind ["self", "kind_name"] []
  a_Task_ways_from : Addr
  d_Task_ways_from : FuncData
  F_Task_ways_from : Fun K "ways_from" "Task.ways_from" s_Task_ways_from a_Task_ways_from d_Task_ways_from
  k_Task_ways_from : PySem.W.keepIn K (.ref a_Task_ways_from) = true
  me_Task_ways_from : Meth K C_Task "ways_from" a_Task_ways_from
  b_Task_ways_from : Binds K d_Task_ways_from ["self", "kind_name"] []
  a_steps : Addr
  d_steps : FuncData
  F_steps : Fun K "_steps" "_steps" s_steps a_steps d_steps
  k_steps : PySem.W.keepIn K (.ref a_steps) = true
  m_steps : mg "_steps" = some (.ref a_steps)
  b_steps : Binds K d_steps ["task", "kind_name"] []
  a_best_step : Addr
  d_best_step : FuncData
  F_best_step : Fun K "_best_step" "_best_step" s_best_step a_best_step d_best_step
  k_best_step : PySem.W.keepIn K (.ref a_best_step) = true
  m_best_step : mg "_best_step" = some (.ref a_best_step)
  b_best_step : Binds K d_best_step ["steps", "found", "length"] []
  a_rows : Addr
  d_rows : FuncData
  F_rows : Fun K "rows" "rows" s_rows a_rows d_rows
  k_rows : PySem.W.keepIn K (.ref a_rows) = true
  m_rows : mg "rows" = some (.ref a_rows)
  b_rows : Binds K d_rows ["task", "length"] []
  a_demands : Addr
  d_demands : FuncData
  F_demands : Fun K "demands" "demands" s_demands a_demands d_demands
  k_demands : PySem.W.keepIn K (.ref a_demands) = true
  m_demands : mg "demands" = some (.ref a_demands)
  b_demands : Binds K d_demands ["task", "length"] []
  a_joint_demands : Addr
  d_joint_demands : FuncData
  F_joint_demands : Fun K "joint_demands" "joint_demands" s_joint_demands a_joint_demands d_joint_demands
  k_joint_demands : PySem.W.keepIn K (.ref a_joint_demands) = true
  m_joint_demands : mg "joint_demands" = some (.ref a_joint_demands)
  b_joint_demands : Binds K d_joint_demands ["tasks", "length"] []
  a_law_kinds : Addr
  d_law_kinds : FuncData
  F_law_kinds : Fun K "_law_kinds" "_law_kinds" s_law_kinds a_law_kinds d_law_kinds
  k_law_kinds : PySem.W.keepIn K (.ref a_law_kinds) = true
  m_law_kinds : mg "_law_kinds" = some (.ref a_law_kinds)
  b_law_kinds : Binds K d_law_kinds ["_law_numbers_here", "_law_at"] []
  a_law_ways : Addr
  d_law_ways : FuncData
  F_law_ways : Fun K "_law_ways" "_law_ways" s_law_ways a_law_ways d_law_ways
  k_law_ways : PySem.W.keepIn K (.ref a_law_ways) = true
  m_law_ways : mg "_law_ways" = some (.ref a_law_ways)
  b_law_ways : Binds K d_law_ways ["_law_numbers_here", "_law_at", "_law_kinds_here"] []
  a_server_table : Addr
  d_server_table : FuncData
  F_server_table : Fun K "server_table" "server_table" s_server_table a_server_table d_server_table
  k_server_table : PySem.W.keepIn K (.ref a_server_table) = true
  m_server_table : mg "server_table" = some (.ref a_server_table)
  mvkb_server_table_0_period_budget : List Value
  dvkb_server_table_0_period_budget : List V
  kb_server_table_0_period_budget : KBn K d_server_table ["period", "budget", "offset", "capacity"] 0 ["period", "budget"] (fun us ws => us ++ ws ++ mvkb_server_table_0_period_budget) (fun vs zs => vs ++ zs ++ dvkb_server_table_0_period_budget)
  rkb_server_table_0_period_budget : ∀ F' : Hp, Reps K mg F' [D.int (0 : Int), D.int (1 : Int)] dvkb_server_table_0_period_budget
  kb_server_table_0_period_budget_offset_capacity : KBn K d_server_table ["period", "budget", "offset", "capacity"] 0 ["period", "budget", "offset", "capacity"] (fun us ws => us ++ ws) (fun vs zs => vs ++ zs)
  a_server_supply : Addr
  d_server_supply : FuncData
  F_server_supply : Fun K "server_supply" "server_supply" s_server_supply a_server_supply d_server_supply
  k_server_supply : PySem.W.keepIn K (.ref a_server_supply) = true
  m_server_supply : mg "server_supply" = some (.ref a_server_supply)
  mvkb_server_supply_0_period_budget_length : List Value
  dvkb_server_supply_0_period_budget_length : List V
  kb_server_supply_0_period_budget_length : KBn K d_server_supply ["period", "budget", "length", "capacity"] 0 ["period", "budget", "length"] (fun us ws => us ++ ws ++ mvkb_server_supply_0_period_budget_length) (fun vs zs => vs ++ zs ++ dvkb_server_supply_0_period_budget_length)
  rkb_server_supply_0_period_budget_length : ∀ F' : Hp, Reps K mg F' [D.int (1 : Int)] dvkb_server_supply_0_period_budget_length
  kb_server_supply_0_period_budget_length_capacity : KBn K d_server_supply ["period", "budget", "length", "capacity"] 0 ["period", "budget", "length", "capacity"] (fun us ws => us ++ ws) (fun vs zs => vs ++ zs)
  a_quotient_up : Addr
  d_quotient_up : FuncData
  F_quotient_up : Fun K "_quotient_up" "_quotient_up" s_quotient_up a_quotient_up d_quotient_up
  k_quotient_up : PySem.W.keepIn K (.ref a_quotient_up) = true
  m_quotient_up : mg "_quotient_up" = some (.ref a_quotient_up)
  b_quotient_up : Binds K d_quotient_up ["top", "bottom"] []
  a_needed_capacity : Addr
  d_needed_capacity : FuncData
  F_needed_capacity : Fun K "needed_capacity" "needed_capacity" s_needed_capacity a_needed_capacity d_needed_capacity
  k_needed_capacity : PySem.W.keepIn K (.ref a_needed_capacity) = true
  m_needed_capacity : mg "needed_capacity" = some (.ref a_needed_capacity)
  kb_needed_capacity_1_horizon : KBn K d_needed_capacity ["tasks", "horizon"] 1 ["horizon"] (fun us ws => us ++ ws) (fun vs zs => vs ++ zs)
  a_is_enough : Addr
  d_is_enough : FuncData
  F_is_enough : Fun K "_is_enough" "_is_enough" s_is_enough a_is_enough d_is_enough
  k_is_enough : PySem.W.keepIn K (.ref a_is_enough) = true
  m_is_enough : mg "_is_enough" = some (.ref a_is_enough)
  b_is_enough : Binds K d_is_enough ["wanted", "period", "budget", "capacity"] []
  a_needed_budget : Addr
  d_needed_budget : FuncData
  F_needed_budget : Fun K "needed_budget" "needed_budget" s_needed_budget a_needed_budget d_needed_budget
  k_needed_budget : PySem.W.keepIn K (.ref a_needed_budget) = true
  m_needed_budget : mg "needed_budget" = some (.ref a_needed_budget)
  mvkb_needed_budget_1_period_horizon : List Value
  dvkb_needed_budget_1_period_horizon : List V
  kb_needed_budget_1_period_horizon : KBn K d_needed_budget ["tasks", "period", "horizon", "capacity"] 1 ["period", "horizon"] (fun us ws => us ++ ws ++ mvkb_needed_budget_1_period_horizon) (fun vs zs => vs ++ zs ++ dvkb_needed_budget_1_period_horizon)
  rkb_needed_budget_1_period_horizon : ∀ F' : Hp, Reps K mg F' [D.int (1 : Int)] dvkb_needed_budget_1_period_horizon
  kb_needed_budget_1_period_horizon_capacity : KBn K d_needed_budget ["tasks", "period", "horizon", "capacity"] 1 ["period", "horizon", "capacity"] (fun us ws => us ++ ws) (fun vs zs => vs ++ zs)
  a_longest_period : Addr
  d_longest_period : FuncData
  F_longest_period : Fun K "longest_period" "longest_period" s_longest_period a_longest_period d_longest_period
  k_longest_period : PySem.W.keepIn K (.ref a_longest_period) = true
  m_longest_period : mg "longest_period" = some (.ref a_longest_period)
  kb_longest_period_1_share_horizon_longest : KBn K d_longest_period ["tasks", "share", "horizon", "longest"] 1 ["share", "horizon", "longest"] (fun us ws => us ++ ws) (fun vs zs => vs ++ zs)
  a_law_is_integer : Addr
  d_law_is_integer : FuncData
  F_law_is_integer : Fun K "_law_is_integer" "_law_is_integer" s_law_is_integer a_law_is_integer d_law_is_integer
  k_law_is_integer : PySem.W.keepIn K (.ref a_law_is_integer) = true
  m_law_is_integer : mg "_law_is_integer" = some (.ref a_law_is_integer)
  b_law_is_integer : Binds K d_law_is_integer ["_law_actual"] []
  a_law_is_integero : Addr
  d_law_is_integero : FuncData
  F_law_is_integero : Fun K "_law_is_integer" "_law_is_integer" s_law_is_integero a_law_is_integero d_law_is_integero
  k_law_is_integero : PySem.W.keepIn K (.ref a_law_is_integero) = true
  m_law_is_integero : mg "_law_is_integer" = some (.ref a_law_is_integero)
  b_law_is_integero : Binds K d_law_is_integero ["_law_actual"] []
  a_law_leasts : Addr
  d_law_leasts : FuncData
  F_law_leasts : Fun K "_law_leasts" "_law_leasts" s_law_leasts a_law_leasts d_law_leasts
  k_law_leasts : PySem.W.keepIn K (.ref a_law_leasts) = true
  m_law_leasts : mg "_law_leasts" = some (.ref a_law_leasts)
  b_law_leasts : Binds K d_law_leasts ["_law_table", "_law_most"] []
  a_law_demands : Addr
  d_law_demands : FuncData
  F_law_demands : Fun K "_law_demands" "_law_demands" s_law_demands a_law_demands d_law_demands
  k_law_demands : PySem.W.keepIn K (.ref a_law_demands) = true
  m_law_demands : mg "_law_demands" = some (.ref a_law_demands)
  b_law_demands : Binds K d_law_demands ["_law_kinds_here", "_law_ways_here", "_law_length"] []
  a_law_server : Addr
  d_law_server : FuncData
  F_law_server : Fun K "_law_server" "_law_server" s_law_server a_law_server d_law_server
  k_law_server : PySem.W.keepIn K (.ref a_law_server) = true
  m_law_server : mg "_law_server" = some (.ref a_law_server)
  b_law_server : Binds K d_law_server ["_law_numbers_here"] []
  a_law_enough : Addr
  d_law_enough : FuncData
  F_law_enough : Fun K "_law_enough" "_law_enough" s_law_enough a_law_enough d_law_enough
  k_law_enough : PySem.W.keepIn K (.ref a_law_enough) = true
  m_law_enough : mg "_law_enough" = some (.ref a_law_enough)
  b_law_enough : Binds K d_law_enough ["_law_works", "_law_table"] []
  a_law_reserved : Addr
  d_law_reserved : FuncData
  F_law_reserved : Fun K "_law_reserved" "_law_reserved" s_law_reserved a_law_reserved d_law_reserved
  k_law_reserved : PySem.W.keepIn K (.ref a_law_reserved) = true
  m_law_reserved : mg "_law_reserved" = some (.ref a_law_reserved)
  b_law_reserved : Binds K d_law_reserved ["_law_period", "_law_budget_here", "_law_capacity"] []
  a_law_budget : Addr
  d_law_budget : FuncData
  F_law_budget : Fun K "_law_budget" "_law_budget" s_law_budget a_law_budget d_law_budget
  k_law_budget : PySem.W.keepIn K (.ref a_law_budget) = true
  m_law_budget : mg "_law_budget" = some (.ref a_law_budget)
  b_law_budget : Binds K d_law_budget ["_law_works", "_law_period", "_law_capacity"] []
  a_law_is : Addr
  d_law_is : FuncData
  F_law_is : Fun K "_law_is" "_law_is" s_law_is a_law_is d_law_is
  k_law_is : PySem.W.keepIn K (.ref a_law_is) = true
  m_law_is : mg "_law_is" = some (.ref a_law_is)
  b_law_is : Binds K d_law_is ["_law_actual", "_law_due"] []
  a_law_needs : Addr
  d_law_needs : FuncData
  F_law_needs : Fun K "_law_needs" "_law_needs" s_law_needs a_law_needs d_law_needs
  k_law_needs : PySem.W.keepIn K (.ref a_law_needs) = true
  m_law_needs : mg "_law_needs" = some (.ref a_law_needs)
  b_law_needs : Binds K d_law_needs ["_law_tasks", "_law_works", "_law_numbers_here"] []
  a_law : Addr
  d_law : FuncData
  F_law : Fun K "law" "law" s_law a_law d_law
  k_law : PySem.W.keepIn K (.ref a_law) = true
  m_law : mg "law" = some (.ref a_law)
  b_law : Binds K d_law ["_law_script"] []
  e_law : ∀ (s : Shared) (v : Value), BindsTo s d_law ⟨[v], []⟩ [("_law_script", v)]
section
variable {P : Program} {w : World} {K : Frag} {mg : Mg} {base : Heap}
def m_law_row_l0 (cell : Int) (zs0 : (List Int) × Int) (zy0 : Nat) : (List Int) × Int :=
  if (((10 : Int) ^ ((18 : Int)).toNat) ≤ (if cell < 0 then -cell else cell)) then ((zs0.1 ++ [(zs0.2 % (1009 : Int))]), (zs0.2 / (1009 : Int))) else let mixed : Int := (((zs0.2 * (48271 : Int)) + ((((0 : Int) + (zy0 : Int)) + (1 : Int)) * (69621 : Int))) % (2147483647 : Int))
  let mixed : Int := (((mixed * (16807 : Int)) + ((271 : Int) * (((0 : Int) + (zy0 : Int)) + (3 : Int)))) % (2147483629 : Int))
  ((zs0.1 ++ [(mixed % (1009 : Int))]), zs0.2)
def m_law_row (cell : Int) (many : Int) : List Int :=
  let rest1 : Int := (if cell < 0 then -cell else cell)
  ((List.range (many).toNat).foldl (m_law_row_l0 cell) (([] : List Int), rest1)).1
theorem len_row (cell many : Int) : (m_law_row cell many).length = many.toNat := by
  have key : ∀ (n : Nat) (xs : List Nat) (s : List Int × Int), ((xs.foldl (m_law_row_l0 cell) s).1).length = s.1.length + xs.length := by
    intro _ xs
    induction xs with
    | nil => intro s; rfl
    | cons x r ih =>
      intro s
      rw [List.foldl_cons, ih]
      have : ((m_law_row_l0 cell s x).1).length = s.1.length + 1 := by
        unfold m_law_row_l0
        split <;> split <;> simp
      rw [this, List.length_cons]; omega
  have := key 0 (List.range (many).toNat) (([] : List Int), (if cell < 0 then -cell else cell))
  unfold m_law_row
  simpa using this
theorem mem_row (cell many : Int) : ∀ x ∈ m_law_row cell many, 0 ≤ x ∧ x ≤ 1008 := by
  have key : ∀ (xs : List Nat) (s : List Int × Int), (∀ x ∈ s.1, 0 ≤ x ∧ x ≤ 1008) → ∀ x ∈ ((xs.foldl (m_law_row_l0 cell) s).1), 0 ≤ x ∧ x ≤ 1008 := by
    intro xs
    induction xs with
    | nil => intro s h; exact h
    | cons y r ih =>
      intro s h
      rw [List.foldl_cons]
      refine ih _ ?_
      have app : ∀ (v : Int), 0 ≤ v ∧ v ≤ 1008 → ∀ x ∈ s.1 ++ [v], 0 ≤ x ∧ x ≤ 1008 := fun v hv x hx => by
        rcases List.mem_append.mp hx with hx | hx
        · exact h x hx
        · rw [List.mem_singleton.mp hx]; exact hv
      unfold m_law_row_l0
      split <;> split <;> exact app _ (by omega)
  unfold m_law_row
  exact key _ _ (fun x hx => absurd hx (by simp))
theorem sc_law_row : FnScope ["_law_cell", "_law_many", "_law_row_here", "_law_rest", "_law_k", "_law_mixed"] ["_law_cell", "_law_many"] (defScope s_law_row) := ⟨rfl, rfl, rfl, by decide +kernel, rfl, by decide +kernel, by decide +kernel⟩
def sp_law_row : SpN := fun zcs zL zKc => ∃ cell : Int, ∃ many : Int, zcs = [.fr (D.int cell), .fr (D.int many)] ∧ zL = [] ∧ (0 ≤ many ∧ many ≤ 1001) ∧ ∀ zL', zKc (.fr ((eL D.int) (m_law_row cell many))) zL'
theorem ok_law_row (T : TX P K mg) : FnOk P w K mg base CX0 1 T.a_law_row T.d_law_row ["_law_cell", "_law_many"] (SpOf K mg sp_law_row) := by
  refine T.F_law_row.okN sc_law_row (fun zcs zL zKc zh => by obtain ⟨cell, many, rfl, _⟩ := zh; rfl) fun zcdv zA zout zst zH zE zB zcs zL zKc zhr zh => ?_
  obtain ⟨cell, many, rfl, rfl, hpre, zk⟩ := zh
  have nd := sc_law_row.nd
  have hSL := sizeLine_eq
  show Exs _ _ _ ⟨[some (.fr (D.int cell)), some (.fr (D.int many)), none, none, none, none], []⟩ _
  refine exs_cons (ex_set 2 (ev_lstN 100 (enc := D.int) ([] : List Int) ea_nil rfl (by simp only [List.length_cons, List.length_nil]; decide) (by simp [names]) (by decide)) ?_ nd rfl (.inl rfl))
  show Exs _ _ _ ⟨[some (.fr (D.int cell)), some (.fr (D.int many)), some (.ad 100), none, none, none], [(100, .fl ((([] : List Int)).map D.int))]⟩ _
  refine exs_cons (ex_set 3 (ev_callB (ds := [D.int cell]) c_abs (ea_cons (ev_var 0 rfl (.inl rfl) rfl) ea_nil) (by exact rfl) T.n_abs (by decide +kernel)) ?_ nd rfl (.inl rfl))
  show Exs _ _ _ ⟨[some (.fr (D.int cell)), some (.fr (D.int many)), some (.ad 100), some (.fr (D.int (if cell < 0 then -cell else cell))), none, none], [(100, .fl ((([] : List Int)).map D.int))]⟩ _
  generalize zg_rest : (if cell < 0 then -cell else cell) = rest
  show Exs _ _ _ ⟨[some (.fr (D.int cell)), some (.fr (D.int many)), some (.ad 100), some (.fr (D.int rest)), none, none], [(100, .fl ((([] : List Int)).map D.int))]⟩ _
  refine exs_cons (ex_forF (enc := (fun i : Nat => D.int ((0 : Int) + (i : Int)))) (fun (zs0 : (List Int) × Int) => (⟨[some (.fr (D.int cell)), some (.fr (D.int many)), some (.ad 100), some (.fr (D.int zs0.2)), none, none], [(100, .fl ((zs0.1).map D.int))]⟩ : Nz.S)) (m_law_row_l0 cell) (([] : List Int), rest) (fun (zi0 : Nat) (zs0 : (List Int) × Int) => zs0.1.length ≤ zi0) (src_range1 (ea_cons (ev_var 1 rfl (.inl rfl) rfl) ea_nil) (by exact rfl) T.n_range (by walk_at "sd") (by walk_at "sd")) ⟨⟨.inr rfl, .inr rfl, .inr rfl, .inr rfl, .inl rfl, .inl rfl, trivial⟩, rfl⟩ (by simp) ?_ ?_ PassesOwn.never rfl)
  · intro zi0 zy0 zs0 zhy0 zq0
    skip
    have hi := (List.getElem?_eq_some_iff.mp zhy0).1
    simp only [List.length_range] at hi
    refine ⟨⟨[some (.fr (D.int cell)), some (.fr (D.int many)), some (.ad 100), some (.fr (D.int zs0.2)), some (.fr (D.int ((0 : Int) + (zy0 : Int)))), none], [(100, .fl ((zs0.1).map D.int))]⟩, (eg_name 4 nd rfl (.inl rfl)), ?_⟩
    refine exs_one (ex_ifP bd_d (et_cmp o_ge (ev_callB (ds := [D.int cell]) c_abs (ea_cons (ev_var 0 rfl (.inl rfl) rfl) ea_nil) (by exact rfl) T.n_abs (by decide +kernel)) (ev_bin (o_pow (by unfold CPow; decide)) ev_int ev_int) (nomark _)) (fun (zh1 : (((10 : Int) ^ ((18 : Int)).toNat) ≤ (if cell < 0 then -cell else cell))) => ?_) (fun (zh1 : ¬ (((10 : Int) ^ ((18 : Int)).toNat) ≤ (if cell < 0 then -cell else cell))) => ?_))
    · skip
      refine exs_cons (ex_expr (ev_appendT (n := 100) (enc := D.int) (xs := zs0.1) (xs0 := zs0.1) (zs0.2 % (1009 : Int)) rfl rfl rfl (by walk_at "sd") (ev_var 2 rfl (.inl rfl) rfl) (ev_bin (o_mod (by walk_at "sd")) (ev_var 3 rfl (.inl rfl) rfl) ev_int)) ?_)
      show Exs _ _ _ ⟨[some (.fr (D.int cell)), some (.fr (D.int many)), some (.ad 100), some (.fr (D.int zs0.2)), some (.fr (D.int ((0 : Int) + (zy0 : Int)))), none], [(100, .fl (((zs0.1 ++ [(zs0.2 % (1009 : Int))])).map D.int))]⟩ _
      refine exs_one (ex_set 3 (ev_bin (o_div (by walk_at "sd") (by walk_at "sd")) (ev_var 3 rfl (.inl rfl) rfl) ev_int) ?_ nd rfl (.inl rfl))
      have est : (m_law_row_l0 cell) zs0 zy0 = ((zs0.1 ++ [(zs0.2 % (1009 : Int))]), (zs0.2 / (1009 : Int))) := by simp only [m_law_row_l0, not_true_eq_false, not_false_eq_true, ↓reduceIte, ↓if_pos zh1]
      show Le _ _ ∧ _
      try rw [est]
      exact ⟨⟨⟨.inr rfl, .inr rfl, .inr rfl, .inr rfl, .inl rfl, .inl rfl, trivial⟩, rfl⟩, (by simp; omega)⟩
    · skip
      refine exs_cons (ex_set 5 (ev_bin (o_mod (by walk_at "sd")) (ev_bin o_add (ev_bin (o_mul (by walk_at "mul")) (ev_var 3 rfl (.inl rfl) rfl) ev_int) (ev_bin (o_mul (by walk_at "mul")) (ev_bin o_add (ev_var 4 rfl (.inl rfl) rfl) ev_int) ev_int)) ev_int) ?_ nd rfl (.inl rfl))
      show Exs _ _ _ ⟨[some (.fr (D.int cell)), some (.fr (D.int many)), some (.ad 100), some (.fr (D.int zs0.2)), some (.fr (D.int ((0 : Int) + (zy0 : Int)))), some (.fr (D.int (((zs0.2 * (48271 : Int)) + ((((0 : Int) + (zy0 : Int)) + (1 : Int)) * (69621 : Int))) % (2147483647 : Int))))], [(100, .fl ((zs0.1).map D.int))]⟩ _
      generalize zg_mixed : (((zs0.2 * (48271 : Int)) + ((((0 : Int) + (zy0 : Int)) + (1 : Int)) * (69621 : Int))) % (2147483647 : Int)) = mixed
      show Exs _ _ _ ⟨[some (.fr (D.int cell)), some (.fr (D.int many)), some (.ad 100), some (.fr (D.int zs0.2)), some (.fr (D.int ((0 : Int) + (zy0 : Int)))), some (.fr (D.int mixed))], [(100, .fl ((zs0.1).map D.int))]⟩ _
      refine exs_cons (ex_set 5 (ev_bin (o_mod (by walk_at "sd")) (ev_bin o_add (ev_bin (o_mul (by walk_at "mul")) (ev_var 5 rfl (.inl rfl) rfl) ev_int) (ev_bin (o_mul (by walk_at "mul")) ev_int (ev_bin o_add (ev_var 4 rfl (.inl rfl) rfl) ev_int))) ev_int) ?_ nd rfl (.inl rfl))
      show Exs _ _ _ ⟨[some (.fr (D.int cell)), some (.fr (D.int many)), some (.ad 100), some (.fr (D.int zs0.2)), some (.fr (D.int ((0 : Int) + (zy0 : Int)))), some (.fr (D.int (((mixed * (16807 : Int)) + ((271 : Int) * (((0 : Int) + (zy0 : Int)) + (3 : Int)))) % (2147483629 : Int))))], [(100, .fl ((zs0.1).map D.int))]⟩ _
      generalize zg_mixed1 : (((mixed * (16807 : Int)) + ((271 : Int) * (((0 : Int) + (zy0 : Int)) + (3 : Int)))) % (2147483629 : Int)) = mixed1
      show Exs _ _ _ ⟨[some (.fr (D.int cell)), some (.fr (D.int many)), some (.ad 100), some (.fr (D.int zs0.2)), some (.fr (D.int ((0 : Int) + (zy0 : Int)))), some (.fr (D.int mixed1))], [(100, .fl ((zs0.1).map D.int))]⟩ _
      refine exs_one (ex_expr (ev_appendT (n := 100) (enc := D.int) (xs := zs0.1) (xs0 := zs0.1) (mixed1 % (1009 : Int)) rfl rfl rfl (by walk_at "sd") (ev_var 2 rfl (.inl rfl) rfl) (ev_bin (o_mod (by walk_at "sd")) (ev_var 5 rfl (.inl rfl) rfl) ev_int)) ?_)
      have est : (m_law_row_l0 cell) zs0 zy0 = ((zs0.1 ++ [(mixed1 % (1009 : Int))]), zs0.2) := by subst zg_mixed1; subst zg_mixed; simp only [m_law_row_l0, not_true_eq_false, not_false_eq_true, ↓reduceIte, ↓if_neg zh1]
      show Le _ _ ∧ _
      try rw [est]
      exact ⟨⟨⟨.inr rfl, .inr rfl, .inr rfl, .inr rfl, .inl rfl, .inl rfl, trivial⟩, rfl⟩, (by simp; omega)⟩
  · intro zq0
    show Exs _ _ _ ⟨[some (.fr (D.int cell)), some (.fr (D.int many)), some (.ad 100), some (.fr (D.int (((List.range (many).toNat).foldl (m_law_row_l0 cell) (([] : List Int), rest)).2))), none, none], [(100, .fl ((((List.range (many).toNat).foldl (m_law_row_l0 cell) (([] : List Int), rest)).1).map D.int))]⟩ _
    refine exs_freezeT 100 (xs := ((List.range (many).toNat).foldl (m_law_row_l0 cell) (([] : List Int), rest)).1) (enc := D.int) (by exact rfl) ?_
    show Exs _ _ _ ⟨[some (.fr (D.int cell)), some (.fr (D.int many)), some (.fr ((eL D.int) (((List.range (many).toNat).foldl (m_law_row_l0 cell) (([] : List Int), rest)).1))), some (.fr (D.int (((List.range (many).toNat).foldl (m_law_row_l0 cell) (([] : List Int), rest)).2))), none, none], []⟩ _
    refine exs_one (ex_ret (ev_var 2 rfl (.inl rfl) rfl) ?_)
    have efin : m_law_row cell many = ((List.range (many).toNat).foldl (m_law_row_l0 cell) (([] : List Int), rest)).1 := by subst zg_rest; simp only [m_law_row, not_true_eq_false, not_false_eq_true, ↓reduceIte]
    rw [efin] at zk
    exact zk _
def m_law_numbers_l1 (zs1 : (List Int)) (zy1 : Int) : (List Int) :=
  (zs1 ++ [zy1])
def m_law_numbers_l0 (each : Int) (zs0 : (List Int)) (zy0 : Int) : (List Int) :=
  ((m_law_row zy0 each).foldl (m_law_numbers_l1) zs0)
def m_law_numbers_c2 (many : Int) (zs0 : (List Int)) : Bool := (decide ((zs0.length : Int) < many))
def m_law_numbers_w2 (many : Int) (zs0 : (List Int)) : (List Int) :=
  (zs0 ++ [(0 : Int)])
def m_law_numbers (script : List Int) (many : Int) : List Int :=
  let cells1 : List Int := (slcD script none (some (63 : Int)))
  let each1 : Int := ((1 : Int) + (many / (if (cells1.length : Int) > (1 : Int) then (cells1.length : Int) else (1 : Int))))
  (slcD (iterW (m_law_numbers_c2 many) (m_law_numbers_w2 many) ((many).toNat) (cells1.foldl (m_law_numbers_l0 each1) ([] : List Int))) none (some many))
theorem cut63_len (xs : List Int) : (slcD xs none (some (63 : Int))).length ≤ 63 := by
  unfold slcD
  rw [List.length_take, HT.sIx_none, show (63 : Int) = ((63 : Nat) : Int) from rfl, HT.sIx_nat]
  omega
theorem fold_app (xs s : List Int) : xs.foldl m_law_numbers_l1 s = s ++ xs := by
  induction xs generalizing s with
  | nil => simp
  | cons x r ih => rw [List.foldl_cons, ih]; unfold m_law_numbers_l1; simp
theorem fill_eq (many : Int) : ∀ (n : Nat) (s : List Int), (many - (s.length : Int)).toNat ≤ n → iterW (m_law_numbers_c2 many) (m_law_numbers_w2 many) n s = s ++ List.replicate (many - (s.length : Int)).toNat 0
  | 0, s, h => by
    have e : (many - (s.length : Int)).toNat = 0 := by omega
    rw [e]; simp [iterW]
  | n + 1, s, h => by
    unfold iterW
    by_cases hc : (s.length : Int) < many
    · have e : (many - (s.length : Int)).toNat = (many - ((s ++ [(0 : Int)]).length : Int)).toNat + 1 := by
        simp only [List.length_append, List.length_cons, List.length_nil]; omega
      rw [if_pos (by simpa [m_law_numbers_c2] using hc)]
      show iterW _ _ n (s ++ [(0 : Int)]) = _
      rw [fill_eq many n _ (by simp only [List.length_append, List.length_cons, List.length_nil] at e ⊢; omega), e, List.replicate_succ, List.append_assoc]
      rfl
    · have e : (many - (s.length : Int)).toNat = 0 := by omega
      rw [if_neg (by simpa [m_law_numbers_c2] using hc), e]; simp
theorem numbers_facts (script : List Int) (many : Int) (h0 : 0 ≤ many) : (m_law_numbers script many).length = many.toNat ∧ ∀ x ∈ m_law_numbers script many, 0 ≤ x ∧ x ≤ 1008 := by
  have key : ∀ (each : Int) (xs s : List Int), (∀ x ∈ s, 0 ≤ x ∧ x ≤ 1008) → ∀ x ∈ xs.foldl (m_law_numbers_l0 each) s, 0 ≤ x ∧ x ≤ 1008 := by
    intro each xs
    induction xs with
    | nil => intro s h; exact h
    | cons y r ih =>
      intro s h
      rw [List.foldl_cons]
      refine ih _ fun x hx => ?_
      unfold m_law_numbers_l0 at hx
      rw [fold_app] at hx
      rcases List.mem_append.mp hx with hx | hx
      · exact h x hx
      · exact mem_row _ _ x hx
  unfold m_law_numbers
  dsimp only
  generalize hS : (slcD script none (some (63 : Int))).foldl _ _ = S
  have hm : ∀ x ∈ S, 0 ≤ x ∧ x ≤ 1008 := by rw [← hS]; exact key _ _ _ (fun x hx => absurd hx (by simp))
  rw [fill_eq many _ S (by omega)]
  unfold slcD
  rw [HT.sIx_none, List.drop_zero]
  have hl : (S ++ List.replicate (many - (S.length : Int)).toNat (0 : Int)).length = S.length + (many - (S.length : Int)).toNat := by simp
  have e1 : HT.sIx (S ++ List.replicate (many - (S.length : Int)).toNat (0 : Int)).length (S ++ List.replicate (many - (S.length : Int)).toNat (0 : Int)).length (some many) = many.toNat := by
    obtain ⟨n, rfl⟩ := Int.eq_ofNat_of_zero_le h0
    rw [HT.sIx_nat, hl]
    omega
  rw [e1]
  refine ⟨by rw [List.length_take, hl]; omega, fun x hx => ?_⟩
  have hx := List.mem_of_mem_take hx
  rcases List.mem_append.mp hx with hx | hx
  · exact hm x hx
  · rw [(List.mem_replicate.mp hx).2]; omega
theorem sc_law_numbers : FnScope ["_law_script", "_law_many", "_law_cells", "_law_each", "_law_numbers_here", "_law_cell", "_law_number"] ["_law_script", "_law_many"] (defScope s_law_numbers) := ⟨rfl, rfl, rfl, by decide +kernel, rfl, by decide +kernel, by decide +kernel⟩
def sp_law_numbers : SpN := fun zcs zL zKc => ∃ script : List Int, ∃ many : Int, zcs = [.fr ((eL D.int) script), .fr (D.int many)] ∧ zL = [] ∧ (script.length ≤ 63 ∧ 0 ≤ many ∧ many ≤ 1000) ∧ ∀ zL', zKc (.fr ((eL D.int) (m_law_numbers script many))) zL'
theorem ok_law_numbers (T : TX P K mg) : FnOk P w K mg base CX0 2 T.a_law_numbers T.d_law_numbers ["_law_script", "_law_many"] (SpOf K mg sp_law_numbers) := by
  have O_law_row := ok_law_row (P := P) (w := w) (base := base) T
  refine T.F_law_numbers.okN sc_law_numbers (fun zcs zL zKc zh => by obtain ⟨script, many, rfl, _⟩ := zh; rfl) fun zcdv zA zout zst zH zE zB zcs zL zKc zhr zh => ?_
  obtain ⟨script, many, rfl, rfl, hpre, zk⟩ := zh
  have nd := sc_law_numbers.nd
  have hSL := sizeLine_eq
  show Exs _ _ _ ⟨[some (.fr ((eL D.int) script)), some (.fr (D.int many)), none, none, none, none, none], []⟩ _
  refine exs_cons (ex_set 2 (ev_sliceT (enc := D.int) (xs := script) (by exact rfl) (ev_var 0 rfl (.inl rfl) rfl) eo_none (eo_some ev_int)) ?_ nd rfl (.inl rfl))
  show Exs _ _ _ ⟨[some (.fr ((eL D.int) script)), some (.fr (D.int many)), some (.fr ((eL D.int) (slcD script none (some (63 : Int))))), none, none, none, none], []⟩ _
  generalize zg_cells : (slcD script none (some (63 : Int))) = cells
  show Exs _ _ _ ⟨[some (.fr ((eL D.int) script)), some (.fr (D.int many)), some (.fr ((eL D.int) cells)), none, none, none, none], []⟩ _
  have hcl : cells.length ≤ 63 := by rw [← zg_cells]; exact cut63_len script
  refine exs_cons (ex_set 3 (ev_bin o_add ev_int (ev_bin (o_div (by walk_at "sd") (by walk_at "sd")) (ev_var 1 rfl (.inl rfl) rfl) (ev_callB (ds := [D.int (1 : Int), D.int (cells.length : Int)]) (c_max2 rfl) (ea_cons ev_int (ea_cons (ev_len (ln_L (xs := cells) (enc := D.int) (by exact rfl)) (ev_var 2 rfl (.inl rfl) rfl) (by exact rfl) T.n_len) ea_nil)) (by exact rfl) T.n_max (by decide +kernel)))) ?_ nd rfl (.inl rfl))
  show Exs _ _ _ ⟨[some (.fr ((eL D.int) script)), some (.fr (D.int many)), some (.fr ((eL D.int) cells)), some (.fr (D.int ((1 : Int) + (many / (if (cells.length : Int) > (1 : Int) then (cells.length : Int) else (1 : Int)))))), none, none, none], []⟩ _
  generalize zg_each : ((1 : Int) + (many / (if (cells.length : Int) > (1 : Int) then (cells.length : Int) else (1 : Int)))) = each
  show Exs _ _ _ ⟨[some (.fr ((eL D.int) script)), some (.fr (D.int many)), some (.fr ((eL D.int) cells)), some (.fr (D.int each)), none, none, none], []⟩ _
  have heach : 1 ≤ each ∧ each ≤ 1001 := by rw [← zg_each]; split <;> (constructor <;> first | omega | (have := Int.ediv_le_self (cells.length : Int) hpre.2.1; have := Int.ediv_nonneg hpre.2.1 (show (0:Int) ≤ (cells.length : Int) by omega); omega))
  refine exs_cons (ex_set 4 (ev_lstN 100 (enc := D.int) ([] : List Int) ea_nil rfl (by simp only [List.length_cons, List.length_nil]; decide) (by simp [names]) (by decide)) ?_ nd rfl (.inl rfl))
  show Exs _ _ _ ⟨[some (.fr ((eL D.int) script)), some (.fr (D.int many)), some (.fr ((eL D.int) cells)), some (.fr (D.int each)), some (.ad 100), none, none], [(100, .fl ((([] : List Int)).map D.int))]⟩ _
  refine exs_cons (ex_forF (enc := D.int) (fun (zs0 : (List Int)) => (⟨[some (.fr ((eL D.int) script)), some (.fr (D.int many)), some (.fr ((eL D.int) cells)), some (.fr (D.int each)), some (.ad 100), none, none], [(100, .fl ((zs0).map D.int))]⟩ : Nz.S)) (m_law_numbers_l0 each) ([] : List Int) (fun (zi0 : Nat) (zs0 : (List Int)) => zs0.length ≤ 1001 * zi0) (src_listT (ev_var 2 rfl (.inl rfl) rfl)) ⟨⟨.inr rfl, .inr rfl, .inr rfl, .inr rfl, .inr rfl, .inl rfl, .inl rfl, trivial⟩, rfl⟩ (by simp) ?_ ?_ PassesOwn.never rfl)
  · intro zi0 zy0 zs0 zhy0 zq0
    skip
    have hi := (List.getElem?_eq_some_iff.mp zhy0).1
    have hrl := len_row zy0 each
    refine ⟨⟨[some (.fr ((eL D.int) script)), some (.fr (D.int many)), some (.fr ((eL D.int) cells)), some (.fr (D.int each)), some (.ad 100), some (.fr (D.int zy0)), none], [(100, .fl ((zs0).map D.int))]⟩, (eg_name 5 nd rfl (.inl rfl)), ?_⟩
    refine exs_one (ex_forF (enc := D.int) (fun (zs1 : (List Int)) => (⟨[some (.fr ((eL D.int) script)), some (.fr (D.int many)), some (.fr ((eL D.int) cells)), some (.fr (D.int each)), some (.ad 100), some (.fr (D.int zy0)), none], [(100, .fl ((zs1).map D.int))]⟩ : Nz.S)) (m_law_numbers_l1) zs0 (fun (zi1 : Nat) (zs1 : (List Int)) => zs1.length ≤ 1001 * zi0 + zi1) (src_listT (ev_call (ds := [D.int zy0, D.int each]) (ds' := []) (dvs := []) (dfs := []) O_law_row (zhr.mono (by decide)) T.m_law_row T.k_law_row T.b_law_row .nil (fun _ => .nil) (ea_cons (ev_var 5 rfl (.inl rfl) rfl) (ea_cons (ev_var 3 rfl (.inl rfl) rfl) ea_nil)) (fun _ zkk => ⟨zy0, each, rfl, rfl, (by walk_at "pre"), zkk⟩) (by exact rfl))) ⟨⟨.inr rfl, .inr rfl, .inr rfl, .inr rfl, .inr rfl, .inr rfl, .inl rfl, trivial⟩, rfl⟩ (by omega) ?_ ?_ PassesOwn.never rfl)
    · intro zi1 zy1 zs1 zhy1 zq1
      skip
      have hi1 := (List.getElem?_eq_some_iff.mp zhy1).1
      refine ⟨⟨[some (.fr ((eL D.int) script)), some (.fr (D.int many)), some (.fr ((eL D.int) cells)), some (.fr (D.int each)), some (.ad 100), some (.fr (D.int zy0)), some (.fr (D.int zy1))], [(100, .fl ((zs1).map D.int))]⟩, (eg_name 6 nd rfl (.inl rfl)), ?_⟩
      refine exs_one (ex_expr (ev_appendT (n := 100) (enc := D.int) (xs := zs1) (xs0 := zs1) zy1 rfl rfl rfl (by walk_at "sd") (ev_var 4 rfl (.inl rfl) rfl) (ev_var 6 rfl (.inl rfl) rfl)) ?_)
      have est : (m_law_numbers_l1) zs1 zy1 = (zs1 ++ [zy1]) := by simp only [m_law_numbers_l1, not_true_eq_false, not_false_eq_true, ↓reduceIte]
      show Le _ _ ∧ _
      try rw [est]
      exact ⟨⟨⟨.inr rfl, .inr rfl, .inr rfl, .inr rfl, .inr rfl, .inr rfl, .inl rfl, trivial⟩, rfl⟩, (by simp; omega)⟩
    · intro zq1
      have est : (m_law_numbers_l0 each) zs0 zy0 = ((m_law_row zy0 each).foldl (m_law_numbers_l1) zs0) := by simp only [m_law_numbers_l0, not_true_eq_false, not_false_eq_true, ↓reduceIte]
      show Le _ _ ∧ _
      try rw [est]
      exact ⟨⟨⟨.inr rfl, .inr rfl, .inr rfl, .inr rfl, .inr rfl, .inl rfl, .inl rfl, trivial⟩, rfl⟩, (by omega)⟩
  · intro zq0
    show Exs _ _ _ ⟨[some (.fr ((eL D.int) script)), some (.fr (D.int many)), some (.fr ((eL D.int) cells)), some (.fr (D.int each)), some (.ad 100), none, none], [(100, .fl (((cells.foldl (m_law_numbers_l0 each) ([] : List Int))).map D.int))]⟩ _
    refine exs_cons (ex_whileF (fun (zs0 : (List Int)) => (⟨[some (.fr ((eL D.int) script)), some (.fr (D.int many)), some (.fr ((eL D.int) cells)), some (.fr (D.int each)), some (.ad 100), none, none], [(100, .fl ((zs0).map D.int))]⟩ : Nz.S)) (m_law_numbers_c2 many) (m_law_numbers_w2 many) (cells.foldl (m_law_numbers_l0 each) ([] : List Int)) ((many).toNat) (fun (zs0 : (List Int)) => zs0.length ≤ 100000) (fun (zs0 : (List Int)) => (many - (zs0.length : Int)).toNat) ⟨⟨.inr rfl, .inr rfl, .inr rfl, .inr rfl, .inr rfl, .inl rfl, .inl rfl, trivial⟩, rfl⟩ (by omega) (by walk_at "sd") ?_ ?_ ?_ ?_ PassesOwn.never)
    · intro zs0 zq0 zhc0
      simp only [m_law_numbers_c2, decide_eq_true_eq] at zhc0
      simp only [m_law_numbers_w2, List.length_append, List.length_cons, List.length_nil]
      exact ⟨by omega, by omega⟩
    · intro zs0 zq0
      exact (et_cmp o_lt (ev_len (ln_L (xs := zs0) (enc := D.int) (by exact rfl)) (ev_var 4 rfl (.inl rfl) rfl) (by exact rfl) T.n_len) (ev_var 1 rfl (.inl rfl) rfl) (nomark _))
    · intro zs0 zq0 zhc0
      simp only [m_law_numbers_c2, decide_eq_true_eq] at zhc0
      show Exs _ _ _ ⟨[some (.fr ((eL D.int) script)), some (.fr (D.int many)), some (.fr ((eL D.int) cells)), some (.fr (D.int each)), some (.ad 100), none, none], [(100, .fl ((zs0).map D.int))]⟩ _
      refine exs_one (ex_expr (ev_appendT (n := 100) (enc := D.int) (xs := zs0) (xs0 := zs0) (0 : Int) rfl rfl rfl (by walk_at "sd") (ev_var 4 rfl (.inl rfl) rfl) ev_int) ?_)
      have est : (m_law_numbers_w2 many) zs0 = (zs0 ++ [(0 : Int)]) := by simp only [m_law_numbers_w2, ↓reduceIte]
      show Le _ _ ∧ _
      rw [est]
      exact ⟨⟨⟨.inr rfl, .inr rfl, .inr rfl, .inr rfl, .inr rfl, .inl rfl, .inl rfl, trivial⟩, rfl⟩, trivial⟩
    · intro zq0 zhc0
      show Exs _ _ _ ⟨[some (.fr ((eL D.int) script)), some (.fr (D.int many)), some (.fr ((eL D.int) cells)), some (.fr (D.int each)), some (.ad 100), none, none], [(100, .fl (((iterW (m_law_numbers_c2 many) (m_law_numbers_w2 many) ((many).toNat) (cells.foldl (m_law_numbers_l0 each) ([] : List Int)))).map D.int))]⟩ _
      refine exs_one (ex_ret (ev_sliceT (enc := D.int) (xs := (iterW (m_law_numbers_c2 many) (m_law_numbers_w2 many) ((many).toNat) (cells.foldl (m_law_numbers_l0 each) ([] : List Int)))) (by exact rfl) (ev_var 4 rfl (.inl rfl) rfl) eo_none (eo_some (ev_var 1 rfl (.inl rfl) rfl))) ?_)
      have efin : m_law_numbers script many = (slcD (iterW (m_law_numbers_c2 many) (m_law_numbers_w2 many) ((many).toNat) (cells.foldl (m_law_numbers_l0 each) ([] : List Int))) none (some many)) := by subst zg_each; subst zg_cells; simp only [m_law_numbers, not_true_eq_false, not_false_eq_true, ↓reduceIte]
      rw [efin] at zk
      exact zk _
def m_is_integer (value : Int) (low : Int) (high : Int) : Bool :=
  (true && ((!false) && ((decide (low ≤ value)) && (decide (value ≤ high)))))
theorem sc_is_integer : FnScope ["value", "low", "high"] ["value", "low", "high"] (defScope s_is_integer) := ⟨rfl, rfl, rfl, by decide +kernel, rfl, by decide +kernel, by decide +kernel⟩
def sp_is_integer : SpN := fun zcs zL zKc => ∃ value : Int, ∃ low : Int, ∃ high : Int, zcs = [.fr (D.int value), .fr (D.int low), .fr (D.int high)] ∧ zL = [] ∧ (True) ∧ ∀ zL', zKc (.fr (D.bl (m_is_integer value low high))) zL'
theorem ok_is_integer (T : TX P K mg) : FnOk P w K mg base CX0 1 T.a_is_integer T.d_is_integer ["value", "low", "high"] (SpOf K mg sp_is_integer) := by
  refine T.F_is_integer.okN sc_is_integer (fun zcs zL zKc zh => by obtain ⟨value, low, high, rfl, _⟩ := zh; rfl) fun zcdv zA zout zst zH zE zB zcs zL zKc zhr zh => ?_
  obtain ⟨value, low, high, rfl, rfl, hpre, zk⟩ := zh
  have nd := sc_is_integer.nd
  have hSL := sizeLine_eq
  show Exs _ _ _ ⟨[some (.fr (D.int value)), some (.fr (D.int low)), some (.fr (D.int high))], []⟩ _
  refine exs_one (ex_ret (ev_andP Iff.rfl (ev_isi (T := "int") (b := true) (ev_var 0 rfl (.inl rfl) rfl) rfl (by decide) (by exact rfl) T.n_isinstance (by exact rfl) T.n_int (by decide +kernel)) (fun zhp => (ev_andP (bd_not Iff.rfl) (ev_not (ev_isi (T := "bool") (b := false) (ev_var 0 rfl (.inl rfl) rfl) rfl (by decide) (by exact rfl) T.n_isinstance (by exact rfl) T.n_bool (by decide +kernel))) (fun zhp => (ev_one (ev_chain bd_d o_le o_le (ev_var 1 rfl (.inl rfl) rfl) (ev_var 0 rfl (.inl rfl) rfl) (fun zhp => (ev_var 2 rfl (.inl rfl) rfl)))))))) ?_)
  have efin : m_is_integer value low high = (true && ((!false) && ((decide (low ≤ value)) && (decide (value ≤ high))))) := by simp only [m_is_integer, not_true_eq_false, not_false_eq_true, ↓reduceIte]
  rw [efin] at zk
  exact zk _
def m_is_name (value : Str) : Bool :=
  if ((¬ (true = true)) ∨ (¬ (((1 : Int) ≤ (value.length : Int)) ∧ ((value.length : Int) ≤ (12 : Int))))) then false else (((chs value).map (fun zc2 : Str => (inS zc2 (Str.ofString "abcdefghijklmnopqrstuvwxyz0123456789")))).all fun b => b)
theorem chs_len (z : Str) : (chs z).length = z.length := by unfold chs; rw [List.length_map, Array.length_toList]; rfl
theorem sc_is_name : FnScope ["value", "character"] ["value"] (defScope s_is_name) := ⟨rfl, rfl, rfl, by decide +kernel, rfl, by decide +kernel, by decide +kernel⟩
def sp_is_name : SpN := fun zcs zL zKc => ∃ value : Str, zcs = [.fr (D.str value)] ∧ zL = [] ∧ (value.length ≤ 1000) ∧ ∀ zL', zKc (.fr (D.bl (m_is_name value))) zL'
theorem ok_is_name (T : TX P K mg) : FnOk P w K mg base CX0 1 T.a_is_name T.d_is_name ["value"] (SpOf K mg sp_is_name) := by
  refine T.F_is_name.okN sc_is_name (fun zcs zL zKc zh => by obtain ⟨value, rfl, _⟩ := zh; rfl) fun zcdv zA zout zst zH zE zB zcs zL zKc zhr zh => ?_
  obtain ⟨value, rfl, rfl, hpre, zk⟩ := zh
  have nd := sc_is_name.nd
  have hSL := sizeLine_eq
  have hch := chs_len value
  show Exs _ _ _ ⟨[some (.fr (D.str value)), none], []⟩ _
  refine exs_cons (ex_ifP (bd_or (bd_not Iff.rfl) (bd_not (bd_and bd_d bd_d))) (Ew.et (ew_orP (bd_not Iff.rfl) (et_not (et_val (ev_isi (T := "str") (b := true) (ev_var 0 rfl (.inl rfl) rfl) rfl (by decide) (by exact rfl) T.n_isinstance (by exact rfl) T.n_str (by decide +kernel)))) (fun zhp => (ew_or1 (et_not (et_chain bd_d o_le o_le ev_int (ev_len (.s (by walk_at "sd")) (ev_var 0 rfl (.inl rfl) rfl) (by exact rfl) T.n_len) (fun zhp => (ev_gi rfl T.c_LONGEST_NAME)))))))) (fun (zh1 : ((¬ (true = true)) ∨ (¬ (((1 : Int) ≤ (value.length : Int)) ∧ ((value.length : Int) ≤ (12 : Int)))))) => ?_) (fun (zh1 : ¬ ((¬ (true = true)) ∨ (¬ (((1 : Int) ≤ (value.length : Int)) ∧ ((value.length : Int) ≤ (12 : Int)))))) => ?_))
  · skip
    refine exs_one (ex_ret ev_bl ?_)
    have efin : m_is_name value = false := by simp only [m_is_name, not_true_eq_false, not_false_eq_true, ↓reduceIte, ↓if_pos zh1]
    rw [efin] at zk
    exact zk _
  · skip
    refine exs_nil ?_
    show Exs _ _ _ ⟨[some (.fr (D.str value)), none], []⟩ _
    refine exs_one (ex_ret (ev_callB (ds := [(eL D.bl) ((chs value).map (fun zc1 : Str => (inS zc1 (Str.ofString "abcdefghijklmnopqrstuvwxyz0123456789"))))]) (c_all (bs := ((chs value).map (fun zc1 : Str => (inS zc1 (Str.ofString "abcdefghijklmnopqrstuvwxyz0123456789"))))) rfl) (ea_cons (ev_lcM (enc2 := D.bl) 199 (fun zc1 : Str => (inS zc1 (Str.ofString "abcdefghijklmnopqrstuvwxyz0123456789"))) _ rfl nd (blkOk_by (N := ["value", "character"]) (sc := defScope s_is_name) (own := [(("character" : Str), 1)]) (by decide +kernel)) (src_str (ev_var 0 rfl (.inl rfl) rfl)) (by simp [names]) (by decide) (by walk_at "sd") (fun _ zc1 _ zhyzc1 _ _ _ _ _ => (eg_nameC 1 nd rfl (.inl rfl) (by decide) (.inr rfl))) (fun _ zc1 _ zhyzc1 _ _ _ _ _ => (ev_cmp o_inS (ev_var 1 rfl (.inl rfl) rfl) (ev_gs rfl T.c_NAME_CHARACTERS) (by rfl)))) ea_nil) (by exact rfl) T.n_all (by decide +kernel)) ?_)
    have efin : m_is_name value = (((chs value).map (fun zc1 : Str => (inS zc1 (Str.ofString "abcdefghijklmnopqrstuvwxyz0123456789")))).all fun b => b) := by simp only [m_is_name, not_true_eq_false, not_false_eq_true, ↓reduceIte, ↓if_neg zh1]
    rw [efin] at zk
    exact zk _
def m_is_kind (value : Str × Int × Int) : Bool :=
  if ((¬ (true = true)) ∨ (¬ ((3 : Int) = (3 : Int)))) then false else ((m_is_name value.1) && ((m_is_integer value.2.1 (1 : Int) (1000 : Int)) && (m_is_integer value.2.2 (1 : Int) (1000 : Int))))
theorem sc_is_kind : FnScope ["value", "name", "cost", "deadline"] ["value"] (defScope s_is_kind) := ⟨rfl, rfl, rfl, by decide +kernel, rfl, by decide +kernel, by decide +kernel⟩
def sp_is_kind : SpN := fun zcs zL zKc => ∃ value : Str × Int × Int, zcs = [.fr ((eT3 D.str D.int D.int) value)] ∧ zL = [] ∧ (value.1.length ≤ 1000) ∧ ∀ zL', zKc (.fr (D.bl (m_is_kind value))) zL'
theorem ok_is_kind (T : TX P K mg) : FnOk P w K mg base CX0 2 T.a_is_kind T.d_is_kind ["value"] (SpOf K mg sp_is_kind) := by
  have O_is_integer := ok_is_integer (P := P) (w := w) (base := base) T
  have O_is_name := ok_is_name (P := P) (w := w) (base := base) T
  refine T.F_is_kind.okN sc_is_kind (fun zcs zL zKc zh => by obtain ⟨value, rfl, _⟩ := zh; rfl) fun zcdv zA zout zst zH zE zB zcs zL zKc zhr zh => ?_
  obtain ⟨value, rfl, rfl, hpre, zk⟩ := zh
  have nd := sc_is_kind.nd
  have hSL := sizeLine_eq
  show Exs _ _ _ ⟨[some (.fr ((eT3 D.str D.int D.int) value)), none, none, none], []⟩ _
  refine exs_cons (ex_ifP (bd_or (bd_not Iff.rfl) bd_n) (Ew.et (ew_orP (bd_not Iff.rfl) (et_not (et_val (ev_isi (T := "tuple") (b := true) (ev_var 0 rfl (.inl rfl) rfl) rfl (by decide) (by exact rfl) T.n_isinstance (by exact rfl) T.n_tuple (by decide +kernel)))) (fun zhp => (ew_or1 (et_cmp o_nei (ev_len .t (ev_var 0 rfl (.inl rfl) rfl) (by exact rfl) T.n_len) ev_int (nomark _)))))) (fun (zh1 : ((¬ (true = true)) ∨ (¬ ((3 : Int) = (3 : Int))))) => ?_) (fun (zh1 : ¬ ((¬ (true = true)) ∨ (¬ ((3 : Int) = (3 : Int))))) => ?_))
  · skip
    refine exs_one (ex_ret ev_bl ?_)
    have efin : m_is_kind value = false := by simp only [m_is_kind, not_true_eq_false, not_false_eq_true, ↓reduceIte, ↓if_pos zh1]
    rw [efin] at zk
    exact zk _
  · skip
    refine exs_nil ?_
    show Exs _ _ _ ⟨[some (.fr ((eT3 D.str D.int D.int) value)), none, none, none], []⟩ _
    refine exs_cons (ex_asg (ev_var 0 rfl (.inl rfl) rfl) (eg_tup rfl (egs_cons (eg_name 1 nd rfl (.inl rfl)) (egs_cons (eg_name 2 nd rfl (.inl rfl)) (egs_cons (eg_name 3 nd rfl (.inl rfl)) egs_nil)))) ?_)
    show Exs _ _ _ ⟨[some (.fr ((eT3 D.str D.int D.int) value)), some (.fr (D.str value.1)), some (.fr (D.int value.2.1)), some (.fr (D.int value.2.2))], []⟩ _
    refine exs_one (ex_ret (ev_andP Iff.rfl (ev_call (ds := [D.str value.1]) (ds' := []) (dvs := []) (dfs := []) O_is_name (zhr.mono (by decide)) T.m_is_name T.k_is_name T.b_is_name .nil (fun _ => .nil) (ea_cons (ev_var 1 rfl (.inl rfl) rfl) ea_nil) (fun _ zkk => ⟨value.1, rfl, rfl, (by walk_at "pre"), zkk⟩) (by exact rfl)) (fun zhp => (ev_andP Iff.rfl (ev_call (ds := [D.int value.2.1, D.int (1 : Int), D.int (1000 : Int)]) (ds' := []) (dvs := []) (dfs := []) O_is_integer (zhr.mono (by decide)) T.m_is_integer T.k_is_integer T.b_is_integer .nil (fun _ => .nil) (ea_cons (ev_var 2 rfl (.inl rfl) rfl) (ea_cons ev_int (ea_cons (ev_gi rfl T.c_MOST_UNITS) ea_nil))) (fun _ zkk => ⟨value.2.1, (1 : Int), (1000 : Int), rfl, rfl, trivial, zkk⟩) (by exact rfl)) (fun zhp => (ev_one (ev_call (ds := [D.int value.2.2, D.int (1 : Int), D.int (1000 : Int)]) (ds' := []) (dvs := []) (dfs := []) O_is_integer (zhr.mono (by decide)) T.m_is_integer T.k_is_integer T.b_is_integer .nil (fun _ => .nil) (ea_cons (ev_var 3 rfl (.inl rfl) rfl) (ea_cons ev_int (ea_cons (ev_gi rfl T.c_MOST_UNITS) ea_nil))) (fun _ zkk => ⟨value.2.2, (1 : Int), (1000 : Int), rfl, rfl, trivial, zkk⟩) (by exact rfl))))))) ?_)
    have efin : m_is_kind value = ((m_is_name value.1) && ((m_is_integer value.2.1 (1 : Int) (1000 : Int)) && (m_is_integer value.2.2 (1 : Int) (1000 : Int)))) := by simp only [m_is_kind, not_true_eq_false, not_false_eq_true, ↓reduceIte, ↓if_neg zh1]
    rw [efin] at zk
    exact zk _
def m_is_way (value : Str × Str × Int) (kind_names : List Str) : Bool :=
  if ((¬ (true = true)) ∨ (¬ ((3 : Int) = (3 : Int)))) then false else ((decide (value.1 ∈ kind_names)) && ((decide (value.2.1 ∈ kind_names)) && (m_is_integer value.2.2 (1 : Int) (1000 : Int))))
theorem sc_is_way : FnScope ["value", "kind_names", "source", "target", "distance"] ["value", "kind_names"] (defScope s_is_way) := ⟨rfl, rfl, rfl, by decide +kernel, rfl, by decide +kernel, by decide +kernel⟩
def sp_is_way : SpN := fun zcs zL zKc => ∃ value : Str × Str × Int, ∃ kind_names : List Str, zcs = [.fr ((eT3 D.str D.str D.int) value), .fr ((eL D.str) kind_names)] ∧ zL = [] ∧ (True) ∧ ∀ zL', zKc (.fr (D.bl (m_is_way value kind_names))) zL'
theorem ok_is_way (T : TX P K mg) : FnOk P w K mg base CX0 2 T.a_is_way T.d_is_way ["value", "kind_names"] (SpOf K mg sp_is_way) := by
  have O_is_integer := ok_is_integer (P := P) (w := w) (base := base) T
  refine T.F_is_way.okN sc_is_way (fun zcs zL zKc zh => by obtain ⟨value, kind_names, rfl, _⟩ := zh; rfl) fun zcdv zA zout zst zH zE zB zcs zL zKc zhr zh => ?_
  obtain ⟨value, kind_names, rfl, rfl, hpre, zk⟩ := zh
  have nd := sc_is_way.nd
  have hSL := sizeLine_eq
  show Exs _ _ _ ⟨[some (.fr ((eT3 D.str D.str D.int) value)), some (.fr ((eL D.str) kind_names)), none, none, none], []⟩ _
  refine exs_cons (ex_ifP (bd_or (bd_not Iff.rfl) bd_n) (Ew.et (ew_orP (bd_not Iff.rfl) (et_not (et_val (ev_isi (T := "tuple") (b := true) (ev_var 0 rfl (.inl rfl) rfl) rfl (by decide) (by exact rfl) T.n_isinstance (by exact rfl) T.n_tuple (by decide +kernel)))) (fun zhp => (ew_or1 (et_cmp o_nei (ev_len .t (ev_var 0 rfl (.inl rfl) rfl) (by exact rfl) T.n_len) ev_int (nomark _)))))) (fun (zh1 : ((¬ (true = true)) ∨ (¬ ((3 : Int) = (3 : Int))))) => ?_) (fun (zh1 : ¬ ((¬ (true = true)) ∨ (¬ ((3 : Int) = (3 : Int))))) => ?_))
  · skip
    refine exs_one (ex_ret ev_bl ?_)
    have efin : m_is_way value kind_names = false := by simp only [m_is_way, not_true_eq_false, not_false_eq_true, ↓reduceIte, ↓if_pos zh1]
    rw [efin] at zk
    exact zk _
  · skip
    refine exs_nil ?_
    show Exs _ _ _ ⟨[some (.fr ((eT3 D.str D.str D.int) value)), some (.fr ((eL D.str) kind_names)), none, none, none], []⟩ _
    refine exs_cons (ex_asg (ev_var 0 rfl (.inl rfl) rfl) (eg_tup rfl (egs_cons (eg_name 2 nd rfl (.inl rfl)) (egs_cons (eg_name 3 nd rfl (.inl rfl)) (egs_cons (eg_name 4 nd rfl (.inl rfl)) egs_nil)))) ?_)
    show Exs _ _ _ ⟨[some (.fr ((eT3 D.str D.str D.int) value)), some (.fr ((eL D.str) kind_names)), some (.fr (D.str value.1)), some (.fr (D.str value.2.1)), some (.fr (D.int value.2.2))], []⟩ _
    refine exs_one (ex_ret (ev_andP bd_d (ev_cmp (o_inL (e := D.str) (x := value.1) (ys := kind_names) zhr.units ee_str) (ev_var 2 rfl (.inl rfl) rfl) (ev_var 1 rfl (.inl rfl) rfl) (by rfl)) (fun zhp => (ev_andP bd_d (ev_cmp (o_inL (e := D.str) (x := value.2.1) (ys := kind_names) zhr.units ee_str) (ev_var 3 rfl (.inl rfl) rfl) (ev_var 1 rfl (.inl rfl) rfl) (by rfl)) (fun zhp => (ev_one (ev_call (ds := [D.int value.2.2, D.int (1 : Int), D.int (1000 : Int)]) (ds' := []) (dvs := []) (dfs := []) O_is_integer (zhr.mono (by decide)) T.m_is_integer T.k_is_integer T.b_is_integer .nil (fun _ => .nil) (ea_cons (ev_var 4 rfl (.inl rfl) rfl) (ea_cons ev_int (ea_cons (ev_gi rfl T.c_MOST_UNITS) ea_nil))) (fun _ zkk => ⟨value.2.2, (1 : Int), (1000 : Int), rfl, rfl, trivial, zkk⟩) (by exact rfl))))))) ?_)
    have efin : m_is_way value kind_names = ((decide (value.1 ∈ kind_names)) && ((decide (value.2.1 ∈ kind_names)) && (m_is_integer value.2.2 (1 : Int) (1000 : Int)))) := by simp only [m_is_way, not_true_eq_false, not_false_eq_true, ↓reduceIte, ↓if_neg zh1]
    rw [efin] at zk
    exact zk _
def m_are_different (names_ : List Str) : Bool :=
  (decide (((cntS names_ names_.length : Nat) : Int) = (names_.length : Int)))
theorem sc_are_different : FnScope ["names"] ["names"] (defScope s_are_different) := ⟨rfl, rfl, rfl, by decide +kernel, rfl, by decide +kernel, by decide +kernel⟩
def sp_are_different : SpN := fun zcs zL zKc => ∃ names_ : List Str, zcs = [.fr ((eL D.str) names_)] ∧ zL = [] ∧ (names_.length ≤ 1000) ∧ ∀ zL', zKc (.fr (D.bl (m_are_different names_))) zL'
theorem ok_are_different (T : TX P K mg) : FnOk P w K mg base CX0 1 T.a_are_different T.d_are_different ["names"] (SpOf K mg sp_are_different) := by
  refine T.F_are_different.okN sc_are_different (fun zcs zL zKc zh => by obtain ⟨names_, rfl, _⟩ := zh; rfl) fun zcdv zA zout zst zH zE zB zcs zL zKc zhr zh => ?_
  obtain ⟨names_, rfl, rfl, hpre, zk⟩ := zh
  have nd := sc_are_different.nd
  have hSL := sizeLine_eq
  show Exs _ _ _ ⟨[some (.fr ((eL D.str) names_))], []⟩ _
  refine exs_one (ex_ret (ev_cmp o_eqi (ev_lenSet (xs := names_) rfl (by exact rfl) T.n_len (by exact rfl) T.n_set (by walk_at "scan") (ev_var 0 rfl (.inl rfl) rfl)) (ev_len (ln_L (xs := names_) (enc := D.str) (by exact rfl)) (ev_var 0 rfl (.inl rfl) rfl) (by exact rfl) T.n_len) (nomark _)) ?_)
  have efin : m_are_different names_ = (decide (((cntS names_ names_.length : Nat) : Int) = (names_.length : Int))) := by simp only [m_are_different, not_true_eq_false, not_false_eq_true, ↓reduceIte]
  rw [efin] at zk
  exact zk _
def m_are_kinds (kinds : List (Str × Int × Int)) : Bool :=
  if (¬ (((1 : Int) ≤ (kinds.length : Int)) ∧ ((kinds.length : Int) ≤ (8 : Int)))) then false else (((kinds.map (fun zc4 : Str × Int × Int => (m_is_kind zc4))).all fun b => b) && (m_are_different (kinds.map (fun zc6 : Str × Int × Int => zc6.1))))
set_option hygiene false in
local macro_rules | `(tactic| walk_at "pre") => `(tactic| first | exact hpre.1 _ (List.mem_of_getElem? (by assumption)) | fail)
theorem sc_are_kinds : FnScope ["kinds", "kind"] ["kinds"] (defScope s_are_kinds) := ⟨rfl, rfl, rfl, by decide +kernel, rfl, by decide +kernel, by decide +kernel⟩
def sp_are_kinds : SpN := fun zcs zL zKc => ∃ kinds : List (Str × Int × Int), zcs = [.fr ((eL (eT3 D.str D.int D.int)) kinds)] ∧ zL = [] ∧ ((∀ k ∈ kinds, k.1.length ≤ 1000) ∧ kinds.length ≤ 1000) ∧ ∀ zL', zKc (.fr (D.bl (m_are_kinds kinds))) zL'
theorem ok_are_kinds (T : TX P K mg) : FnOk P w K mg base CX0 3 T.a_are_kinds T.d_are_kinds ["kinds"] (SpOf K mg sp_are_kinds) := by
  have O_are_different := ok_are_different (P := P) (w := w) (base := base) T
  have O_is_kind := ok_is_kind (P := P) (w := w) (base := base) T
  refine T.F_are_kinds.okN sc_are_kinds (fun zcs zL zKc zh => by obtain ⟨kinds, rfl, _⟩ := zh; rfl) fun zcdv zA zout zst zH zE zB zcs zL zKc zhr zh => ?_
  obtain ⟨kinds, rfl, rfl, hpre, zk⟩ := zh
  have nd := sc_are_kinds.nd
  have hSL := sizeLine_eq
  show Exs _ _ _ ⟨[some (.fr ((eL (eT3 D.str D.int D.int)) kinds)), none], []⟩ _
  refine exs_cons (ex_ifP (bd_not (bd_and bd_d bd_d)) (et_not (et_chain bd_d o_le o_le ev_int (ev_len (ln_L (xs := kinds) (enc := (eT3 D.str D.int D.int)) (by exact rfl)) (ev_var 0 rfl (.inl rfl) rfl) (by exact rfl) T.n_len) (fun zhp => (ev_gi rfl T.c_MOST_KINDS)))) (fun (zh1 : (¬ (((1 : Int) ≤ (kinds.length : Int)) ∧ ((kinds.length : Int) ≤ (8 : Int))))) => ?_) (fun (zh1 : ¬ (¬ (((1 : Int) ≤ (kinds.length : Int)) ∧ ((kinds.length : Int) ≤ (8 : Int))))) => ?_))
  · skip
    refine exs_one (ex_ret ev_bl ?_)
    have efin : m_are_kinds kinds = false := by first | (simp only [m_are_kinds, not_true_eq_false, not_false_eq_true, ↓reduceIte, ↓if_pos zh1]; done) | (first | exact absurd rfl zh1)
    rw [efin] at zk
    exact zk _
  · skip
    refine exs_nil ?_
    show Exs _ _ _ ⟨[some (.fr ((eL (eT3 D.str D.int D.int)) kinds)), none], []⟩ _
    refine exs_one (ex_ret (ev_andP Iff.rfl (ev_callB (ds := [(eL D.bl) (kinds.map (fun zc1 : Str × Int × Int => (m_is_kind zc1)))]) (c_all (bs := (kinds.map (fun zc1 : Str × Int × Int => (m_is_kind zc1)))) rfl) (ea_cons (ev_lcM (enc2 := D.bl) 199 (fun zc1 : Str × Int × Int => (m_is_kind zc1)) _ rfl nd (blkOk_by (N := ["kinds", "kind"]) (sc := defScope s_are_kinds) (own := [(("kind" : Str), 1)]) (by decide +kernel)) (src_listT (ev_var 0 rfl (.inl rfl) rfl)) (by simp [names]) (by decide) (by walk_at "sd") (fun _ zc1 _ zhyzc1 _ _ _ _ _ => (eg_nameC 1 nd rfl (.inl rfl) (by decide) (.inr rfl))) (fun _ zc1 _ zhyzc1 _ _ _ _ _ => (ev_call (ds := [(eT3 D.str D.int D.int) zc1]) (ds' := []) (dvs := []) (dfs := []) O_is_kind (zhr.mono (by decide)) T.m_is_kind T.k_is_kind T.b_is_kind .nil (fun _ => .nil) (ea_cons (ev_var 1 rfl (.inl rfl) rfl) ea_nil) (fun _ zkk => ⟨zc1, rfl, rfl, (by walk_at "pre"), zkk⟩) (by exact rfl)))) ea_nil) (by exact rfl) T.n_all (by decide +kernel)) (fun zhp => (ev_one (ev_call (ds := [(eL D.str) (kinds.map (fun zc3 : Str × Int × Int => zc3.1))]) (ds' := []) (dvs := []) (dfs := []) O_are_different (zhr.mono (by decide)) T.m_are_different T.k_are_different T.b_are_different .nil (fun _ => .nil) (ea_cons (ev_lcM (enc2 := D.str) 199 (fun zc3 : Str × Int × Int => zc3.1) _ rfl nd (blkOk_by (N := ["kinds", "kind"]) (sc := defScope s_are_kinds) (own := [(("kind" : Str), 1)]) (by decide +kernel)) (src_listT (ev_var 0 rfl (.inl rfl) rfl)) (by simp [names]) (by decide) (by walk_at "sd") (fun _ zc3 _ zhyzc3 _ _ _ _ _ => (eg_nameC 1 nd rfl (.inl rfl) (by decide) (.inr rfl))) (fun _ zc3 _ zhyzc3 _ _ _ _ _ => (ev_ix (.t (d := D.str zc3.1) rfl) (ev_var 1 rfl (.inl rfl) rfl) ev_int))) ea_nil) (fun _ zkk => ⟨(kinds.map (fun zc3 : Str × Int × Int => zc3.1)), rfl, rfl, (by walk_at "pre"), zkk⟩) (by exact rfl))))) ?_)
    have efin : m_are_kinds kinds = (((kinds.map (fun zc1 : Str × Int × Int => (m_is_kind zc1))).all fun b => b) && (m_are_different (kinds.map (fun zc3 : Str × Int × Int => zc3.1)))) := by simp only [m_are_kinds, not_true_eq_false, not_false_eq_true, ↓reduceIte, ↓if_neg zh1]
    rw [efin] at zk
    exact zk _
def m_are_ways (ways : List (Str × Str × Int)) (kinds : List (Str × Int × Int)) : Bool :=
  if ((16 : Int) < (ways.length : Int)) then false else let kind_names1 : List Str := (kinds.map (fun zc3 : Str × Int × Int => zc3.1))
  ((ways.map (fun zc4 : Str × Str × Int => (m_is_way zc4 kind_names1))).all fun b => b)
theorem sc_are_ways : FnScope ["ways", "kinds", "kind_names", "kind", "way"] ["ways", "kinds"] (defScope s_are_ways) := ⟨rfl, rfl, rfl, by decide +kernel, rfl, by decide +kernel, by decide +kernel⟩
def sp_are_ways : SpN := fun zcs zL zKc => ∃ ways : List (Str × Str × Int), ∃ kinds : List (Str × Int × Int), zcs = [.fr ((eL (eT3 D.str D.str D.int)) ways), .fr ((eL (eT3 D.str D.int D.int)) kinds)] ∧ zL = [] ∧ (ways.length ≤ 1000 ∧ kinds.length ≤ 1000) ∧ ∀ zL', zKc (.fr (D.bl (m_are_ways ways kinds))) zL'
theorem ok_are_ways (T : TX P K mg) : FnOk P w K mg base CX0 3 T.a_are_ways T.d_are_ways ["ways", "kinds"] (SpOf K mg sp_are_ways) := by
  have O_is_way := ok_is_way (P := P) (w := w) (base := base) T
  refine T.F_are_ways.okN sc_are_ways (fun zcs zL zKc zh => by obtain ⟨ways, kinds, rfl, _⟩ := zh; rfl) fun zcdv zA zout zst zH zE zB zcs zL zKc zhr zh => ?_
  obtain ⟨ways, kinds, rfl, rfl, hpre, zk⟩ := zh
  have nd := sc_are_ways.nd
  have hSL := sizeLine_eq
  show Exs _ _ _ ⟨[some (.fr ((eL (eT3 D.str D.str D.int)) ways)), some (.fr ((eL (eT3 D.str D.int D.int)) kinds)), none, none, none], []⟩ _
  refine exs_cons (ex_ifP bd_d (et_cmp o_gt (ev_len (ln_L (xs := ways) (enc := (eT3 D.str D.str D.int)) (by exact rfl)) (ev_var 0 rfl (.inl rfl) rfl) (by exact rfl) T.n_len) (ev_gi rfl T.c_MOST_WAYS) (nomark _)) (fun (zh1 : ((16 : Int) < (ways.length : Int))) => ?_) (fun (zh1 : ¬ ((16 : Int) < (ways.length : Int))) => ?_))
  · skip
    refine exs_one (ex_ret ev_bl ?_)
    have efin : m_are_ways ways kinds = false := by simp only [m_are_ways, not_true_eq_false, not_false_eq_true, ↓reduceIte, ↓if_pos zh1]
    rw [efin] at zk
    exact zk _
  · skip
    refine exs_nil ?_
    show Exs _ _ _ ⟨[some (.fr ((eL (eT3 D.str D.str D.int)) ways)), some (.fr ((eL (eT3 D.str D.int D.int)) kinds)), none, none, none], []⟩ _
    refine exs_cons (ex_set 2 (ev_lcM (enc2 := D.str) 199 (fun zc1 : Str × Int × Int => zc1.1) _ rfl nd (blkOk_by (N := ["ways", "kinds", "kind_names", "kind", "way"]) (sc := defScope s_are_ways) (own := [(("kind" : Str), 3)]) (by decide +kernel)) (src_listT (ev_var 1 rfl (.inl rfl) rfl)) (by simp [names]) (by decide) (by walk_at "sd") (fun _ zc1 _ zhyzc1 _ _ _ _ _ => (eg_nameC 3 nd rfl (.inl rfl) (by decide) (.inr rfl))) (fun _ zc1 _ zhyzc1 _ _ _ _ _ => (ev_ix (.t (d := D.str zc1.1) rfl) (ev_var 3 rfl (.inl rfl) rfl) ev_int))) ?_ nd rfl (.inr rfl))
    show Exs _ _ _ ⟨[some (.fr ((eL (eT3 D.str D.str D.int)) ways)), some (.fr ((eL (eT3 D.str D.int D.int)) kinds)), some (.fr ((eL D.str) (kinds.map (fun zc1 : Str × Int × Int => zc1.1)))), none, none], []⟩ _
    generalize zg_kind_names : (kinds.map (fun zc1 : Str × Int × Int => zc1.1)) = kind_names
    show Exs _ _ _ ⟨[some (.fr ((eL (eT3 D.str D.str D.int)) ways)), some (.fr ((eL (eT3 D.str D.int D.int)) kinds)), some (.fr ((eL D.str) kind_names)), none, none], []⟩ _
    refine exs_one (ex_ret (ev_callB (ds := [(eL D.bl) (ways.map (fun zc2 : Str × Str × Int => (m_is_way zc2 kind_names)))]) (c_all (bs := (ways.map (fun zc2 : Str × Str × Int => (m_is_way zc2 kind_names)))) rfl) (ea_cons (ev_lcM (enc2 := D.bl) 199 (fun zc2 : Str × Str × Int => (m_is_way zc2 kind_names)) _ rfl nd (blkOk_by (N := ["ways", "kinds", "kind_names", "kind", "way"]) (sc := defScope s_are_ways) (own := [(("way" : Str), 4)]) (by decide +kernel)) (src_listT (ev_var 0 rfl (.inl rfl) rfl)) (by simp [names]) (by decide) (by walk_at "sd") (fun _ zc2 _ zhyzc2 _ _ _ _ _ => (eg_nameC 4 nd rfl (.inl rfl) (by decide) (.inr rfl))) (fun _ zc2 _ zhyzc2 _ _ _ _ _ => (ev_call (ds := [(eT3 D.str D.str D.int) zc2, (eL D.str) kind_names]) (ds' := []) (dvs := []) (dfs := []) O_is_way (zhr.mono (by decide)) T.m_is_way T.k_is_way T.b_is_way .nil (fun _ => .nil) (ea_cons (ev_var 4 rfl (.inl rfl) rfl) (ea_cons (ev_var 2 rfl (.inr (.inl rfl)) rfl) ea_nil)) (fun _ zkk => ⟨zc2, kind_names, rfl, rfl, trivial, zkk⟩) (by exact rfl)))) ea_nil) (by exact rfl) T.n_all (by decide +kernel)) ?_)
    have efin : m_are_ways ways kinds = ((ways.map (fun zc2 : Str × Str × Int => (m_is_way zc2 kind_names))).all fun b => b) := by subst zg_kind_names; simp only [m_are_ways, not_true_eq_false, not_false_eq_true, ↓reduceIte, ↓if_neg zh1]
    rw [efin] at zk
    exact zk _
def m_Task_init__ (name : Str) (kinds : List (Str × Int × Int)) (ways : List (Str × Str × Int)) : Task :=
  if (¬ ((m_is_name name) = true)) then default else if (¬ ((m_are_kinds kinds) = true)) then default else if (¬ ((m_are_ways ways kinds) = true)) then default else ({ name := name, kinds := kinds, ways := ways } : Task)
set_option hygiene false in
local macro_rules | `(tactic| walk_at "pre") => `(tactic| first | exact hpre.1 | exact ⟨hpre.2.2.1, hpre.2.2.2.1⟩ | exact ⟨hpre.2.2.2.2.2.1, hpre.2.2.2.1⟩ | fail)
def Task.ok (t : Task) : Prop := m_are_kinds t.kinds = true ∧ m_are_ways t.ways t.kinds = true
theorem Task.ok.k1 {t : Task} (h : t.ok) : 1 ≤ t.kinds.length ∧ t.kinds.length ≤ 8 := by
  have q := h.1
  unfold m_are_kinds at q
  split at q
  · cases q
  · rename_i z; exact ⟨by have := Classical.not_not.mp z; omega, by have := Classical.not_not.mp z; omega⟩
theorem Task.ok.w1 {t : Task} (h : t.ok) : t.ways.length ≤ 16 := by
  have q := h.2
  unfold m_are_ways at q
  split at q
  · cases q
  · rename_i z; omega
theorem Task.ok.wn {t : Task} (h : t.ok) : ∀ w ∈ t.ways, w.1 ∈ t.kinds.map (·.1) ∧ w.2.1 ∈ t.kinds.map (·.1) := by
  have q := h.2
  unfold m_are_ways at q
  split at q
  · cases q
  · intro w hw
    have q1 := List.all_eq_true.mp q _ (List.mem_map.mpr ⟨w, hw, rfl⟩)
    unfold m_is_way at q1
    split at q1
    · cases q1
    · rw [Bool.and_eq_true, Bool.and_eq_true] at q1
      exact ⟨of_decide_eq_true q1.1, of_decide_eq_true q1.2.1⟩
theorem sc_Task_init__ : FnScope ["self", "name", "kinds", "ways"] ["self", "name", "kinds", "ways"] (defScope s_Task_init__) := ⟨rfl, rfl, rfl, by decide +kernel, rfl, by decide +kernel, by decide +kernel⟩
def sp_Task_init__ : SpN := fun zcs zL zKc => ∃ name : Str, ∃ kinds : List (Str × Int × Int), ∃ ways : List (Str × Str × Int), zcs = [.ad 0, .fr (D.str name), .fr ((eL (eT3 D.str D.int D.int)) kinds), .fr ((eL (eT3 D.str D.str D.int)) ways)] ∧ zL = [(0, .ins "Task" [])] ∧ (name.length ≤ 1000 ∧ m_is_name name = true ∧ (∀ k ∈ kinds, k.1.length ≤ 1000) ∧ kinds.length ≤ 1000 ∧ m_are_kinds kinds = true ∧ ways.length ≤ 1000 ∧ m_are_ways ways kinds = true) ∧ zKc (.fr .non) [(0, .ins "Task" ((fTask (m_Task_init__ name kinds ways)).map fun p => (p.1, Ce.fr p.2)))]
theorem ok_Task_init__ (T : TX P K mg) : FnOk P w K mg base CX0 4 T.a_Task_init__ T.d_Task_init__ ["self", "name", "kinds", "ways"] (SpOf K mg sp_Task_init__) := by
  have O_are_kinds := ok_are_kinds (P := P) (w := w) (base := base) T
  have O_are_ways := ok_are_ways (P := P) (w := w) (base := base) T
  have O_is_name := ok_is_name (P := P) (w := w) (base := base) T
  refine T.F_Task_init__.okN sc_Task_init__ (fun zcs zL zKc zh => by obtain ⟨name, kinds, ways, rfl, _⟩ := zh; rfl) fun zcdv zA zout zst zH zE zB zcs zL zKc zhr zh => ?_
  obtain ⟨name, kinds, ways, rfl, rfl, hpre, zk⟩ := zh
  have nd := sc_Task_init__.nd
  have hSL := sizeLine_eq
  show Exs _ _ _ ⟨[some (.ad 0), some (.fr (D.str name)), some (.fr ((eL (eT3 D.str D.int D.int)) kinds)), some (.fr ((eL (eT3 D.str D.str D.int)) ways))], [(0, .ins "Task" [])]⟩ _
  refine exs_cons (ex_ifP (bd_not Iff.rfl) (et_not (et_val (ev_call (ds := [D.str name]) (ds' := []) (dvs := []) (dfs := []) O_is_name (zhr.mono (by decide)) T.m_is_name T.k_is_name T.b_is_name .nil (fun _ => .nil) (ea_cons (ev_var 1 rfl (.inl rfl) rfl) ea_nil) (fun _ zkk => ⟨name, rfl, rfl, (by walk_at "pre"), zkk⟩) (by exact rfl)))) (fun (zh1 : (¬ ((m_is_name name) = true))) => ?_) (fun (zh1 : ¬ (¬ ((m_is_name name) = true))) => ?_))
  · skip
    first | exact absurd hpre.2.1 zh1 | exact absurd hpre.2.2.2.2.1 zh2 | exact absurd hpre.2.2.2.2.2.2 zh3
  · skip
    refine exs_nil ?_
    show Exs _ _ _ ⟨[some (.ad 0), some (.fr (D.str name)), some (.fr ((eL (eT3 D.str D.int D.int)) kinds)), some (.fr ((eL (eT3 D.str D.str D.int)) ways))], [(0, .ins "Task" [])]⟩ _
    refine exs_cons (ex_ifP (bd_not Iff.rfl) (et_not (et_val (ev_call (ds := [(eL (eT3 D.str D.int D.int)) kinds]) (ds' := []) (dvs := []) (dfs := []) O_are_kinds (zhr.mono (by decide)) T.m_are_kinds T.k_are_kinds T.b_are_kinds .nil (fun _ => .nil) (ea_cons (ev_var 2 rfl (.inl rfl) rfl) ea_nil) (fun _ zkk => ⟨kinds, rfl, rfl, (by walk_at "pre"), zkk⟩) (by exact rfl)))) (fun (zh2 : (¬ ((m_are_kinds kinds) = true))) => ?_) (fun (zh2 : ¬ (¬ ((m_are_kinds kinds) = true))) => ?_))
    · skip
      first | exact absurd hpre.2.1 zh1 | exact absurd hpre.2.2.2.2.1 zh2 | exact absurd hpre.2.2.2.2.2.2 zh3
    · skip
      refine exs_nil ?_
      show Exs _ _ _ ⟨[some (.ad 0), some (.fr (D.str name)), some (.fr ((eL (eT3 D.str D.int D.int)) kinds)), some (.fr ((eL (eT3 D.str D.str D.int)) ways))], [(0, .ins "Task" [])]⟩ _
      refine exs_cons (ex_ifP (bd_not Iff.rfl) (et_not (et_val (ev_call (ds := [(eL (eT3 D.str D.str D.int)) ways, (eL (eT3 D.str D.int D.int)) kinds]) (ds' := []) (dvs := []) (dfs := []) O_are_ways (zhr.mono (by decide)) T.m_are_ways T.k_are_ways T.b_are_ways .nil (fun _ => .nil) (ea_cons (ev_var 3 rfl (.inl rfl) rfl) (ea_cons (ev_var 2 rfl (.inl rfl) rfl) ea_nil)) (fun _ zkk => ⟨ways, kinds, rfl, rfl, (by walk_at "pre"), zkk⟩) (by exact rfl)))) (fun (zh3 : (¬ ((m_are_ways ways kinds) = true))) => ?_) (fun (zh3 : ¬ (¬ ((m_are_ways ways kinds) = true))) => ?_))
      · skip
        first | exact absurd hpre.2.1 zh1 | exact absurd hpre.2.2.2.2.1 zh2 | exact absurd hpre.2.2.2.2.2.2 zh3
      · skip
        refine exs_nil ?_
        show Exs _ _ _ ⟨[some (.ad 0), some (.fr (D.str name)), some (.fr ((eL (eT3 D.str D.int D.int)) kinds)), some (.fr ((eL (eT3 D.str D.str D.int)) ways))], [(0, .ins "Task" [])]⟩ _
        refine exs_cons (ex_fld (c := "Task") (n := 0) (d := D.str name) T.q_Task T.cl_Task T.na_Task_name (ev_var 1 rfl (.inl rfl) rfl) (ev_var 0 rfl (.inl rfl) rfl) rfl (by first | decide | (simp only [List.length_cons, List.length_nil]; decide)) ?_)
        show Exs _ _ _ ⟨[some (.ad 0), some (.fr (D.str name)), some (.fr ((eL (eT3 D.str D.int D.int)) kinds)), some (.fr ((eL (eT3 D.str D.str D.int)) ways))], [(0, .ins "Task" [("name", (.fr (D.str name)))])]⟩ _
        refine exs_cons (ex_fld (c := "Task") (n := 0) (d := (eU (eT3 D.str D.int D.int)) kinds) T.q_Task T.cl_Task T.na_Task_kinds (ev_callTy (ds := [(eL (eT3 D.str D.int D.int)) kinds]) c_tuple (ea_cons (ev_var 2 rfl (.inl rfl) rfl) ea_nil) (by exact rfl) T.n_tuple (by decide +kernel)) (ev_var 0 rfl (.inl rfl) rfl) rfl (by first | decide | (simp only [List.length_cons, List.length_nil]; decide)) ?_)
        show Exs _ _ _ ⟨[some (.ad 0), some (.fr (D.str name)), some (.fr ((eL (eT3 D.str D.int D.int)) kinds)), some (.fr ((eL (eT3 D.str D.str D.int)) ways))], [(0, .ins "Task" [("name", (.fr (D.str name))), ("kinds", (.fr ((eU (eT3 D.str D.int D.int)) kinds)))])]⟩ _
        refine exs_one (ex_fld (c := "Task") (n := 0) (d := (eU (eT3 D.str D.str D.int)) ways) T.q_Task T.cl_Task T.na_Task_ways (ev_callTy (ds := [(eL (eT3 D.str D.str D.int)) ways]) c_tuple (ea_cons (ev_var 3 rfl (.inl rfl) rfl) ea_nil) (by exact rfl) T.n_tuple (by decide +kernel)) (ev_var 0 rfl (.inl rfl) rfl) rfl (by first | decide | (simp only [List.length_cons, List.length_nil]; decide)) ?_)
        have efin : m_Task_init__ name kinds ways = ({ name := name, kinds := kinds, ways := ways } : Task) := by simp only [m_Task_init__, not_true_eq_false, not_false_eq_true, ↓reduceIte, ↓if_neg zh1, ↓if_neg zh2, ↓if_neg zh3]
        rw [efin] at zk
        exact zk
def m_Task_kind_number_l0 (kind_name : Str) (zs0 : Unit) (zy0 : Int × (Str × Int × Int)) : Except Int (Unit) :=
  if (zy0.2.1 = kind_name) then .error zy0.1 else .ok ()
def m_Task_kind_number (self : Task) (kind_name : Str) : Int :=
  match (runE (m_Task_kind_number_l0 kind_name) (enL 0 self.kinds) ()) with | .error r => r | .ok zs0 => default
theorem enum_at {kn : Str} : ∀ {ks : List (Str × Int × Int)} {i : Nat}, kn ∈ ks.map (·.1) → ∃ j : Nat, runE (m_Task_kind_number_l0 kn) (enL i ks) () = .error ((i + j : Nat) : Int) ∧ j < ks.length ∧ (∃ c, ks[j]? = some c ∧ c.1 = kn) ∧ ∀ m, m < j → ∀ c, ks[m]? = some c → c.1 ≠ kn
  | [], i, h => absurd h (by simp)
  | k :: ks, i, h => by
    by_cases e : k.1 = kn
    · refine ⟨0, ?_, by simp, ⟨k, rfl, e⟩, fun m hm => absurd hm (by omega)⟩
      rw [show enL i (k :: ks) = ((i : Int), k) :: enL (i + 1) ks from rfl, runE_cons, show m_Task_kind_number_l0 kn () ((i : Int), k) = .error (i : Int) from by unfold m_Task_kind_number_l0; rw [if_pos e]]
      rfl
    · obtain ⟨j, h1, h2, h3, h4⟩ := enum_at (ks := ks) (i := i + 1) (by
        rcases List.mem_cons.mp (show kn ∈ k.1 :: ks.map (·.1) from h) with q | q
        · exact absurd q.symm e
        · exact q)
      refine ⟨j + 1, ?_, by simp; omega, h3, fun m hm c hc => ?_⟩
      · rw [show enL i (k :: ks) = ((i : Int), k) :: enL (i + 1) ks from rfl, runE_cons, show m_Task_kind_number_l0 kn () ((i : Int), k) = .ok () from by unfold m_Task_kind_number_l0; rw [if_neg e]]
        dsimp only
        rw [h1, show i + 1 + j = i + (j + 1) by omega]
      · cases m with
        | zero => cases hc; exact e
        | succ m => exact h4 m (by omega) c hc
theorem enum_found {kn : Str} {ks : List (Str × Int × Int)} {u : Unit} (h : kn ∈ ks.map (·.1)) (q : runE (m_Task_kind_number_l0 kn) (enL 0 ks) () = .ok u) : False := by
  obtain ⟨j, e, _⟩ := enum_at (i := 0) h
  rw [e] at q; cases q
theorem kind_number_spec {t : Task} {kn : Str} (h : kn ∈ t.kinds.map (·.1)) : ∃ j : Nat, m_Task_kind_number t kn = (j : Int) ∧ j < t.kinds.length ∧ (∃ c, t.kinds[j]? = some c ∧ c.1 = kn) ∧ ∀ m, m < j → ∀ c, t.kinds[m]? = some c → c.1 ≠ kn := by
  obtain ⟨j, e, r⟩ := enum_at (i := 0) h
  refine ⟨j, ?_, r⟩
  unfold m_Task_kind_number
  rw [e, Nat.zero_add]
theorem sc_Task_kind_number : FnScope ["self", "kind_name", "number", "kind"] ["self", "kind_name"] (defScope s_Task_kind_number) := ⟨rfl, rfl, rfl, by decide +kernel, rfl, by decide +kernel, by decide +kernel⟩
def sp_Task_kind_number : SpN := fun zcs zL zKc => ∃ self : Task, ∃ kind_name : Str, zcs = [.fr (eTask self), .fr (D.str kind_name)] ∧ zL = [] ∧ (self.ok ∧ kind_name ∈ self.kinds.map (·.1)) ∧ ∀ zL', zKc (.fr (D.int (m_Task_kind_number self kind_name))) zL'
theorem ok_Task_kind_number (T : TX P K mg) : FnOk P w K mg base CX0 1 T.a_Task_kind_number T.d_Task_kind_number ["self", "kind_name"] (SpOf K mg sp_Task_kind_number) := by
  refine T.F_Task_kind_number.okN sc_Task_kind_number (fun zcs zL zKc zh => by obtain ⟨self, kind_name, rfl, _⟩ := zh; rfl) fun zcdv zA zout zst zH zE zB zcs zL zKc zhr zh => ?_
  obtain ⟨self, kind_name, rfl, rfl, hpre, zk⟩ := zh
  have nd := sc_Task_kind_number.nd
  have hSL := sizeLine_eq
  have hk1 := hpre.1.k1
  have hw1 := hpre.1.w1
  skip
  show Exs _ _ _ ⟨[some (.fr (eTask self)), some (.fr (D.str kind_name)), none, none], []⟩ _
  refine exs_cons (ex_forE (enc := (eT2 D.int (eT3 D.str D.int D.int))) (fun (zs0 : Unit) => (⟨[some (.fr (eTask self)), some (.fr (D.str kind_name)), none, none], []⟩ : Nz.S)) (m_Task_kind_number_l0 kind_name) () (fun (zi0 : Nat) (zs0 : Unit) => True) (fun r c S' => c = .fr (D.int r) ∧ True) (src_enumU (enc := (eT3 D.str D.int D.int)) (xs := self.kinds) (ea_cons (ev_fld (c := "Task") (fs := fTask self) T.q_Task T.cl_Task T.na_Task_kinds rfl (ev_var 0 rfl (.inl rfl) rfl)) ea_nil) (by exact rfl) T.n_enumerate) ⟨⟨.inr rfl, .inr rfl, .inl rfl, .inl rfl, trivial⟩, rfl⟩ trivial ?_ ?_ ?_ PassesOwn.never rfl)
  · intro zi0 zy0 zs0 zhy0 zrun0 zq0
    skip
    refine ⟨⟨[some (.fr (eTask self)), some (.fr (D.str kind_name)), some (.fr (D.int zy0.1)), some (.fr ((eT3 D.str D.int D.int) zy0.2))], []⟩, (eg_tup rfl (egs_cons (eg_name 2 nd rfl (.inl rfl)) (egs_cons (eg_name 3 nd rfl (.inl rfl)) egs_nil))), ?_⟩
    refine exs_one (ex_ifP bd_d (et_cmp o_eqs (ev_ix (.t (d := D.str zy0.2.1) rfl) (ev_var 3 rfl (.inl rfl) rfl) ev_int) (ev_var 1 rfl (.inl rfl) rfl) (nomark _)) (fun (zh1 : (zy0.2.1 = kind_name)) => ?_) (fun (zh1 : ¬ (zy0.2.1 = kind_name)) => ?_))
    · skip
      refine exs_one (ex_ret (ev_var 2 rfl (.inl rfl) rfl) ?_)
      have est : (m_Task_kind_number_l0 kind_name) zs0 zy0 = .error zy0.1 := by simp only [m_Task_kind_number_l0, not_true_eq_false, not_false_eq_true, ↓reduceIte, ↓if_pos zh1]
      exact ⟨_, est, rfl, trivial⟩
    · skip
      refine exs_nil ?_
      have est : (m_Task_kind_number_l0 kind_name) zs0 zy0 = .ok () := by simp only [m_Task_kind_number_l0, not_true_eq_false, not_false_eq_true, ↓reduceIte, ↓if_neg zh1]
      exact ⟨_, est, ⟨⟨.inr rfl, .inr rfl, .inl rfl, .inl rfl, trivial⟩, rfl⟩, trivial⟩
  · rintro zr zc zS zrun0 ⟨rfl, zhL⟩
    skip
    have zh2 := zrun0
    have efin : m_Task_kind_number self kind_name = zr := by simp only [m_Task_kind_number, not_true_eq_false, not_false_eq_true, ↓reduceIte, ↓zh2]
    rw [efin] at zk
    exact zk _
  · intro zs0 zrun0 zq0
    have zh3 := zrun0
    show Exs _ _ _ ⟨[some (.fr (eTask self)), some (.fr (D.str kind_name)), none, none], []⟩ _
    exfalso
    exact enum_found hpre.2 zrun0
def m_Task_kind (self : Task) (kind_name : Str) : Str × Int × Int :=
  (self.kinds.getD ((m_Task_kind_number self kind_name)).toNat default)
theorem str_len_append (a b : Str) : (a ++ b).length = a.length + b.length := by
  show (a.cps ++ b.cps).size = _
  rw [Array.size_append]; rfl
theorem fold_snoc {τ μ : Type} (g : μ → τ) (f : List τ → μ → List τ) (hf : ∀ s y, f s y = s ++ [g y]) : ∀ (ys : List μ) (s : List τ), ys.foldl f s = s ++ ys.map g
  | [], s => by simp
  | y :: ys, s => by rw [List.foldl_cons, fold_snoc g f hf ys, hf]; simp
theorem cut_len (z : Str) (a b : Option Int) : (cutS z a b).length ≤ z.length := by
  unfold cutS
  show (List.toArray _).size ≤ z.cps.size
  rw [List.size_toArray, List.length_take, List.length_drop, Array.length_toList]
  omega
theorem chA_len (z : Str) (i : Int) : (chA z i).length = 1 := rfl
theorem join_room (ys : List Str) (h1 : ys.length ≤ 100) (h : ∀ y ∈ ys, y.length = 1) : (ys.map (·.length)).sum + ys.length * (Str.ofString "").length ≤ 16777216 := by
  have : ∀ ys : List Str, (∀ y ∈ ys, y.length = 1) → (ys.map (·.length)).sum = ys.length := by
    intro ys
    induction ys with
    | nil => intro _; rfl
    | cons y r ih => intro h; rw [List.map_cons, List.sum_cons, ih fun z hz => h z (List.mem_cons_of_mem _ hz), h y List.mem_cons_self, List.length_cons]; omega
  rw [this ys h, show (Str.ofString "").length = 0 by decide +kernel]; omega
set_option hygiene false in
local macro_rules | `(tactic| walk_at "join") => `(tactic| first | (exact join_room _ (by rw [List.length_map, List.length_range]; omega) (fun y hy => by obtain ⟨i, _, rfl⟩ := List.mem_map.mp hy; rfl)) | fail)
set_option hygiene false in
local macro_rules | `(tactic| walk_at "sd") => `(tactic| first | (simp only [str_len_append, chA_len]; have h1 := cut_len word none (some cut); have h2 := cut_len word (some cut) none; omega) | fail)
theorem getD_mem {τ : Type} [Inhabited τ] {xs : List τ} {i : Nat} (h : i < xs.length) : xs.getD i default ∈ xs := by
  rw [List.getD_eq_getElem?_getD, List.getElem?_eq_getElem h]; exact List.getElem_mem h
structure KindsOk (kinds : List (Str × Int × Int)) : Prop where
  are : m_are_kinds kinds = true
  le : kinds.length ≤ 8
  pos : 1 ≤ kinds.length
  short : ∀ k ∈ kinds, k.1.length ≤ 1000
  cost : ∀ k ∈ kinds, 1 ≤ k.2.1 ∧ k.2.1 ≤ 1000
  due : ∀ k ∈ kinds, 1 ≤ k.2.2 ∧ k.2.2 ≤ 1000
structure WaysOk (ways : List (Str × Str × Int)) (kinds : List (Str × Int × Int)) : Prop where
  are : m_are_ways ways kinds = true
  le : ways.length ≤ 16
  dist : ∀ w ∈ ways, 1 ≤ w.2.2 ∧ w.2.2 ≤ 1000
  ends : ∀ w ∈ ways, w.1 ∈ kinds.map (·.1) ∧ w.2.1 ∈ kinds.map (·.1)
theorem ways_ok_of {ways : List (Str × Str × Int)} {kinds : List (Str × Int × Int)} (h1 : ways.length ≤ 16) (h2 : ∀ w ∈ ways, 1 ≤ w.2.2 ∧ w.2.2 ≤ 1000) (h3 : ∀ w ∈ ways, w.1 ∈ kinds.map (·.1) ∧ w.2.1 ∈ kinds.map (·.1)) : WaysOk ways kinds := by
  refine ⟨?_, h1, h2, h3⟩
  unfold m_are_ways
  rw [if_neg (by omega), List.all_eq_true]
  intro b hb
  obtain ⟨w, hw, rfl⟩ := List.mem_map.mp hb
  unfold m_is_way m_is_integer
  rw [if_neg (by rintro (q | q) <;> exact q rfl), decide_eq_true (h3 w hw).1, decide_eq_true (h3 w hw).2, decide_eq_true (h2 w hw).1, decide_eq_true (h2 w hw).2]
  rfl
theorem sc_Task_kind : FnScope ["self", "kind_name"] ["self", "kind_name"] (defScope s_Task_kind) := ⟨rfl, rfl, rfl, by decide +kernel, rfl, by decide +kernel, by decide +kernel⟩
def sp_Task_kind : SpN := fun zcs zL zKc => ∃ self : Task, ∃ kind_name : Str, zcs = [.fr (eTask self), .fr (D.str kind_name)] ∧ zL = [] ∧ (self.ok ∧ kind_name ∈ self.kinds.map (·.1)) ∧ ∀ zL', zKc (.fr ((eT3 D.str D.int D.int) (m_Task_kind self kind_name))) zL'
theorem ok_Task_kind (T : TX P K mg) : FnOk P w K mg base CX0 2 T.a_Task_kind T.d_Task_kind ["self", "kind_name"] (SpOf K mg sp_Task_kind) := by
  have O_Task_kind_number := ok_Task_kind_number (P := P) (w := w) (base := base) T
  refine T.F_Task_kind.okN sc_Task_kind (fun zcs zL zKc zh => by obtain ⟨self, kind_name, rfl, _⟩ := zh; rfl) fun zcdv zA zout zst zH zE zB zcs zL zKc zhr zh => ?_
  obtain ⟨self, kind_name, rfl, rfl, hpre, zk⟩ := zh
  have nd := sc_Task_kind.nd
  have hSL := sizeLine_eq
  obtain ⟨zj, zj1, zj2, zj3, zj4⟩ := kind_number_spec hpre.2
  show Exs _ _ _ ⟨[some (.fr (eTask self)), some (.fr (D.str kind_name))], []⟩ _
  refine exs_one (ex_ret (ev_ix (ix_U (enc := (eT3 D.str D.int D.int)) (by walk_at "sd") (by walk_at "sd")) (ev_fld (c := "Task") (fs := fTask self) T.q_Task T.cl_Task T.na_Task_kinds rfl (ev_var 0 rfl (.inl rfl) rfl)) (ev_meth (c := "Task") (fs := fTask self) (ds := [D.str kind_name]) T.q_Task T.cl_Task T.me_Task_kind_number rfl O_Task_kind_number (zhr.mono (by decide)) T.b_Task_kind_number (ev_var 0 rfl (.inl rfl) rfl) (ea_cons (ev_var 1 rfl (.inl rfl) rfl) ea_nil) (fun _ zkk => ⟨self, kind_name, rfl, rfl, (by walk_at "pre"), zkk⟩))) ?_)
  have efin : m_Task_kind self kind_name = (self.kinds.getD ((m_Task_kind_number self kind_name)).toNat default) := by simp only [m_Task_kind, not_true_eq_false, not_false_eq_true, ↓reduceIte]
  rw [efin] at zk
  exact zk _
def m_Task_ways_from (self : Task) (kind_name : Str) : List (Str × Int) :=
  let source1 : Str := (m_Task_kind self kind_name).1
  ((self.ways.filter (fun zc2 : Str × Str × Int => (decide (zc2.1 = source1)))).map (fun zc2 : Str × Str × Int => (zc2.2.1, zc2.2.2)))
theorem sc_Task_ways_from : FnScope ["self", "kind_name", "source", "way"] ["self", "kind_name"] (defScope s_Task_ways_from) := ⟨rfl, rfl, rfl, by decide +kernel, rfl, by decide +kernel, by decide +kernel⟩
def sp_Task_ways_from : SpN := fun zcs zL zKc => ∃ self : Task, ∃ kind_name : Str, zcs = [.fr (eTask self), .fr (D.str kind_name)] ∧ zL = [] ∧ (self.ok ∧ kind_name ∈ self.kinds.map (·.1)) ∧ ∀ zL', zKc (.fr ((eL (eT2 D.str D.int)) (m_Task_ways_from self kind_name))) zL'
theorem ok_Task_ways_from (T : TX P K mg) : FnOk P w K mg base CX0 3 T.a_Task_ways_from T.d_Task_ways_from ["self", "kind_name"] (SpOf K mg sp_Task_ways_from) := by
  have O_Task_kind := ok_Task_kind (P := P) (w := w) (base := base) T
  refine T.F_Task_ways_from.okN sc_Task_ways_from (fun zcs zL zKc zh => by obtain ⟨self, kind_name, rfl, _⟩ := zh; rfl) fun zcdv zA zout zst zH zE zB zcs zL zKc zhr zh => ?_
  obtain ⟨self, kind_name, rfl, rfl, hpre, zk⟩ := zh
  have nd := sc_Task_ways_from.nd
  have hSL := sizeLine_eq
  have hk1 := hpre.1.k1
  have hw1 := hpre.1.w1
  show Exs _ _ _ ⟨[some (.fr (eTask self)), some (.fr (D.str kind_name)), none, none], []⟩ _
  refine exs_cons (ex_set 2 (ev_ix (.t (d := D.str ((m_Task_kind self kind_name).1)) rfl) (ev_meth (c := "Task") (fs := fTask self) (ds := [D.str kind_name]) T.q_Task T.cl_Task T.me_Task_kind rfl O_Task_kind (zhr.mono (by decide)) T.b_Task_kind (ev_var 0 rfl (.inl rfl) rfl) (ea_cons (ev_var 1 rfl (.inl rfl) rfl) ea_nil) (fun _ zkk => ⟨self, kind_name, rfl, rfl, (by walk_at "pre"), zkk⟩)) ev_int) ?_ nd rfl (.inr rfl))
  show Exs _ _ _ ⟨[some (.fr (eTask self)), some (.fr (D.str kind_name)), some (.fr (D.str ((m_Task_kind self kind_name).1))), none], []⟩ _
  generalize zg_source : (m_Task_kind self kind_name).1 = source
  show Exs _ _ _ ⟨[some (.fr (eTask self)), some (.fr (D.str kind_name)), some (.fr (D.str source)), none], []⟩ _
  refine exs_one (ex_ret (ev_lcF (enc2 := (eT2 D.str D.int)) 199 (fun zc1 : Str × Str × Int => (zc1.2.1, zc1.2.2)) (fun zc1 : Str × Str × Int => (decide (zc1.1 = source))) _ rfl nd (blkOk_by (N := ["self", "kind_name", "source", "way"]) (sc := defScope s_Task_ways_from) (own := [(("way" : Str), 3)]) (by decide +kernel)) (src_tupT (ev_fld (c := "Task") (fs := fTask self) T.q_Task T.cl_Task T.na_Task_ways rfl (ev_var 0 rfl (.inl rfl) rfl))) (by simp [names]) (by decide) (by walk_at "sd") (fun _ zc1 _ zhyzc1 _ _ _ _ _ => (eg_nameC 3 nd rfl (.inl rfl) (by decide) (.inr rfl))) (fun _ zc1 _ zhyzc1 _ _ _ _ _ => (et_cmp o_eqs (ev_ix (.t (d := D.str zc1.1) rfl) (ev_var 3 rfl (.inl rfl) rfl) ev_int) (ev_var 2 rfl (.inr (.inl rfl)) rfl) (nomark _))) (fun _ zc1 _ zhyzc1 zhpzc1 _ _ _ _ _ => (ev_tup (ds := [D.str zc1.2.1, D.int zc1.2.2]) (ea_cons (ev_ix (.t (d := D.str zc1.2.1) rfl) (ev_var 3 rfl (.inl rfl) rfl) ev_int) (ea_cons (ev_ix (.t (d := D.int zc1.2.2) rfl) (ev_var 3 rfl (.inl rfl) rfl) ev_int) ea_nil)) (by simp only [List.length_cons, List.length_nil]; decide)))) ?_)
  have efin : m_Task_ways_from self kind_name = ((self.ways.filter (fun zc1 : Str × Str × Int => (decide (zc1.1 = source)))).map (fun zc1 : Str × Str × Int => (zc1.2.1, zc1.2.2))) := by subst zg_source; simp only [m_Task_ways_from, not_true_eq_false, not_false_eq_true, ↓reduceIte]
  rw [efin] at zk
  exact zk _
def m_steps (task : Task) (kind_name : Str) : List (Int × Int) :=
  ((m_Task_ways_from task kind_name).map (fun zc2 : Str × Int => ((m_Task_kind_number task zc2.1), zc2.2)))
set_option hygiene false in
local macro_rules | `(tactic| walk_at "pre") => `(tactic| first | exact ⟨hpre.1, hpre.2⟩ | exact ⟨hpre.1, hwf.2 _ (List.mem_of_getElem? (by assumption))⟩ | fail)
theorem ways_from_facts {t : Task} (h : t.ok) (kn : Str) : (m_Task_ways_from t kn).length ≤ 16 ∧ ∀ w ∈ m_Task_ways_from t kn, w.1 ∈ t.kinds.map (·.1) := by
  have h1 := h.w1
  unfold m_Task_ways_from
  refine ⟨?_, fun w hw => ?_⟩
  · rw [List.length_map]; have := List.length_filter_le (fun zc2 : Str × Str × Int => decide (zc2.1 = (m_Task_kind t kn).1)) t.ways; omega
  · obtain ⟨x, hx, rfl⟩ := List.mem_map.mp hw
    exact (h.wn x (List.mem_filter.mp hx).1).2
theorem Task.ok.dist {t : Task} (h : t.ok) : ∀ w ∈ t.ways, 1 ≤ w.2.2 ∧ w.2.2 ≤ 1000 := by
  have q := h.2
  unfold m_are_ways at q
  split at q
  · cases q
  · intro w hw
    have q1 := List.all_eq_true.mp q _ (List.mem_map.mpr ⟨w, hw, rfl⟩)
    unfold m_is_way at q1
    split at q1
    · cases q1
    · rw [Bool.and_eq_true, Bool.and_eq_true] at q1
      have q2 := q1.2.2
      unfold m_is_integer at q2
      simp at q2
      exact q2
theorem steps_facts {t : Task} (h : t.ok) (kn : Str) : ∀ s ∈ m_steps t kn, 0 ≤ s.1 ∧ s.1 < (t.kinds.length : Int) ∧ 1 ≤ s.2 ∧ s.2 ≤ 1000 := by
  intro s hs
  unfold m_steps at hs
  obtain ⟨x, hx, rfl⟩ := List.mem_map.mp hs
  obtain ⟨j, e, hj, _⟩ := kind_number_spec ((ways_from_facts h kn).2 x hx)
  unfold m_Task_ways_from at hx
  obtain ⟨w, hw, rfl⟩ := List.mem_map.mp hx
  have hd := h.dist w (List.mem_filter.mp hw).1
  dsimp only at e ⊢
  rw [e]
  omega
theorem sc_steps : FnScope ["task", "kind_name", "target", "distance"] ["task", "kind_name"] (defScope s_steps) := ⟨rfl, rfl, rfl, by decide +kernel, rfl, by decide +kernel, by decide +kernel⟩
def sp_steps : SpN := fun zcs zL zKc => ∃ task : Task, ∃ kind_name : Str, zcs = [.fr (eTask task), .fr (D.str kind_name)] ∧ zL = [] ∧ (task.ok ∧ kind_name ∈ task.kinds.map (·.1)) ∧ ∀ zL', zKc (.fr ((eL (eT2 D.int D.int)) (m_steps task kind_name))) zL'
theorem ok_steps (T : TX P K mg) : FnOk P w K mg base CX0 4 T.a_steps T.d_steps ["task", "kind_name"] (SpOf K mg sp_steps) := by
  have O_Task_kind_number := ok_Task_kind_number (P := P) (w := w) (base := base) T
  have O_Task_ways_from := ok_Task_ways_from (P := P) (w := w) (base := base) T
  refine T.F_steps.okN sc_steps (fun zcs zL zKc zh => by obtain ⟨task, kind_name, rfl, _⟩ := zh; rfl) fun zcdv zA zout zst zH zE zB zcs zL zKc zhr zh => ?_
  obtain ⟨task, kind_name, rfl, rfl, hpre, zk⟩ := zh
  have nd := sc_steps.nd
  have hSL := sizeLine_eq
  have hwf := ways_from_facts hpre.1 kind_name
  show Exs _ _ _ ⟨[some (.fr (eTask task)), some (.fr (D.str kind_name)), none, none], []⟩ _
  refine exs_one (ex_ret (ev_lcM (enc2 := (eT2 D.int D.int)) 199 (fun zc1 : Str × Int => ((m_Task_kind_number task zc1.1), zc1.2)) _ rfl nd (blkOk_by (N := ["task", "kind_name", "target", "distance"]) (sc := defScope s_steps) (own := [(("target" : Str), 2), (("distance" : Str), 3)]) (by decide +kernel)) (src_listT (ev_meth (c := "Task") (fs := fTask task) (ds := [D.str kind_name]) T.q_Task T.cl_Task T.me_Task_ways_from rfl O_Task_ways_from (zhr.mono (by decide)) T.b_Task_ways_from (ev_var 0 rfl (.inr (.inl rfl)) rfl) (ea_cons (ev_var 1 rfl (.inl rfl) rfl) ea_nil) (fun _ zkk => ⟨task, kind_name, rfl, rfl, (by walk_at "pre"), zkk⟩))) (by simp [names]) (by decide) (by walk_at "sd") (fun _ zc1 _ zhyzc1 _ _ _ _ _ => (eg_tupC rfl (egs_consC (eg_nameC 2 nd rfl (.inl rfl) (by decide) (.inr rfl)) (egs_consC (eg_nameC 3 nd rfl (.inl rfl) (by decide) (.inr rfl)) egs_nilC)))) (fun _ zc1 _ zhyzc1 _ _ _ _ _ => (ev_tup (ds := [D.int (m_Task_kind_number task zc1.1), D.int zc1.2]) (ea_cons (ev_meth (c := "Task") (fs := fTask task) (ds := [D.str zc1.1]) T.q_Task T.cl_Task T.me_Task_kind_number rfl O_Task_kind_number (zhr.mono (by decide)) T.b_Task_kind_number (ev_var 0 rfl (.inr (.inl rfl)) rfl) (ea_cons (ev_var 2 rfl (.inl rfl) rfl) ea_nil) (fun _ zkk => ⟨task, zc1.1, rfl, rfl, (by walk_at "pre"), zkk⟩)) (ea_cons (ev_var 3 rfl (.inl rfl) rfl) ea_nil)) (by simp only [List.length_cons, List.length_nil]; decide)))) ?_)
  have efin : m_steps task kind_name = ((m_Task_ways_from task kind_name).map (fun zc1 : Str × Int => ((m_Task_kind_number task zc1.1), zc1.2))) := by simp only [m_steps, not_true_eq_false, not_false_eq_true, ↓reduceIte]
  rw [efin] at zk
  exact zk _
def m_best_step_l0 (found : List (List Int)) (length : Int) (zs0 : Int × (Option (Int × Int))) (zy0 : Int × Int) : Int × (Option (Int × Int)) :=
  if ((zy0.2 ≤ length) ∧ (zs0.1 < ((found.getD ((length - zy0.2)).toNat default).getD (zy0.1).toNat default))) then let best : Int := ((found.getD ((length - zy0.2)).toNat default).getD (zy0.1).toNat default)
  (best, (some zy0)) else (zs0.1, zs0.2)
def m_best_step (steps : List (Int × Int)) (found : List (List Int)) (length : Int) : Int × (Option (Int × Int)) :=
  let best_step1 : Option (Int × Int) := (none : Option (Int × Int))
  ((steps.foldl (m_best_step_l0 found length) ((0 : Int), best_step1)).1, (steps.foldl (m_best_step_l0 found length) ((0 : Int), best_step1)).2)
set_option hygiene false in
local macro_rules | `(tactic| walk_at "sd") => `(tactic| first | (have hfl := hfl (by omega); omega) | fail)
theorem sc_best_step : FnScope ["steps", "found", "length", "best", "best_step", "step", "target", "distance"] ["steps", "found", "length"] (defScope s_best_step) := ⟨rfl, rfl, rfl, by decide +kernel, rfl, by decide +kernel, by decide +kernel⟩
def sp_best_step : SpN := fun zcs zL zKc => ∃ steps : List (Int × Int), ∃ found : List (List Int), ∃ length : Int, zcs = [.fr ((eL (eT2 D.int D.int)) steps), .fr ((eL (eL D.int)) found), .fr (D.int length)] ∧ zL = [] ∧ (∃ w : Nat, (∀ s ∈ steps, 0 ≤ s.1 ∧ s.1 < (w : Int) ∧ 1 ≤ s.2) ∧ (∀ r ∈ found, r.length = w) ∧ length ≤ (found.length : Int)) ∧ ∀ zL', zKc (.fr ((eT2 D.int (eO (eT2 D.int D.int))) (m_best_step steps found length))) zL'
theorem ok_best_step (T : TX P K mg) : FnOk P w K mg base CX0 1 T.a_best_step T.d_best_step ["steps", "found", "length"] (SpOf K mg sp_best_step) := by
  refine T.F_best_step.okN sc_best_step (fun zcs zL zKc zh => by obtain ⟨steps, found, length, rfl, _⟩ := zh; rfl) fun zcdv zA zout zst zH zE zB zcs zL zKc zhr zh => ?_
  obtain ⟨steps, found, length, rfl, rfl, hpre, zk⟩ := zh
  have nd := sc_best_step.nd
  have hSL := sizeLine_eq
  obtain ⟨w0, hps, hpf, hpl⟩ := hpre
  show Exs _ _ _ ⟨[some (.fr ((eL (eT2 D.int D.int)) steps)), some (.fr ((eL (eL D.int)) found)), some (.fr (D.int length)), none, none, none, none, none], []⟩ _
  refine exs_cons (ex_set 3 ev_int ?_ nd rfl (.inl rfl))
  show Exs _ _ _ ⟨[some (.fr ((eL (eT2 D.int D.int)) steps)), some (.fr ((eL (eL D.int)) found)), some (.fr (D.int length)), some (.fr (D.int (0 : Int))), none, none, none, none], []⟩ _
  refine exs_cons (ex_set 4 ev_non ?_ nd rfl (.inl rfl))
  show Exs _ _ _ ⟨[some (.fr ((eL (eT2 D.int D.int)) steps)), some (.fr ((eL (eL D.int)) found)), some (.fr (D.int length)), some (.fr (D.int (0 : Int))), some (.fr ((eO (eT2 D.int D.int)) (none : Option (Int × Int)))), none, none, none], []⟩ _
  generalize zg_best_step : (none : Option (Int × Int)) = best_step
  show Exs _ _ _ ⟨[some (.fr ((eL (eT2 D.int D.int)) steps)), some (.fr ((eL (eL D.int)) found)), some (.fr (D.int length)), some (.fr (D.int (0 : Int))), some (.fr ((eO (eT2 D.int D.int)) best_step)), none, none, none], []⟩ _
  refine exs_cons (ex_forF (enc := (eT2 D.int D.int)) (fun (zs0 : Int × (Option (Int × Int))) => (⟨[some (.fr ((eL (eT2 D.int D.int)) steps)), some (.fr ((eL (eL D.int)) found)), some (.fr (D.int length)), some (.fr (D.int zs0.1)), some (.fr ((eO (eT2 D.int D.int)) zs0.2)), none, none, none], []⟩ : Nz.S)) (m_best_step_l0 found length) ((0 : Int), best_step) (fun (zi0 : Nat) (zs0 : Int × (Option (Int × Int))) => True) (src_listT (ev_var 0 rfl (.inl rfl) rfl)) ⟨⟨.inr rfl, .inr rfl, .inr rfl, .inr rfl, .inr rfl, .inl rfl, .inl rfl, .inl rfl, trivial⟩, rfl⟩ trivial ?_ ?_ PassesOwn.never rfl)
  · intro zi0 zy0 zs0 zhy0 zq0
    skip
    have hst := hps zy0 (List.mem_of_getElem? zhy0)
    have hfl : zy0.2 ≤ length → (found.getD (length - zy0.2).toNat default).length = w0 := fun hq => hpf _ (getD_mem (by omega))
    refine ⟨⟨[some (.fr ((eL (eT2 D.int D.int)) steps)), some (.fr ((eL (eL D.int)) found)), some (.fr (D.int length)), some (.fr (D.int zs0.1)), some (.fr ((eO (eT2 D.int D.int)) zs0.2)), some (.fr ((eT2 D.int D.int) zy0)), none, none], []⟩, (eg_name 5 nd rfl (.inl rfl)), ?_⟩
    refine exs_cons (ex_asg (ev_var 5 rfl (.inl rfl) rfl) (eg_tup rfl (egs_cons (eg_name 6 nd rfl (.inl rfl)) (egs_cons (eg_name 7 nd rfl (.inl rfl)) egs_nil))) ?_)
    show Exs _ _ _ ⟨[some (.fr ((eL (eT2 D.int D.int)) steps)), some (.fr ((eL (eL D.int)) found)), some (.fr (D.int length)), some (.fr (D.int zs0.1)), some (.fr ((eO (eT2 D.int D.int)) zs0.2)), some (.fr ((eT2 D.int D.int) zy0)), some (.fr (D.int zy0.1)), some (.fr (D.int zy0.2))], []⟩ _
    refine exs_one (ex_ifP (bd_and bd_d bd_d) (Ew.et (ew_andP bd_d (et_cmp o_le (ev_var 7 rfl (.inl rfl) rfl) (ev_var 2 rfl (.inl rfl) rfl) (nomark _)) (fun zhp => (ew_and1 (et_cmp o_gt (ev_ix (ix_L (xs := (found.getD ((length - zy0.2)).toNat default)) (enc := D.int) (by exact rfl) (by walk_at "sd") (by walk_at "sd")) (ev_ix (ix_L (xs := found) (enc := (eL D.int)) (by exact rfl) (by walk_at "sd") (by walk_at "sd")) (ev_var 1 rfl (.inl rfl) rfl) (ev_bin o_sub (ev_var 2 rfl (.inl rfl) rfl) (ev_var 7 rfl (.inl rfl) rfl))) (ev_var 6 rfl (.inl rfl) rfl)) (ev_var 3 rfl (.inl rfl) rfl) (nomark _)))))) (fun (zh1 : ((zy0.2 ≤ length) ∧ (zs0.1 < ((found.getD ((length - zy0.2)).toNat default).getD (zy0.1).toNat default)))) => ?_) (fun (zh1 : ¬ ((zy0.2 ≤ length) ∧ (zs0.1 < ((found.getD ((length - zy0.2)).toNat default).getD (zy0.1).toNat default)))) => ?_))
    · skip
      refine exs_cons (ex_set 3 (ev_ix (ix_L (xs := (found.getD ((length - zy0.2)).toNat default)) (enc := D.int) (by exact rfl) (by walk_at "sd") (by walk_at "sd")) (ev_ix (ix_L (xs := found) (enc := (eL D.int)) (by exact rfl) (by walk_at "sd") (by walk_at "sd")) (ev_var 1 rfl (.inl rfl) rfl) (ev_bin o_sub (ev_var 2 rfl (.inl rfl) rfl) (ev_var 7 rfl (.inl rfl) rfl))) (ev_var 6 rfl (.inl rfl) rfl)) ?_ nd rfl (.inl rfl))
      show Exs _ _ _ ⟨[some (.fr ((eL (eT2 D.int D.int)) steps)), some (.fr ((eL (eL D.int)) found)), some (.fr (D.int length)), some (.fr (D.int ((found.getD ((length - zy0.2)).toNat default).getD (zy0.1).toNat default))), some (.fr ((eO (eT2 D.int D.int)) zs0.2)), some (.fr ((eT2 D.int D.int) zy0)), some (.fr (D.int zy0.1)), some (.fr (D.int zy0.2))], []⟩ _
      generalize zg_best : ((found.getD ((length - zy0.2)).toNat default).getD (zy0.1).toNat default) = best
      show Exs _ _ _ ⟨[some (.fr ((eL (eT2 D.int D.int)) steps)), some (.fr ((eL (eL D.int)) found)), some (.fr (D.int length)), some (.fr (D.int best)), some (.fr ((eO (eT2 D.int D.int)) zs0.2)), some (.fr ((eT2 D.int D.int) zy0)), some (.fr (D.int zy0.1)), some (.fr (D.int zy0.2))], []⟩ _
      refine exs_one (ex_set 4 (ev_var 5 rfl (.inl rfl) rfl) ?_ nd rfl (.inl rfl))
      have est : (m_best_step_l0 found length) zs0 zy0 = (best, (some zy0)) := by subst zg_best; simp only [m_best_step_l0, not_true_eq_false, not_false_eq_true, ↓reduceIte, ↓if_pos zh1]
      show Le _ _ ∧ _
      try rw [est]
      exact ⟨⟨⟨.inr rfl, .inr rfl, .inr rfl, .inr rfl, .inr rfl, .inl rfl, .inl rfl, .inl rfl, trivial⟩, rfl⟩, trivial⟩
    · skip
      refine exs_nil ?_
      have est : (m_best_step_l0 found length) zs0 zy0 = (zs0.1, zs0.2) := by simp only [m_best_step_l0, not_true_eq_false, not_false_eq_true, ↓reduceIte, ↓if_neg zh1]
      show Le _ _ ∧ _
      try rw [est]
      exact ⟨⟨⟨.inr rfl, .inr rfl, .inr rfl, .inr rfl, .inr rfl, .inl rfl, .inl rfl, .inl rfl, trivial⟩, rfl⟩, trivial⟩
  · intro zq0
    show Exs _ _ _ ⟨[some (.fr ((eL (eT2 D.int D.int)) steps)), some (.fr ((eL (eL D.int)) found)), some (.fr (D.int length)), some (.fr (D.int ((steps.foldl (m_best_step_l0 found length) ((0 : Int), best_step)).1))), some (.fr ((eO (eT2 D.int D.int)) ((steps.foldl (m_best_step_l0 found length) ((0 : Int), best_step)).2))), none, none, none], []⟩ _
    refine exs_one (ex_ret (ev_tup (ds := [D.int ((steps.foldl (m_best_step_l0 found length) ((0 : Int), best_step)).1), (eO (eT2 D.int D.int)) ((steps.foldl (m_best_step_l0 found length) ((0 : Int), best_step)).2)]) (ea_cons (ev_var 3 rfl (.inl rfl) rfl) (ea_cons (ev_var 4 rfl (.inl rfl) rfl) ea_nil)) (by simp only [List.length_cons, List.length_nil]; decide)) ?_)
    have efin : m_best_step steps found length = ((steps.foldl (m_best_step_l0 found length) ((0 : Int), best_step)).1, (steps.foldl (m_best_step_l0 found length) ((0 : Int), best_step)).2) := by subst zg_best_step; simp only [m_best_step, not_true_eq_false, not_false_eq_true, ↓reduceIte]
    rw [efin] at zk
    exact zk _
def m_rows_l1 (found : List (List Int)) (window : Int) (zs1 : (List Int)) (zy1 : Int × Int × (List (Int × Int))) : (List Int) :=
  (zs1 ++ [(if (zy1.2.1 ≤ window) then ((m_best_step zy1.2.2 found window).1 + zy1.1) else (m_best_step zy1.2.2 found window).1)])
def m_rows_l0 (kinds : List (Int × Int × (List (Int × Int)))) (zs0 : (List (List Int))) (zy0 : Nat) : (List (List Int)) :=
  (zs0 ++ [(kinds.foldl (m_rows_l1 zs0 ((0 : Int) + (zy0 : Int))) ([] : List Int))])
def m_rows (task : Task) (length : Int) : List (List Int) :=
  let kinds1 : List (Int × Int × (List (Int × Int))) := (task.kinds.map (fun zc2 : Str × Int × Int => (zc2.2.1, zc2.2.2, (m_steps task zc2.1))))
  ((List.range ((length + (1 : Int))).toNat).foldl (m_rows_l0 kinds1) ([] : List (List Int)))
set_option hygiene false in
local macro_rules | `(tactic| walk_at "pre") => `(tactic| first | exact ⟨hpre.1, List.mem_map.mpr ⟨_, List.mem_of_getElem? (by assumption), rfl⟩⟩ | exact ⟨task.kinds.length, hks1, zqb, by omega⟩ | fail)
theorem row_len (found : List (List Int)) (w : Int) : ∀ (ks : List (Int × Int × List (Int × Int))) (s : List Int), (ks.foldl (m_rows_l1 found w) s).length = s.length + ks.length
  | [], s => rfl
  | k :: ks, s => by
    rw [List.foldl_cons, row_len found w ks]
    have : (m_rows_l1 found w s k).length = s.length + 1 := by unfold m_rows_l1; simp
    rw [this, List.length_cons]; omega
theorem rows_len_aux (ks : List (Int × Int × List (Int × Int))) : ∀ (ys : List Nat) (s : List (List Int)), (∀ r ∈ s, r.length = ks.length) → (ys.foldl (m_rows_l0 ks) s).length = s.length + ys.length ∧ ∀ r ∈ ys.foldl (m_rows_l0 ks) s, r.length = ks.length
  | [], s, h => ⟨rfl, h⟩
  | y :: ys, s, h => by
    rw [List.foldl_cons]
    have h1 : (m_rows_l0 ks s y).length = s.length + 1 ∧ ∀ r ∈ m_rows_l0 ks s y, r.length = ks.length := by
      unfold m_rows_l0
      refine ⟨by simp, fun r hr => ?_⟩
      rcases List.mem_append.mp hr with q | q
      · exact h r q
      · rw [List.mem_singleton.mp q, row_len]; simp
    obtain ⟨a, b⟩ := rows_len_aux ks ys _ h1.2
    exact ⟨by rw [a, h1.1, List.length_cons]; omega, b⟩
theorem rows_len {t : Task} {n : Int} (h0 : 0 ≤ n) : (m_rows t n).length = n.toNat + 1 ∧ ∀ r ∈ m_rows t n, r.length = t.kinds.length := by
  unfold m_rows
  dsimp only
  have := rows_len_aux (t.kinds.map (fun zc : Str × Int × Int => (zc.2.1, zc.2.2, m_steps t zc.1))) (List.range (n + 1).toNat) [] (fun _ h => absurd h (by simp))
  rw [List.length_map] at this
  exact ⟨by rw [this.1, List.length_range, List.length_nil]; omega, this.2⟩
theorem sc_rows : FnScope ["task", "length", "kinds", "found", "window", "row", "cost", "deadline", "steps", "number", "_", "name"] ["task", "length"] (defScope s_rows) := ⟨rfl, rfl, rfl, by decide +kernel, rfl, by decide +kernel, by decide +kernel⟩
def sp_rows : SpN := fun zcs zL zKc => ∃ task : Task, ∃ length : Int, zcs = [.fr (eTask task), .fr (D.int length)] ∧ zL = [] ∧ (task.ok ∧ -100000 ≤ length ∧ length ≤ 100000) ∧ ∀ zL', zKc (.fr ((eL (eL D.int)) (m_rows task length))) zL'
theorem ok_rows (T : TX P K mg) : FnOk P w K mg base CX0 5 T.a_rows T.d_rows ["task", "length"] (SpOf K mg sp_rows) := by
  have O_best_step := ok_best_step (P := P) (w := w) (base := base) T
  have O_steps := ok_steps (P := P) (w := w) (base := base) T
  refine T.F_rows.okN sc_rows (fun zcs zL zKc zh => by obtain ⟨task, length, rfl, _⟩ := zh; rfl) fun zcdv zA zout zst zH zE zB zcs zL zKc zhr zh => ?_
  obtain ⟨task, length, rfl, rfl, hpre, zk⟩ := zh
  have nd := sc_rows.nd
  have hSL := sizeLine_eq
  have hk1 := hpre.1.k1
  show Exs _ _ _ ⟨[some (.fr (eTask task)), some (.fr (D.int length)), none, none, none, none, none, none, none, none, none, none], []⟩ _
  refine exs_cons (ex_setLcM 2 (enc2 := (eT3 D.int D.int (eL (eT2 D.int D.int)))) 199 (fun zc1 : Str × Int × Int => (zc1.2.1, zc1.2.2, (m_steps task zc1.1))) _ rfl nd rfl rfl (sw_true rfl rfl rfl (by decide +kernel)) (blkOk_by (N := ["task", "length", "kinds", "found", "window", "row", "cost", "deadline", "steps", "number", "_", "name"]) (sc := defScope s_rows) (own := [(("name" : Str), 11), (("cost" : Str), 6), (("deadline" : Str), 7)]) (by decide +kernel)) (src_tupT (ev_fld (c := "Task") (fs := fTask task) T.q_Task T.cl_Task T.na_Task_kinds rfl (ev_var 0 rfl (.inr (.inl rfl)) rfl))) (by simp [names]) (by decide) (by walk_at "sd") (fun _ zc1 _ zhyzc1 _ _ _ _ _ => (eg_tupC rfl (egs_consC (eg_nameC 11 nd rfl (.inl rfl) (by decide) (.inr rfl)) (egs_consC (eg_nameC 6 nd rfl (.inl rfl) (by decide) (.inr rfl)) (egs_consC (eg_nameC 7 nd rfl (.inl rfl) (by decide) (.inr rfl)) egs_nilC))))) (fun _ zc1 _ zhyzc1 _ _ _ _ _ => (ev_tup (ds := [D.int zc1.2.1, D.int zc1.2.2, (eL (eT2 D.int D.int)) (m_steps task zc1.1)]) (ea_cons (ev_var 6 rfl (.inl rfl) rfl) (ea_cons (ev_var 7 rfl (.inl rfl) rfl) (ea_cons (ev_call (ds := [eTask task, D.str zc1.1]) (ds' := []) (dvs := []) (dfs := []) O_steps (zhr.mono (by decide)) T.m_steps T.k_steps T.b_steps .nil (fun _ => .nil) (ea_cons (ev_var 0 rfl (.inr (.inl rfl)) rfl) (ea_cons (ev_var 11 rfl (.inl rfl) rfl) ea_nil)) (fun _ zkk => ⟨task, zc1.1, rfl, rfl, (by walk_at "pre"), zkk⟩) (by exact rfl)) ea_nil))) (by simp only [List.length_cons, List.length_nil]; decide))) ?_)
  show Exs _ _ _ ⟨[some (.fr (eTask task)), some (.fr (D.int length)), some (.fr ((eL (eT3 D.int D.int (eL (eT2 D.int D.int)))) (task.kinds.map (fun zc1 : Str × Int × Int => (zc1.2.1, zc1.2.2, (m_steps task zc1.1)))))), none, none, none, none, none, none, none, none, none], []⟩ _
  generalize zg_kinds : (task.kinds.map (fun zc1 : Str × Int × Int => (zc1.2.1, zc1.2.2, (m_steps task zc1.1)))) = kinds
  show Exs _ _ _ ⟨[some (.fr (eTask task)), some (.fr (D.int length)), some (.fr ((eL (eT3 D.int D.int (eL (eT2 D.int D.int)))) kinds)), none, none, none, none, none, none, none, none, none], []⟩ _
  have hkk : kinds.length = task.kinds.length ∧ ∀ k ∈ kinds, ∀ s ∈ k.2.2, 0 ≤ s.1 ∧ s.1 < (task.kinds.length : Int) ∧ 1 ≤ s.2 := by
    rw [← zg_kinds]
    refine ⟨List.length_map _, fun k hk => ?_⟩
    obtain ⟨x, hx, rfl⟩ := List.mem_map.mp hk
    exact fun s hs => by have := steps_facts hpre.1 x.1 s hs; omega
  refine exs_cons (ex_set 3 (ev_lstN 100 (enc := (eL D.int)) ([] : List (List Int)) ea_nil rfl (by simp only [List.length_cons, List.length_nil]; decide) (by simp [names]) (by decide)) ?_ nd rfl (.inl rfl))
  show Exs _ _ _ ⟨[some (.fr (eTask task)), some (.fr (D.int length)), some (.fr ((eL (eT3 D.int D.int (eL (eT2 D.int D.int)))) kinds)), some (.ad 100), none, none, none, none, none, none, none, none], [(100, .fl ((([] : List (List Int))).map (eL D.int)))]⟩ _
  refine exs_cons (ex_forF (enc := (fun i : Nat => D.int ((0 : Int) + (i : Int)))) (fun (zs0 : (List (List Int))) => (⟨[some (.fr (eTask task)), some (.fr (D.int length)), some (.fr ((eL (eT3 D.int D.int (eL (eT2 D.int D.int)))) kinds)), some (.ad 100), none, none, none, none, none, none, none, none], [(100, .fl ((zs0).map (eL D.int)))]⟩ : Nz.S)) (m_rows_l0 kinds) ([] : List (List Int)) (fun (zi0 : Nat) (zs0 : (List (List Int))) => zs0.length = zi0 ∧ ∀ r ∈ zs0, r.length = task.kinds.length) (src_range1 (ea_cons (ev_bin o_add (ev_var 1 rfl (.inl rfl) rfl) ev_int) ea_nil) (by exact rfl) T.n_range (by walk_at "sd") (by walk_at "sd")) ⟨⟨.inr rfl, .inr rfl, .inr rfl, .inr rfl, .inl rfl, .inl rfl, .inl rfl, .inl rfl, .inl rfl, .inl rfl, .inl rfl, .inl rfl, trivial⟩, rfl⟩ ⟨by simp, fun _ h => absurd h (by simp)⟩ ?_ ?_ PassesOwn.never rfl)
  · intro zi0 zy0 zs0 zhy0 zq0
    skip
    have hy0 := seq_range zhy0
    have hi := (List.getElem?_eq_some_iff.mp zhy0).1
    simp only [List.length_range] at hi
    obtain ⟨zqa, zqb⟩ := zq0
    refine ⟨⟨[some (.fr (eTask task)), some (.fr (D.int length)), some (.fr ((eL (eT3 D.int D.int (eL (eT2 D.int D.int)))) kinds)), some (.ad 100), some (.fr (D.int ((0 : Int) + (zy0 : Int)))), none, none, none, none, none, none, none], [(100, .fl ((zs0).map (eL D.int)))]⟩, (eg_name 4 nd rfl (.inl rfl)), ?_⟩
    refine exs_cons (ex_set 5 (ev_lstN 101 (enc := D.int) ([] : List Int) ea_nil rfl (by simp only [List.length_cons, List.length_nil]; decide) (by simp [names]) (by decide)) ?_ nd rfl (.inl rfl))
    show Exs _ _ _ ⟨[some (.fr (eTask task)), some (.fr (D.int length)), some (.fr ((eL (eT3 D.int D.int (eL (eT2 D.int D.int)))) kinds)), some (.ad 100), some (.fr (D.int ((0 : Int) + (zy0 : Int)))), some (.ad 101), none, none, none, none, none, none], [(100, .fl ((zs0).map (eL D.int))), (101, .fl ((([] : List Int)).map D.int))]⟩ _
    refine exs_cons (ex_forF (enc := (eT3 D.int D.int (eL (eT2 D.int D.int)))) (fun (zs1 : (List Int)) => (⟨[some (.fr (eTask task)), some (.fr (D.int length)), some (.fr ((eL (eT3 D.int D.int (eL (eT2 D.int D.int)))) kinds)), some (.ad 100), some (.fr (D.int ((0 : Int) + (zy0 : Int)))), some (.ad 101), none, none, none, none, none, none], [(100, .fl ((zs0).map (eL D.int))), (101, .fl ((zs1).map D.int))]⟩ : Nz.S)) (m_rows_l1 zs0 ((0 : Int) + (zy0 : Int))) ([] : List Int) (fun (zi1 : Nat) (zs1 : (List Int)) => zs1.length = zi1) (src_listT (ev_var 2 rfl (.inl rfl) rfl)) ⟨⟨.inr rfl, .inr rfl, .inr rfl, .inr rfl, .inr rfl, .inr rfl, .inl rfl, .inl rfl, .inl rfl, .inl rfl, .inl rfl, .inl rfl, trivial⟩, rfl⟩ (by simp) ?_ ?_ PassesOwn.never rfl)
    · intro zi1 zy1 zs1 zhy1 zq1
      skip
      have hi1 := (List.getElem?_eq_some_iff.mp zhy1).1
      have hks1 := hkk.2 zy1 (List.mem_of_getElem? zhy1)
      refine ⟨⟨[some (.fr (eTask task)), some (.fr (D.int length)), some (.fr ((eL (eT3 D.int D.int (eL (eT2 D.int D.int)))) kinds)), some (.ad 100), some (.fr (D.int ((0 : Int) + (zy0 : Int)))), some (.ad 101), some (.fr (D.int zy1.1)), some (.fr (D.int zy1.2.1)), some (.fr ((eL (eT2 D.int D.int)) zy1.2.2)), none, none, none], [(100, .fl ((zs0).map (eL D.int))), (101, .fl ((zs1).map D.int))]⟩, (eg_tup rfl (egs_cons (eg_name 6 nd rfl (.inl rfl)) (egs_cons (eg_name 7 nd rfl (.inl rfl)) (egs_cons (eg_name 8 nd rfl (.inl rfl)) egs_nil)))), ?_⟩
      refine exs_cons (ex_asg (ev_callBo (cs := [(.fr ((eL (eT2 D.int D.int)) zy1.2.2)), (.ad 100), (.fr (D.int ((0 : Int) + (zy0 : Int))))]) (ds := [(eL (eT2 D.int D.int)) zy1.2.2, (eL (eL D.int)) zs0, D.int ((0 : Int) + (zy0 : Int))]) O_best_step (zhr.mono (by decide)) T.m_best_step T.k_best_step T.b_best_step (ea_cons (ev_var 8 rfl (.inl rfl) rfl) (ea_cons (ev_var 3 rfl (.inl rfl) rfl) (ea_cons (ev_var 4 rfl (.inl rfl) rfl) ea_nil))) (by exact rfl) ((nl_T2 nl_int (nl_O (nl_T2 nl_int nl_int))).ok _) (fun _ zkk => ⟨zy1.2.2, zs0, ((0 : Int) + (zy0 : Int)), rfl, rfl, (by walk_at "pre"), zkk⟩) (by exact rfl)) (eg_tup rfl (egs_cons (eg_name 9 nd rfl (.inl rfl)) (egs_cons (eg_name 10 nd rfl (.inl rfl)) egs_nil))) ?_)
      show Exs _ _ _ ⟨[some (.fr (eTask task)), some (.fr (D.int length)), some (.fr ((eL (eT3 D.int D.int (eL (eT2 D.int D.int)))) kinds)), some (.ad 100), some (.fr (D.int ((0 : Int) + (zy0 : Int)))), some (.ad 101), some (.fr (D.int zy1.1)), some (.fr (D.int zy1.2.1)), some (.fr ((eL (eT2 D.int D.int)) zy1.2.2)), some (.fr (D.int ((m_best_step zy1.2.2 zs0 ((0 : Int) + (zy0 : Int))).1))), some (.fr ((eO (eT2 D.int D.int)) ((m_best_step zy1.2.2 zs0 ((0 : Int) + (zy0 : Int))).2))), none], [(100, .fl ((zs0).map (eL D.int))), (101, .fl ((zs1).map D.int))]⟩ _
      refine exs_one (ex_expr (ev_appendT (n := 101) (enc := D.int) (xs := zs1) (xs0 := zs1) (if (zy1.2.1 ≤ ((0 : Int) + (zy0 : Int))) then ((m_best_step zy1.2.2 zs0 ((0 : Int) + (zy0 : Int))).1 + zy1.1) else (m_best_step zy1.2.2 zs0 ((0 : Int) + (zy0 : Int))).1) rfl rfl rfl (by walk_at "sd") (ev_var 5 rfl (.inl rfl) rfl) (ev_ifP (enc := D.int) (x := ((m_best_step zy1.2.2 zs0 ((0 : Int) + (zy0 : Int))).1 + zy1.1)) (y := (m_best_step zy1.2.2 zs0 ((0 : Int) + (zy0 : Int))).1) bd_d (et_cmp o_le (ev_var 7 rfl (.inl rfl) rfl) (ev_var 4 rfl (.inl rfl) rfl) (nomark _)) (fun zhp => (ev_bin o_add (ev_var 9 rfl (.inl rfl) rfl) (ev_var 6 rfl (.inl rfl) rfl))) (fun zhp => (ev_var 9 rfl (.inl rfl) rfl)))) ?_)
      have est : (m_rows_l1 zs0 ((0 : Int) + (zy0 : Int))) zs1 zy1 = (zs1 ++ [(if (zy1.2.1 ≤ ((0 : Int) + (zy0 : Int))) then ((m_best_step zy1.2.2 zs0 ((0 : Int) + (zy0 : Int))).1 + zy1.1) else (m_best_step zy1.2.2 zs0 ((0 : Int) + (zy0 : Int))).1)]) := by simp only [m_rows_l1, not_true_eq_false, not_false_eq_true, ↓reduceIte]
      show Le _ _ ∧ _
      try rw [est]
      exact ⟨⟨⟨.inr rfl, .inr rfl, .inr rfl, .inr rfl, .inr rfl, .inr rfl, .inl rfl, .inl rfl, .inl rfl, .inl rfl, .inl rfl, .inl rfl, trivial⟩, rfl⟩, (by simp; omega)⟩
    · intro zq1
      show Exs _ _ _ ⟨[some (.fr (eTask task)), some (.fr (D.int length)), some (.fr ((eL (eT3 D.int D.int (eL (eT2 D.int D.int)))) kinds)), some (.ad 100), some (.fr (D.int ((0 : Int) + (zy0 : Int)))), some (.ad 101), none, none, none, none, none, none], [(100, .fl ((zs0).map (eL D.int))), (101, .fl (((kinds.foldl (m_rows_l1 zs0 ((0 : Int) + (zy0 : Int))) ([] : List Int))).map D.int))]⟩ _
      refine exs_freezeT 101 (xs := (kinds.foldl (m_rows_l1 zs0 ((0 : Int) + (zy0 : Int))) ([] : List Int))) (enc := D.int) (by exact rfl) ?_
      show Exs _ _ _ ⟨[some (.fr (eTask task)), some (.fr (D.int length)), some (.fr ((eL (eT3 D.int D.int (eL (eT2 D.int D.int)))) kinds)), some (.ad 100), some (.fr (D.int ((0 : Int) + (zy0 : Int)))), some (.fr ((eL D.int) (kinds.foldl (m_rows_l1 zs0 ((0 : Int) + (zy0 : Int))) ([] : List Int)))), none, none, none, none, none, none], [(100, .fl ((zs0).map (eL D.int)))]⟩ _
      refine exs_one (ex_expr (ev_appendT (n := 100) (enc := (eL D.int)) (xs := zs0) (xs0 := zs0) (kinds.foldl (m_rows_l1 zs0 ((0 : Int) + (zy0 : Int))) ([] : List Int)) rfl rfl rfl (by walk_at "sd") (ev_var 3 rfl (.inl rfl) rfl) (ev_var 5 rfl (.inl rfl) rfl)) ?_)
      have est : (m_rows_l0 kinds) zs0 zy0 = (zs0 ++ [(kinds.foldl (m_rows_l1 zs0 ((0 : Int) + (zy0 : Int))) ([] : List Int))]) := by simp only [m_rows_l0, not_true_eq_false, not_false_eq_true, ↓reduceIte]
      show Le _ _ ∧ _
      try rw [est]
      exact ⟨⟨⟨.inr rfl, .inr rfl, .inr rfl, .inr rfl, .inl rfl, .inl rfl, .inl rfl, .inl rfl, .inl rfl, .inl rfl, .inl rfl, .inl rfl, trivial⟩, rfl⟩, ⟨by simp; omega, fun r hr => by rcases List.mem_append.mp hr with q | q; exact zqb r q; rw [List.mem_singleton.mp q]; omega⟩⟩
  · intro zq0
    show Exs _ _ _ ⟨[some (.fr (eTask task)), some (.fr (D.int length)), some (.fr ((eL (eT3 D.int D.int (eL (eT2 D.int D.int)))) kinds)), some (.ad 100), none, none, none, none, none, none, none, none], [(100, .fl ((((List.range ((length + (1 : Int))).toNat).foldl (m_rows_l0 kinds) ([] : List (List Int)))).map (eL D.int)))]⟩ _
    refine exs_freezeT 100 (xs := ((List.range ((length + (1 : Int))).toNat).foldl (m_rows_l0 kinds) ([] : List (List Int)))) (enc := (eL D.int)) (by exact rfl) ?_
    show Exs _ _ _ ⟨[some (.fr (eTask task)), some (.fr (D.int length)), some (.fr ((eL (eT3 D.int D.int (eL (eT2 D.int D.int)))) kinds)), some (.fr ((eL (eL D.int)) ((List.range ((length + (1 : Int))).toNat).foldl (m_rows_l0 kinds) ([] : List (List Int))))), none, none, none, none, none, none, none, none], []⟩ _
    refine exs_one (ex_ret (ev_var 3 rfl (.inl rfl) rfl) ?_)
    have efin : m_rows task length = ((List.range ((length + (1 : Int))).toNat).foldl (m_rows_l0 kinds) ([] : List (List Int))) := by subst zg_kinds; simp only [m_rows, not_true_eq_false, not_false_eq_true, ↓reduceIte]
    rw [efin] at zk
    exact zk _
def m_demands (task : Task) (length : Int) : List Int :=
  ((m_rows task length).map (fun zc2 : List Int => (maxL zc2)))
set_option hygiene false in
local macro_rules | `(tactic| walk_at "pre") => `(tactic| first | exact ⟨hpre.1, by omega, by omega⟩ | fail)
set_option hygiene false in
local macro_rules | `(tactic| walk_at "pre") => `(tactic| first | exact hpre | fail)
theorem rows_ne2 {t : Task} (h : t.ok) {n : Int} (h0 : 0 ≤ n) : ∀ r ∈ m_rows t n, r ≠ [] := fun r hr q => by
  have h1 := (rows_len (t := t) h0).2 r hr
  have h2 := h.k1
  rw [q, List.length_nil] at h1; omega
set_option hygiene false in
local macro_rules | `(tactic| walk_at "ne") => `(tactic| first | exact hrn _ (List.mem_of_getElem? (by assumption)) | fail)
theorem sc_demands : FnScope ["task", "length", "row"] ["task", "length"] (defScope s_demands) := ⟨rfl, rfl, rfl, by decide +kernel, rfl, by decide +kernel, by decide +kernel⟩
def sp_demands : SpN := fun zcs zL zKc => ∃ task : Task, ∃ length : Int, zcs = [.fr (eTask task), .fr (D.int length)] ∧ zL = [] ∧ (task.ok ∧ 0 ≤ length ∧ length ≤ 100000) ∧ ∀ zL', zKc (.fr ((eL D.int) (m_demands task length))) zL'
theorem ok_demands (T : TX P K mg) : FnOk P w K mg base CX0 6 T.a_demands T.d_demands ["task", "length"] (SpOf K mg sp_demands) := by
  have O_rows := ok_rows (P := P) (w := w) (base := base) T
  refine T.F_demands.okN sc_demands (fun zcs zL zKc zh => by obtain ⟨task, length, rfl, _⟩ := zh; rfl) fun zcdv zA zout zst zH zE zB zcs zL zKc zhr zh => ?_
  obtain ⟨task, length, rfl, rfl, hpre, zk⟩ := zh
  have nd := sc_demands.nd
  have hSL := sizeLine_eq
  have hrl := rows_len (t := task) hpre.2.1
  have hrn := rows_ne2 hpre.1 hpre.2.1
  show Exs _ _ _ ⟨[some (.fr (eTask task)), some (.fr (D.int length)), none], []⟩ _
  refine exs_one (ex_ret (ev_lcM (enc2 := D.int) 199 (fun zc1 : List Int => (maxL zc1)) _ rfl nd (blkOk_by (N := ["task", "length", "row"]) (sc := defScope s_demands) (own := [(("row" : Str), 2)]) (by decide +kernel)) (src_listT (ev_call (ds := [eTask task, D.int length]) (ds' := []) (dvs := []) (dfs := []) O_rows (zhr.mono (by decide)) T.m_rows T.k_rows T.b_rows .nil (fun _ => .nil) (ea_cons (ev_var 0 rfl (.inl rfl) rfl) (ea_cons (ev_var 1 rfl (.inl rfl) rfl) ea_nil)) (fun _ zkk => ⟨task, length, rfl, rfl, (by walk_at "pre"), zkk⟩) (by exact rfl))) (by simp [names]) (by decide) (by walk_at "sd") (fun _ zc1 _ zhyzc1 _ _ _ _ _ => (eg_nameC 2 nd rfl (.inl rfl) (by decide) (.inr rfl))) (fun _ zc1 _ zhyzc1 _ _ _ _ _ => (ev_callB (ds := [(eL D.int) zc1]) (c_maxL (ns := zc1) rfl (by walk_at "ne")) (ea_cons (ev_var 2 rfl (.inl rfl) rfl) ea_nil) (by exact rfl) T.n_max (by decide +kernel)))) ?_)
  have efin : m_demands task length = ((m_rows task length).map (fun zc1 : List Int => (maxL zc1))) := by simp only [m_demands, not_true_eq_false, not_false_eq_true, ↓reduceIte]
  rw [efin] at zk
  exact zk _
def m_joint_demands_l0 (length : Int) (zs0 : (List Int)) (zy0 : Task) : (List Int) :=
  ((zs0.zip (m_demands zy0 length)).map (fun zc1 : Int × Int => (zc1.1 + zc1.2)))
def m_joint_demands (tasks : List Task) (length : Int) : List Int :=
  (tasks.foldl (m_joint_demands_l0 length) (List.replicate ((length + (1 : Int))).toNat (0 : Int)))
set_option hygiene false in
local macro_rules | `(tactic| walk_at "pre") => `(tactic| first | exact ⟨htk, by omega, by omega⟩ | fail)
theorem demands_len {t : Task} (h : t.ok) {n : Int} (h0 : 0 ≤ n) : (m_demands t n).length = n.toNat + 1 := by
  unfold m_demands
  rw [List.length_map, (rows_len (t := t) h0).1]
set_option hygiene false in
local macro_rules | `(tactic| walk_at "sd") => `(tactic| first | (rw [List.length_zip, demands_len htk (by omega)]; omega) | fail)
theorem kind_name {t : Task} {a : Str} (ha : a ∈ t.kinds.map (·.1)) : (m_Task_kind t a).1 = a := by
  obtain ⟨i, e1, h1, ⟨c1, q1, r1⟩, _⟩ := kind_number_spec ha
  unfold m_Task_kind
  rw [e1, Int.toNat_natCast, List.getD_eq_getElem?_getD, q1]; exact r1
def bval (found : List (List Int)) (n : Int) (s : Int × Int) : Int := (found.getD (n - s.2).toNat default).getD s.1.toNat default
theorem best_spec (found : List (List Int)) (n : Int) (steps : List (Int × Int)) : 0 ≤ (m_best_step steps found n).1 ∧ (∀ s ∈ steps, s.2 ≤ n → bval found n s ≤ (m_best_step steps found n).1) ∧ ((m_best_step steps found n).1 = 0 ∨ ∃ s ∈ steps, s.2 ≤ n ∧ (m_best_step steps found n).1 = bval found n s) := by
  have key : ∀ (ss : List (Int × Int)) (a : Int × Option (Int × Int)), a.1 ≤ (ss.foldl (m_best_step_l0 found n) a).1 ∧ (∀ s ∈ ss, s.2 ≤ n → bval found n s ≤ (ss.foldl (m_best_step_l0 found n) a).1) ∧ ((ss.foldl (m_best_step_l0 found n) a).1 = a.1 ∨ ∃ s ∈ ss, s.2 ≤ n ∧ (ss.foldl (m_best_step_l0 found n) a).1 = bval found n s) := by
    intro ss
    induction ss with
    | nil => intro a; exact ⟨Int.le_refl _, fun s h => absurd h (by simp), .inl rfl⟩
    | cons s ss ih =>
      intro a
      rw [List.foldl_cons]
      obtain ⟨h1, h2, h3⟩ := ih (m_best_step_l0 found n a s)
      have hs : a.1 ≤ (m_best_step_l0 found n a s).1 ∧ (s.2 ≤ n → bval found n s ≤ (m_best_step_l0 found n a s).1) ∧ ((m_best_step_l0 found n a s).1 = a.1 ∨ (s.2 ≤ n ∧ (m_best_step_l0 found n a s).1 = bval found n s)) := by
        unfold m_best_step_l0
        by_cases q : s.2 ≤ n ∧ a.1 < (found.getD (n - s.2).toNat default).getD s.1.toNat default
        · rw [if_pos q]
          exact ⟨Int.le_of_lt q.2, fun _ => Int.le_refl _, .inr ⟨q.1, rfl⟩⟩
        · rw [if_neg q]
          exact ⟨Int.le_refl _, fun z => Int.not_lt.mp fun y => q ⟨z, y⟩, .inl rfl⟩
      refine ⟨Int.le_trans hs.1 h1, fun x hx hn => ?_, ?_⟩
      · rcases List.mem_cons.mp hx with rfl | hx
        · exact Int.le_trans (hs.2.1 hn) h1
        · exact h2 x hx hn
      · rcases h3 with h3 | ⟨x, hx, h4, h5⟩
        · rcases hs.2.2 with q | ⟨q1, q2⟩
          · exact .inl (h3.trans q)
          · exact .inr ⟨s, List.mem_cons_self, q1, h3.trans q2⟩
        · exact .inr ⟨x, List.mem_cons_of_mem _ hx, h4, h5⟩
  obtain ⟨h1, h2, h3⟩ := key steps (0, none)
  exact ⟨h1, h2, h3⟩
abbrev KD := Int × Int × List (Int × Int)
def kdOf (t : Task) : List KD := t.kinds.map (fun zc : Str × Int × Int => (zc.2.1, zc.2.2, m_steps t zc.1))
theorem kdOf_len (t : Task) : (kdOf t).length = t.kinds.length := List.length_map _
def rowF (ks : List KD) (found : List (List Int)) (w : Int) : List Int := ks.map fun k => if k.2.1 ≤ w then (m_best_step k.2.2 found w).1 + k.1 else (m_best_step k.2.2 found w).1
theorem row_eq (ks : List KD) (found : List (List Int)) (w : Int) : ks.foldl (m_rows_l1 found w) [] = rowF ks found w := by
  rw [fold_snoc (fun k : KD => if k.2.1 ≤ w then (m_best_step k.2.2 found w).1 + k.1 else (m_best_step k.2.2 found w).1) (m_rows_l1 found w) (fun s y => rfl), List.nil_append]; rfl
/-- the rows of the lengths below n -/
def Rw (ks : List KD) (n : Nat) : List (List Int) := (List.range n).foldl (m_rows_l0 ks) []
theorem rows_Rw (t : Task) (n : Nat) : m_rows t (n : Int) = Rw (kdOf t) (n + 1) := by
  unfold m_rows Rw kdOf
  dsimp only
  rw [show ((n : Int) + 1).toNat = n + 1 by omega]
theorem Rw_succ (ks : List KD) (n : Nat) : Rw ks (n + 1) = Rw ks n ++ [rowF ks (Rw ks n) (n : Int)] := by
  unfold Rw
  rw [List.range_succ, List.foldl_append]
  show m_rows_l0 ks _ n = _
  unfold m_rows_l0
  rw [row_eq, Int.zero_add]
theorem Rw_len (ks : List KD) : ∀ n, (Rw ks n).length = n
  | 0 => rfl
  | n + 1 => by rw [Rw_succ, List.length_append, Rw_len ks n]; rfl
theorem Rw_get (ks : List KD) {i : Nat} : ∀ {n : Nat}, i < n → (Rw ks n).getD i default = rowF ks (Rw ks i) (i : Int)
  | 0, h => by omega
  | n + 1, h => by
    rw [Rw_succ, List.getD_eq_getElem?_getD]
    by_cases e : i = n
    · subst e
      rw [List.getElem?_append_right (by rw [Rw_len]; exact Nat.le_refl _), Rw_len, Nat.sub_self]; rfl
    · rw [List.getElem?_append_left (by rw [Rw_len]; omega), ← List.getD_eq_getElem?_getD]
      exact Rw_get ks (by omega)
/-- the number of the kind k for the length n -/
def Nm (ks : List KD) (n k : Nat) : Int := (rowF ks (Rw ks n) (n : Int)).getD k default
theorem rowF_get {ks : List KD} {found : List (List Int)} {w : Int} {k : Nat} {d : KD} (h : ks[k]? = some d) : (rowF ks found w).getD k default = if d.2.1 ≤ w then (m_best_step d.2.2 found w).1 + d.1 else (m_best_step d.2.2 found w).1 := by
  unfold rowF
  rw [List.getD_eq_getElem?_getD, List.getElem?_map, h]; rfl
/-- what is behind the first part of a number -/
structure Best (ks : List KD) (steps : List (Int × Int)) (n : Nat) (b : Int) : Prop where
  nn : 0 ≤ b
  ge : ∀ s ∈ steps, s.2 ≤ (n : Int) → Nm ks (n - s.2.toNat) s.1.toNat ≤ b
  eq : b = 0 ∨ ∃ s ∈ steps, s.2 ≤ (n : Int) ∧ b = Nm ks (n - s.2.toNat) s.1.toNat
theorem bval_Nm {ks : List KD} {n : Nat} {s : Int × Int} (h1 : 1 ≤ s.2) (h2 : s.2 ≤ (n : Int)) : bval (Rw ks n) (n : Int) s = Nm ks (n - s.2.toNat) s.1.toNat := by
  unfold bval
  rw [show ((n : Int) - s.2).toNat = n - s.2.toNat by omega, Rw_get ks (by omega)]; rfl
theorem best_Rw {ks : List KD} {steps : List (Int × Int)} (h1 : ∀ s ∈ steps, 1 ≤ s.2) (n : Nat) : Best ks steps n (m_best_step steps (Rw ks n) (n : Int)).1 := by
  obtain ⟨a, b, c⟩ := best_spec (Rw ks n) (n : Int) steps
  refine ⟨a, fun s hs hn => ?_, ?_⟩
  · rw [← bval_Nm (h1 s hs) hn]; exact b s hs hn
  · rcases c with c | ⟨s, hs, hn, e⟩
    · exact .inl c
    · exact .inr ⟨s, hs, hn, by rw [← bval_Nm (h1 s hs) hn]; exact e⟩
structure KdOk (ks : List KD) : Prop where
  cost : ∀ k ∈ ks, 0 ≤ k.1
  dist : ∀ k ∈ ks, ∀ s ∈ k.2.2, 0 ≤ s.1 ∧ s.1 < (ks.length : Int) ∧ 1 ≤ s.2
theorem Nm_rec {ks : List KD} (ok : KdOk ks) {k : Nat} {d : KD} (h : ks[k]? = some d) (n : Nat) : ∃ b, Best ks d.2.2 n b ∧ Nm ks n k = b + if d.2.1 ≤ (n : Int) then d.1 else 0 := by
  refine ⟨_, best_Rw (fun s hs => (ok.dist d (List.mem_of_getElem? h) s hs).2.2) n, ?_⟩
  unfold Nm
  rw [rowF_get h]
  split <;> omega
theorem kd_ok {t : Task} (ok : t.ok) (hc : ∀ k ∈ t.kinds, 0 ≤ k.2.1) : KdOk (kdOf t) := by
  refine ⟨fun k hk => ?_, fun k hk s hs => ?_⟩
  · obtain ⟨x, hx, rfl⟩ := List.mem_map.mp hk; exact hc x hx
  · obtain ⟨x, hx, rfl⟩ := List.mem_map.mp hk
    have := steps_facts ok x.1 s hs
    rw [kdOf_len]; exact ⟨this.1, this.2.1, this.2.2.1⟩
theorem rows_at {t : Task} {L i : Nat} (h : i ≤ L) : (m_rows t (L : Int)).getD i default = rowF (kdOf t) (Rw (kdOf t) i) (i : Int) := by
  rw [rows_Rw, Rw_get _ (by omega)]
theorem steps_mem {t : Task} {n : Str} (hn : n ∈ t.kinds.map (·.1)) {s : Int × Int} : s ∈ m_steps t n ↔ ∃ w ∈ t.ways, w.1 = n ∧ s = (m_Task_kind_number t w.2.1, w.2.2) := by
  unfold m_steps m_Task_ways_from
  rw [kind_name hn]
  constructor
  · intro h
    obtain ⟨x, hx, rfl⟩ := List.mem_map.mp h
    obtain ⟨w, hw, rfl⟩ := List.mem_map.mp hx
    obtain ⟨h1, h2⟩ := List.mem_filter.mp hw
    exact ⟨w, h1, of_decide_eq_true h2, rfl⟩
  · rintro ⟨w, hw, h1, rfl⟩
    exact List.mem_map.mpr ⟨(w.2.1, w.2.2), List.mem_map.mpr ⟨w, List.mem_filter.mpr ⟨hw, decide_eq_true h1⟩, rfl⟩, rfl⟩
def dmd (t : Task) (n : Int) : Int := maxL ((m_rows t n).getD n.toNat default)
theorem demand_spec {t : Task} (ok : t.ok) (n : Nat) : (∀ k, k < t.kinds.length → Nm (kdOf t) n k ≤ dmd t (n : Int)) ∧ ∃ k, k < t.kinds.length ∧ dmd t (n : Int) = Nm (kdOf t) n k := by
  have hk := ok.k1
  have e : dmd t (n : Int) = maxL (rowF (kdOf t) (Rw (kdOf t) n) (n : Int)) := by
    unfold dmd
    rw [show ((n : Int)).toNat = n by omega, rows_at (Nat.le_refl _)]
  have hl : (rowF (kdOf t) (Rw (kdOf t) n) (n : Int)).length = t.kinds.length := by unfold rowF; rw [List.length_map, kdOf_len]
  rw [e]
  refine ⟨fun k hk => maxL_le ?_, ?_⟩
  · exact getD_mem (by rw [hl]; exact hk)
  · have hm := maxL_mem (ns := rowF (kdOf t) (Rw (kdOf t) n) (n : Int)) (fun q => by rw [q, List.length_nil] at hl; omega)
    obtain ⟨k, hk1, hk2⟩ := List.getElem_of_mem hm
    refine ⟨k, by rw [← hl]; exact hk1, ?_⟩
    unfold Nm
    rw [List.getD_eq_getElem?_getD, List.getElem?_eq_getElem hk1]
    exact hk2.symm
theorem demands_get {t : Task} {n : Int} {i : Nat} (h0 : 0 ≤ n) (h : i < n.toNat + 1) : (m_demands t n).getD i default = maxL ((m_rows t n).getD i default) := by
  unfold m_demands
  have hl := (rows_len (t := t) h0).1
  rw [List.getD_eq_getElem?_getD, List.getElem?_map, List.getElem?_eq_getElem (by omega), List.getD_eq_getElem?_getD, List.getElem?_eq_getElem (by omega)]; rfl
theorem names_nd {t : Task} (h : t.ok) : (t.kinds.map (·.1)).Nodup := by
  have q := h.1
  unfold m_are_kinds at q
  split at q
  · cases q
  · rw [Bool.and_eq_true] at q
    have q2 := q.2
    unfold m_are_different at q2
    have q3 := of_decide_eq_true q2
    exact (cntS_nodup _).mp (by omega)
theorem Nm_nn {ks : List KD} (ok : KdOk ks) {k : Nat} (h : k < ks.length) (n : Nat) : 0 ≤ Nm ks n k := by
  have hk : ks[k]? = some ks[k] := List.getElem?_eq_getElem h
  obtain ⟨b, hb, e⟩ := Nm_rec ok hk n
  have := ok.cost _ (List.mem_of_getElem? hk)
  rw [e]
  have := hb.nn
  split <;> omega
theorem kind_num {t : Task} {n : Str} (hn : n ∈ t.kinds.map (·.1)) : ∃ j : Nat, m_Task_kind_number t n = (j : Int) ∧ j < t.kinds.length ∧ ∃ c, t.kinds[j]? = some c ∧ c.1 = n := by
  obtain ⟨j, e, h1, h2, _⟩ := kind_number_spec hn
  exact ⟨j, e, h1, h2⟩
theorem dem_at {t : Task} {n i : Nat} (h : i ≤ n) : (m_demands t (n : Int)).getD i default = dmd t (i : Int) := by
  rw [demands_get (by omega) (by omega)]
  unfold dmd
  rw [rows_at h, show ((i : Int)).toNat = i by omega, rows_at (Nat.le_refl _)]
theorem fold_dem {n : Nat} : ∀ (ts : List Task) (s : List Int), (∀ t ∈ ts, t.ok) → s.length = n + 1 → ∀ i, i ≤ n → (ts.foldl (m_joint_demands_l0 (n : Int)) s).getD i default = s.getD i default + (ts.map fun t => dmd t (i : Int)).sum
  | [], s, _, _, i, _ => by simp
  | t :: ts, s, ht, hs, i, hi => by
    have ok := ht t List.mem_cons_self
    have hdl := demands_len ok (n := (n : Int)) (by omega)
    have hl : (m_joint_demands_l0 (n : Int) s t).length = n + 1 := by
      unfold m_joint_demands_l0
      rw [List.length_map, List.length_zip, hdl]; omega
    rw [List.foldl_cons, fold_dem ts _ (fun x hx => ht x (List.mem_cons_of_mem _ hx)) hl i hi, List.map_cons, List.sum_cons, ← dem_at hi]
    have e : (m_joint_demands_l0 (n : Int) s t).getD i default = s.getD i default + (m_demands t (n : Int)).getD i default := by
      unfold m_joint_demands_l0
      have h1 : i < s.length := by omega
      have h2 : i < (m_demands t (n : Int)).length := by omega
      have h3 : i < (s.zip (m_demands t (n : Int))).length := by rw [List.length_zip]; omega
      rw [List.getD_eq_getElem?_getD, List.getElem?_map, List.getElem?_eq_getElem h3, List.getElem_zip, List.getD_eq_getElem?_getD, List.getElem?_eq_getElem h1, List.getD_eq_getElem?_getD, List.getElem?_eq_getElem h2]
      rfl
    rw [e]; omega
def Dm (ts : List Task) (n : Nat) : Int := (ts.map fun t => dmd t (n : Int)).sum
theorem joint_at {ts : List Task} (hok : ∀ t ∈ ts, t.ok) {H i : Nat} (h : i ≤ H) : (m_joint_demands ts (H : Int)).getD i default = Dm ts i := by
  have hD := fold_dem (n := H) ts (List.replicate ((H : Int) + 1).toNat 0) hok (by rw [List.length_replicate]; omega) i h
  have h0 : (List.replicate ((H : Int) + 1).toNat (0 : Int)).getD i default = 0 := by
    rw [List.getD_eq_getElem?_getD, List.getElem?_replicate]
    split <;> rfl
  rw [h0, Int.zero_add] at hD
  exact hD
theorem Task.ok.cost {t : Task} (h : t.ok) : ∀ k ∈ t.kinds, (1 ≤ k.2.1 ∧ k.2.1 ≤ 1000) ∧ 1 ≤ k.2.2 ∧ k.2.2 ≤ 1000 := by
  have q := h.1
  unfold m_are_kinds at q
  split at q
  · cases q
  · intro k hk
    rw [Bool.and_eq_true] at q
    have q1 := List.all_eq_true.mp q.1 _ (List.mem_map.mpr ⟨k, hk, rfl⟩)
    unfold m_is_kind at q1
    split at q1
    · cases q1
    · rw [Bool.and_eq_true, Bool.and_eq_true] at q1
      have q2 := q1.2.1
      have q3 := q1.2.2
      unfold m_is_integer at q2 q3
      simp at q2 q3
      exact ⟨q2, q3⟩
theorem Nm_top {ks : List KD} (ok : KdOk ks) (hc : ∀ d ∈ ks, d.1 ≤ 1000) : ∀ (n : Nat) (k : Nat), k < ks.length → Nm ks n k ≤ 1000 * ((n : Int) + 1) := by
  intro n
  induction n using Nat.strongRecOn with
  | ind n ih =>
    intro k hk
    obtain ⟨b, hb, e⟩ := Nm_rec ok (List.getElem?_eq_getElem hk) n
    have h1 := hc _ (List.getElem_mem hk)
    have h2 : b ≤ 1000 * (n : Int) := by
      rcases hb.eq with q | ⟨s, hs, h3, q⟩
      · omega
      · have g := ok.dist _ (List.getElem_mem hk) s hs
        have := ih (n - s.2.toNat) (by omega) s.1.toNat (by omega)
        omega
    rw [e]
    split <;> omega
theorem dmd_top {t : Task} (ok : t.ok) (n : Nat) : 0 ≤ dmd t (n : Int) ∧ dmd t (n : Int) ≤ 1000 * ((n : Int) + 1) := by
  have hk := kd_ok ok fun k hk => by have := (ok.cost k hk).1.1; omega
  obtain ⟨_, k, h1, e⟩ := demand_spec ok n
  have h2 : k < (kdOf t).length := by rw [kdOf_len]; exact h1
  rw [e]
  refine ⟨Nm_nn hk h2 n, Nm_top hk (fun d hd => ?_) n k h2⟩
  obtain ⟨x, hx, rfl⟩ := List.mem_map.mp hd
  exact (ok.cost x hx).1.2
theorem Dm_top {ts : List Task} (hok : ∀ t ∈ ts, t.ok) (n : Nat) : 0 ≤ Dm ts n ∧ Dm ts n ≤ (ts.length : Int) * (1000 * ((n : Int) + 1)) := by
  unfold Dm
  induction ts with
  | nil => simp
  | cons t ts ih =>
    have a := ih fun x hx => hok x (List.mem_cons_of_mem _ hx)
    have b := dmd_top (hok t List.mem_cons_self) n
    rw [List.map_cons, List.sum_cons, List.length_cons]
    rw [show ((ts.length + 1 : Nat) : Int) * (1000 * ((n : Int) + 1)) = (ts.length : Int) * (1000 * ((n : Int) + 1)) + 1000 * ((n : Int) + 1) by rw [show ((ts.length + 1 : Nat) : Int) = (ts.length : Int) + 1 by omega, Int.add_mul, Int.one_mul]]
    omega
theorem joint_aux {n : Int} (h0 : 0 ≤ n) : ∀ (ts : List Task) (s : List Int), (∀ t ∈ ts, t.ok) → (s.length : Int) = n + 1 → ((ts.foldl (m_joint_demands_l0 n) s).length : Int) = n + 1
  | [], s, _, h => h
  | t :: ts, s, ht, h => by
    rw [List.foldl_cons]
    refine joint_aux h0 ts _ (fun x hx => ht x (List.mem_cons_of_mem _ hx)) ?_
    unfold m_joint_demands_l0
    rw [List.length_map, List.length_zip, demands_len (ht t List.mem_cons_self) h0]; omega
theorem joint_len {ts : List Task} (h : ∀ t ∈ ts, t.ok) {n : Int} (h0 : 0 ≤ n) : ((m_joint_demands ts n).length : Int) = n + 1 :=
  joint_aux h0 ts _ h (by rw [List.length_replicate]; omega)
theorem joint_top {ts : List Task} (hok : ∀ t ∈ ts, t.ok) (h3 : ts.length ≤ 3) {n : Int} (h0 : 0 ≤ n) (h1 : n ≤ 24) : ∀ x ∈ m_joint_demands ts n, 0 ≤ x ∧ x ≤ 100000 := fun x hx => by
  obtain ⟨i, hi, e⟩ := List.getElem_of_mem hx
  have hl := joint_len hok h0
  have a := joint_at hok (H := n.toNat) (i := i) (by omega)
  rw [show ((n.toNat : Nat) : Int) = n by omega, List.getD_eq_getElem?_getD, List.getElem?_eq_getElem hi] at a
  have a : (m_joint_demands ts n)[i] = Dm ts i := a
  have b := Dm_top hok i
  have c : (ts.length : Int) * (1000 * ((i : Int) + 1)) ≤ 3 * (1000 * ((i : Int) + 1)) := Int.mul_le_mul_of_nonneg_right (by omega) (by omega)
  rw [← e, a]
  omega
theorem sc_joint_demands : FnScope ["tasks", "length", "totals", "task", "total", "number"] ["tasks", "length"] (defScope s_joint_demands) := ⟨rfl, rfl, rfl, by decide +kernel, rfl, by decide +kernel, by decide +kernel⟩
def sp_joint_demands : SpN := fun zcs zL zKc => ∃ tasks : List Task, ∃ length : Int, zcs = [.fr ((eL eTask) tasks), .fr (D.int length)] ∧ zL = [] ∧ ((∀ t ∈ tasks, t.ok) ∧ 0 ≤ length ∧ length ≤ 100000) ∧ ∀ zn zL', getL zn zL' = some (.fl ((m_joint_demands tasks length).map D.int)) → zKc (.ad zn) zL'
theorem ok_joint_demands (T : TX P K mg) : FnOk P w K mg base CX0 7 T.a_joint_demands T.d_joint_demands ["tasks", "length"] (SpOf K mg sp_joint_demands) := by
  have O_demands := ok_demands (P := P) (w := w) (base := base) T
  refine T.F_joint_demands.okN sc_joint_demands (fun zcs zL zKc zh => by obtain ⟨tasks, length, rfl, _⟩ := zh; rfl) fun zcdv zA zout zst zH zE zB zcs zL zKc zhr zh => ?_
  obtain ⟨tasks, length, rfl, rfl, hpre, zk⟩ := zh
  have nd := sc_joint_demands.nd
  have hSL := sizeLine_eq
  show Exs _ _ _ ⟨[some (.fr ((eL eTask) tasks)), some (.fr (D.int length)), none, none, none, none], []⟩ _
  refine exs_cons (ex_set 2 (ev_repTL 100 (enc := D.int) (0 : Int) (ea_cons ev_int ea_nil) (ev_bin o_add (ev_var 1 rfl (.inl rfl) rfl) ev_int) (by simp [names]) (by decide) (by walk_at "sd") (by walk_at "sd")) ?_ nd rfl (.inl rfl))
  show Exs _ _ _ ⟨[some (.fr ((eL eTask) tasks)), some (.fr (D.int length)), some (.ad 100), none, none, none], [(100, .fl (((List.replicate ((length + (1 : Int))).toNat (0 : Int))).map D.int))]⟩ _
  generalize zg_totals : (List.replicate ((length + (1 : Int))).toNat (0 : Int)) = totals
  show Exs _ _ _ ⟨[some (.fr ((eL eTask) tasks)), some (.fr (D.int length)), some (.ad 100), none, none, none], [(100, .fl ((totals).map D.int))]⟩ _
  refine exs_cons (ex_forF (enc := eTask) (fun (zs0 : (List Int)) => (⟨[some (.fr ((eL eTask) tasks)), some (.fr (D.int length)), some (.ad 100), none, none, none], [(100, .fl ((zs0).map D.int))]⟩ : Nz.S)) (m_joint_demands_l0 length) totals (fun (zi0 : Nat) (zs0 : (List Int)) => (zs0.length : Int) = length + 1) (src_listT (ev_var 0 rfl (.inl rfl) rfl)) ⟨⟨.inr rfl, .inr rfl, .inr rfl, .inl rfl, .inl rfl, .inl rfl, trivial⟩, rfl⟩ (by rw [← zg_totals, List.length_replicate]; omega) ?_ ?_ PassesOwn.never rfl)
  · intro zi0 zy0 zs0 zhy0 zq0
    skip
    have htk := hpre.1 zy0 (List.mem_of_getElem? zhy0)
    refine ⟨⟨[some (.fr ((eL eTask) tasks)), some (.fr (D.int length)), some (.ad 100), some (.fr (eTask zy0)), none, none], [(100, .fl ((zs0).map D.int))]⟩, (eg_name 3 nd rfl (.inl rfl)), ?_⟩
    refine exs_freezeT 100 (xs := zs0) (enc := D.int) (by exact rfl) ?_
    show Exs _ _ _ ⟨[some (.fr ((eL eTask) tasks)), some (.fr (D.int length)), some (.fr ((eL D.int) zs0)), some (.fr (eTask zy0)), none, none], []⟩ _
    refine exs_one (ex_setLcML 2 (enc2 := D.int) 100 (fun zc2 : Int × Int => (zc2.1 + zc2.2)) _ rfl nd rfl rfl (sw_true rfl rfl rfl (by decide +kernel)) (blkOk_by (N := ["tasks", "length", "totals", "task", "total", "number"]) (sc := defScope s_joint_demands) (own := [(("total" : Str), 4), (("number" : Str), 5)]) (by decide +kernel)) (src_zip (enc := D.int) (encB := D.int) (xs := zs0) (ys := (m_demands zy0 length)) (ea_cons (ev_var 2 rfl (.inl rfl) rfl) (ea_cons (ev_call (ds := [eTask zy0, D.int length]) (ds' := []) (dvs := []) (dfs := []) O_demands (zhr.mono (by decide)) T.m_demands T.k_demands T.b_demands .nil (fun _ => .nil) (ea_cons (ev_var 3 rfl (.inl rfl) rfl) (ea_cons (ev_var 1 rfl (.inl rfl) rfl) ea_nil)) (fun _ zkk => ⟨zy0, length, rfl, rfl, (by walk_at "pre"), zkk⟩) (by exact rfl)) ea_nil)) (by exact rfl) T.n_zip) (by simp [names]) (by decide) (by walk_at "sd") (fun _ zc2 _ zhyzc2 _ _ _ _ _ => (eg_tupC rfl (egs_consC (eg_nameC 4 nd rfl (.inl rfl) (by decide) (.inr rfl)) (egs_consC (eg_nameC 5 nd rfl (.inl rfl) (by decide) (.inr rfl)) egs_nilC)))) (fun _ zc2 _ zhyzc2 _ _ _ _ _ => (ev_bin o_add (ev_var 4 rfl (.inl rfl) rfl) (ev_var 5 rfl (.inl rfl) rfl))) ?_)
    have est : (m_joint_demands_l0 length) zs0 zy0 = ((zs0.zip (m_demands zy0 length)).map (fun zc2 : Int × Int => (zc2.1 + zc2.2))) := by simp only [m_joint_demands_l0, not_true_eq_false, not_false_eq_true, ↓reduceIte]
    show Le _ _ ∧ _
    try rw [est]
    exact ⟨⟨⟨.inr rfl, .inr rfl, .inr rfl, .inl rfl, .inl rfl, .inl rfl, trivial⟩, rfl⟩, (by rw [List.length_map, List.length_zip, demands_len htk (by omega)]; omega)⟩
  · intro zq0
    show Exs _ _ _ ⟨[some (.fr ((eL eTask) tasks)), some (.fr (D.int length)), some (.ad 100), none, none, none], [(100, .fl (((tasks.foldl (m_joint_demands_l0 length) totals)).map D.int))]⟩ _
    refine exs_one (ex_ret (ev_var 2 rfl (.inl rfl) rfl) ?_)
    have efin : m_joint_demands tasks length = (tasks.foldl (m_joint_demands_l0 length) totals) := by subst zg_totals; simp only [m_joint_demands, not_true_eq_false, not_false_eq_true, ↓reduceIte]
    rw [efin] at zk
    exact zk 100 _ (by exact rfl)
def m_law_kinds_l0 (numbers : List Int) (at_ : Int) (zs0 : (List (Str × Int × Int))) (zy0 : Nat) : (List (Str × Int × Int)) :=
  (zs0 ++ [((chA (Str.ofString "abc") ((0 : Int) + (zy0 : Int))), ((1 : Int) + ((numbers.getD (((at_ + (1 : Int)) + ((2 : Int) * ((0 : Int) + (zy0 : Int))))).toNat default) % (4 : Int))), ((1 : Int) + ((numbers.getD (((at_ + (2 : Int)) + ((2 : Int) * ((0 : Int) + (zy0 : Int))))).toNat default) % (9 : Int))))])
def m_law_kinds (numbers : List Int) (at_ : Int) : List (Str × Int × Int) :=
  ((List.range (((1 : Int) + ((numbers.getD (at_).toNat default) % (3 : Int)))).toNat).foldl (m_law_kinds_l0 numbers at_) ([] : List (Str × Int × Int)))
theorem sc_law_kinds : FnScope ["_law_numbers_here", "_law_at", "_law_kinds_here", "_law_k"] ["_law_numbers_here", "_law_at"] (defScope s_law_kinds) := ⟨rfl, rfl, rfl, by decide +kernel, rfl, by decide +kernel, by decide +kernel⟩
def sp_law_kinds : SpN := fun zcs zL zKc => ∃ numbers : List Int, ∃ at_ : Int, zcs = [.fr ((eL D.int) numbers), .fr (D.int at_)] ∧ zL = [] ∧ (0 ≤ at_ ∧ at_ + 7 ≤ numbers.length) ∧ ∀ zL', zKc (.fr ((eL (eT3 D.str D.int D.int)) (m_law_kinds numbers at_))) zL'
theorem ok_law_kinds (T : TX P K mg) : FnOk P w K mg base CX0 1 T.a_law_kinds T.d_law_kinds ["_law_numbers_here", "_law_at"] (SpOf K mg sp_law_kinds) := by
  refine T.F_law_kinds.okN sc_law_kinds (fun zcs zL zKc zh => by obtain ⟨numbers, at_, rfl, _⟩ := zh; rfl) fun zcdv zA zout zst zH zE zB zcs zL zKc zhr zh => ?_
  obtain ⟨numbers, at_, rfl, rfl, hpre, zk⟩ := zh
  have nd := sc_law_kinds.nd
  have hSL := sizeLine_eq
  have habc : (Str.ofString "abc").length = 3 := by decide +kernel
  show Exs _ _ _ ⟨[some (.fr ((eL D.int) numbers)), some (.fr (D.int at_)), none, none], []⟩ _
  refine exs_cons (ex_set 2 (ev_lstN 100 (enc := (eT3 D.str D.int D.int)) ([] : List (Str × Int × Int)) ea_nil rfl (by simp only [List.length_cons, List.length_nil]; decide) (by simp [names]) (by decide)) ?_ nd rfl (.inl rfl))
  show Exs _ _ _ ⟨[some (.fr ((eL D.int) numbers)), some (.fr (D.int at_)), some (.ad 100), none], [(100, .fl ((([] : List (Str × Int × Int))).map (eT3 D.str D.int D.int)))]⟩ _
  refine exs_cons (ex_forF (enc := (fun i : Nat => D.int ((0 : Int) + (i : Int)))) (fun (zs0 : (List (Str × Int × Int))) => (⟨[some (.fr ((eL D.int) numbers)), some (.fr (D.int at_)), some (.ad 100), none], [(100, .fl ((zs0).map (eT3 D.str D.int D.int)))]⟩ : Nz.S)) (m_law_kinds_l0 numbers at_) ([] : List (Str × Int × Int)) (fun (zi0 : Nat) (zs0 : (List (Str × Int × Int))) => zs0.length = zi0) (src_range1 (ea_cons (ev_bin o_add ev_int (ev_bin (o_mod (by walk_at "sd")) (ev_ix (ix_L (xs := numbers) (enc := D.int) (by exact rfl) (by walk_at "sd") (by walk_at "sd")) (ev_var 0 rfl (.inl rfl) rfl) (ev_var 1 rfl (.inl rfl) rfl)) ev_int)) ea_nil) (by exact rfl) T.n_range (by walk_at "sd") (by walk_at "sd")) ⟨⟨.inr rfl, .inr rfl, .inr rfl, .inl rfl, trivial⟩, rfl⟩ (by simp) ?_ ?_ PassesOwn.never rfl)
  · intro zi0 zy0 zs0 zhy0 zq0
    skip
    have hy0 := seq_range zhy0
    have hi := (List.getElem?_eq_some_iff.mp zhy0).1
    simp only [List.length_range] at hi
    refine ⟨⟨[some (.fr ((eL D.int) numbers)), some (.fr (D.int at_)), some (.ad 100), some (.fr (D.int ((0 : Int) + (zy0 : Int))))], [(100, .fl ((zs0).map (eT3 D.str D.int D.int)))]⟩, (eg_name 3 nd rfl (.inl rfl)), ?_⟩
    refine exs_one (ex_expr (ev_appendT (n := 100) (enc := (eT3 D.str D.int D.int)) (xs := zs0) (xs0 := zs0) ((chA (Str.ofString "abc") ((0 : Int) + (zy0 : Int))), ((1 : Int) + ((numbers.getD (((at_ + (1 : Int)) + ((2 : Int) * ((0 : Int) + (zy0 : Int))))).toNat default) % (4 : Int))), ((1 : Int) + ((numbers.getD (((at_ + (2 : Int)) + ((2 : Int) * ((0 : Int) + (zy0 : Int))))).toNat default) % (9 : Int)))) rfl rfl rfl (by walk_at "sd") (ev_var 2 rfl (.inl rfl) rfl) (ev_tup (ds := [D.str (chA (Str.ofString "abc") ((0 : Int) + (zy0 : Int))), D.int ((1 : Int) + ((numbers.getD (((at_ + (1 : Int)) + ((2 : Int) * ((0 : Int) + (zy0 : Int))))).toNat default) % (4 : Int))), D.int ((1 : Int) + ((numbers.getD (((at_ + (2 : Int)) + ((2 : Int) * ((0 : Int) + (zy0 : Int))))).toNat default) % (9 : Int)))]) (ea_cons (ev_ixS ev_str (ev_var 3 rfl (.inl rfl) rfl) (by walk_at "sd") (by walk_at "sd") (by walk_at "sd")) (ea_cons (ev_bin o_add ev_int (ev_bin (o_mod (by walk_at "sd")) (ev_ix (ix_L (xs := numbers) (enc := D.int) (by exact rfl) (by walk_at "sd") (by walk_at "sd")) (ev_var 0 rfl (.inl rfl) rfl) (ev_bin o_add (ev_bin o_add (ev_var 1 rfl (.inl rfl) rfl) ev_int) (ev_bin (o_mul (by walk_at "mul")) ev_int (ev_var 3 rfl (.inl rfl) rfl)))) ev_int)) (ea_cons (ev_bin o_add ev_int (ev_bin (o_mod (by walk_at "sd")) (ev_ix (ix_L (xs := numbers) (enc := D.int) (by exact rfl) (by walk_at "sd") (by walk_at "sd")) (ev_var 0 rfl (.inl rfl) rfl) (ev_bin o_add (ev_bin o_add (ev_var 1 rfl (.inl rfl) rfl) ev_int) (ev_bin (o_mul (by walk_at "mul")) ev_int (ev_var 3 rfl (.inl rfl) rfl)))) ev_int)) ea_nil))) (by simp only [List.length_cons, List.length_nil]; decide))) ?_)
    have est : (m_law_kinds_l0 numbers at_) zs0 zy0 = (zs0 ++ [((chA (Str.ofString "abc") ((0 : Int) + (zy0 : Int))), ((1 : Int) + ((numbers.getD (((at_ + (1 : Int)) + ((2 : Int) * ((0 : Int) + (zy0 : Int))))).toNat default) % (4 : Int))), ((1 : Int) + ((numbers.getD (((at_ + (2 : Int)) + ((2 : Int) * ((0 : Int) + (zy0 : Int))))).toNat default) % (9 : Int))))]) := by simp only [m_law_kinds_l0, not_true_eq_false, not_false_eq_true, ↓reduceIte]
    show Le _ _ ∧ _
    try rw [est]
    exact ⟨⟨⟨.inr rfl, .inr rfl, .inr rfl, .inl rfl, trivial⟩, rfl⟩, (by simp; omega)⟩
  · intro zq0
    show Exs _ _ _ ⟨[some (.fr ((eL D.int) numbers)), some (.fr (D.int at_)), some (.ad 100), none], [(100, .fl ((((List.range (((1 : Int) + ((numbers.getD (at_).toNat default) % (3 : Int)))).toNat).foldl (m_law_kinds_l0 numbers at_) ([] : List (Str × Int × Int)))).map (eT3 D.str D.int D.int)))]⟩ _
    refine exs_freezeT 100 (xs := ((List.range (((1 : Int) + ((numbers.getD (at_).toNat default) % (3 : Int)))).toNat).foldl (m_law_kinds_l0 numbers at_) ([] : List (Str × Int × Int)))) (enc := (eT3 D.str D.int D.int)) (by exact rfl) ?_
    show Exs _ _ _ ⟨[some (.fr ((eL D.int) numbers)), some (.fr (D.int at_)), some (.fr ((eL (eT3 D.str D.int D.int)) ((List.range (((1 : Int) + ((numbers.getD (at_).toNat default) % (3 : Int)))).toNat).foldl (m_law_kinds_l0 numbers at_) ([] : List (Str × Int × Int))))), none], []⟩ _
    refine exs_one (ex_ret (ev_var 2 rfl (.inl rfl) rfl) ?_)
    have efin : m_law_kinds numbers at_ = ((List.range (((1 : Int) + ((numbers.getD (at_).toNat default) % (3 : Int)))).toNat).foldl (m_law_kinds_l0 numbers at_) ([] : List (Str × Int × Int))) := by simp only [m_law_kinds, not_true_eq_false, not_false_eq_true, ↓reduceIte]
    rw [efin] at zk
    exact zk _
def m_law_ways_l0 (numbers : List Int) (at_ : Int) (kinds : List (Str × Int × Int)) (zs0 : (List (Str × Str × Int))) (zy0 : Nat) : (List (Str × Str × Int)) :=
  let source : Str := (kinds.getD (((numbers.getD (((at_ + (1 : Int)) + ((3 : Int) * ((0 : Int) + (zy0 : Int))))).toNat default) % (kinds.length : Int))).toNat default).1
  let target : Str := (kinds.getD (((numbers.getD (((at_ + (2 : Int)) + ((3 : Int) * ((0 : Int) + (zy0 : Int))))).toNat default) % (kinds.length : Int))).toNat default).1
  (zs0 ++ [(source, target, ((1 : Int) + ((numbers.getD (((at_ + (3 : Int)) + ((3 : Int) * ((0 : Int) + (zy0 : Int))))).toNat default) % (6 : Int))))])
def m_law_ways (numbers : List Int) (at_ : Int) (kinds : List (Str × Int × Int)) : List (Str × Str × Int) :=
  ((List.range (((numbers.getD (at_).toNat default) % (5 : Int))).toNat).foldl (m_law_ways_l0 numbers at_ kinds) ([] : List (Str × Str × Int)))
theorem sc_law_ways : FnScope ["_law_numbers_here", "_law_at", "_law_kinds_here", "_law_ways_here", "_law_k", "_law_source", "_law_target"] ["_law_numbers_here", "_law_at", "_law_kinds_here"] (defScope s_law_ways) := ⟨rfl, rfl, rfl, by decide +kernel, rfl, by decide +kernel, by decide +kernel⟩
def sp_law_ways : SpN := fun zcs zL zKc => ∃ numbers : List Int, ∃ at_ : Int, ∃ kinds : List (Str × Int × Int), zcs = [.fr ((eL D.int) numbers), .fr (D.int at_), .fr ((eL (eT3 D.str D.int D.int)) kinds)] ∧ zL = [] ∧ (0 ≤ at_ ∧ at_ + 13 ≤ numbers.length ∧ 0 < kinds.length ∧ kinds.length ≤ 8) ∧ ∀ zL', zKc (.fr ((eL (eT3 D.str D.str D.int)) (m_law_ways numbers at_ kinds))) zL'
theorem ok_law_ways (T : TX P K mg) : FnOk P w K mg base CX0 1 T.a_law_ways T.d_law_ways ["_law_numbers_here", "_law_at", "_law_kinds_here"] (SpOf K mg sp_law_ways) := by
  refine T.F_law_ways.okN sc_law_ways (fun zcs zL zKc zh => by obtain ⟨numbers, at_, kinds, rfl, _⟩ := zh; rfl) fun zcdv zA zout zst zH zE zB zcs zL zKc zhr zh => ?_
  obtain ⟨numbers, at_, kinds, rfl, rfl, hpre, zk⟩ := zh
  have nd := sc_law_ways.nd
  have hSL := sizeLine_eq
  have hmd : ∀ x : Int, 0 ≤ x % (kinds.length : Int) ∧ x % (kinds.length : Int) < (kinds.length : Int) := fun x => ⟨Int.emod_nonneg _ (by omega), Int.emod_lt_of_pos _ (by omega)⟩
  show Exs _ _ _ ⟨[some (.fr ((eL D.int) numbers)), some (.fr (D.int at_)), some (.fr ((eL (eT3 D.str D.int D.int)) kinds)), none, none, none, none], []⟩ _
  refine exs_cons (ex_set 3 (ev_lstN 100 (enc := (eT3 D.str D.str D.int)) ([] : List (Str × Str × Int)) ea_nil rfl (by simp only [List.length_cons, List.length_nil]; decide) (by simp [names]) (by decide)) ?_ nd rfl (.inl rfl))
  show Exs _ _ _ ⟨[some (.fr ((eL D.int) numbers)), some (.fr (D.int at_)), some (.fr ((eL (eT3 D.str D.int D.int)) kinds)), some (.ad 100), none, none, none], [(100, .fl ((([] : List (Str × Str × Int))).map (eT3 D.str D.str D.int)))]⟩ _
  refine exs_cons (ex_forF (enc := (fun i : Nat => D.int ((0 : Int) + (i : Int)))) (fun (zs0 : (List (Str × Str × Int))) => (⟨[some (.fr ((eL D.int) numbers)), some (.fr (D.int at_)), some (.fr ((eL (eT3 D.str D.int D.int)) kinds)), some (.ad 100), none, none, none], [(100, .fl ((zs0).map (eT3 D.str D.str D.int)))]⟩ : Nz.S)) (m_law_ways_l0 numbers at_ kinds) ([] : List (Str × Str × Int)) (fun (zi0 : Nat) (zs0 : (List (Str × Str × Int))) => zs0.length = zi0) (src_range1 (ea_cons (ev_bin (o_mod (by walk_at "sd")) (ev_ix (ix_L (xs := numbers) (enc := D.int) (by exact rfl) (by walk_at "sd") (by walk_at "sd")) (ev_var 0 rfl (.inl rfl) rfl) (ev_var 1 rfl (.inl rfl) rfl)) ev_int) ea_nil) (by exact rfl) T.n_range (by walk_at "sd") (by walk_at "sd")) ⟨⟨.inr rfl, .inr rfl, .inr rfl, .inr rfl, .inl rfl, .inl rfl, .inl rfl, trivial⟩, rfl⟩ (by simp) ?_ ?_ PassesOwn.never rfl)
  · intro zi0 zy0 zs0 zhy0 zq0
    skip
    have hy0 := seq_range zhy0
    have hi := (List.getElem?_eq_some_iff.mp zhy0).1
    simp only [List.length_range] at hi
    have hq1 := hmd (numbers.getD (at_ + 1 + 3 * (0 + (zy0 : Int))).toNat default)
    have hq2 := hmd (numbers.getD (at_ + 2 + 3 * (0 + (zy0 : Int))).toNat default)
    refine ⟨⟨[some (.fr ((eL D.int) numbers)), some (.fr (D.int at_)), some (.fr ((eL (eT3 D.str D.int D.int)) kinds)), some (.ad 100), some (.fr (D.int ((0 : Int) + (zy0 : Int)))), none, none], [(100, .fl ((zs0).map (eT3 D.str D.str D.int)))]⟩, (eg_name 4 nd rfl (.inl rfl)), ?_⟩
    refine exs_cons (ex_set 5 (ev_ix (.t (d := D.str ((kinds.getD (((numbers.getD (((at_ + (1 : Int)) + ((3 : Int) * ((0 : Int) + (zy0 : Int))))).toNat default) % (kinds.length : Int))).toNat default).1)) rfl) (ev_ix (ix_L (xs := kinds) (enc := (eT3 D.str D.int D.int)) (by exact rfl) (by walk_at "sd") (by walk_at "sd")) (ev_var 2 rfl (.inl rfl) rfl) (ev_bin (o_mod (by walk_at "sd")) (ev_ix (ix_L (xs := numbers) (enc := D.int) (by exact rfl) (by walk_at "sd") (by walk_at "sd")) (ev_var 0 rfl (.inl rfl) rfl) (ev_bin o_add (ev_bin o_add (ev_var 1 rfl (.inl rfl) rfl) ev_int) (ev_bin (o_mul (by walk_at "mul")) ev_int (ev_var 4 rfl (.inl rfl) rfl)))) (ev_len (ln_L (xs := kinds) (enc := (eT3 D.str D.int D.int)) (by exact rfl)) (ev_var 2 rfl (.inl rfl) rfl) (by exact rfl) T.n_len))) ev_int) ?_ nd rfl (.inl rfl))
    show Exs _ _ _ ⟨[some (.fr ((eL D.int) numbers)), some (.fr (D.int at_)), some (.fr ((eL (eT3 D.str D.int D.int)) kinds)), some (.ad 100), some (.fr (D.int ((0 : Int) + (zy0 : Int)))), some (.fr (D.str ((kinds.getD (((numbers.getD (((at_ + (1 : Int)) + ((3 : Int) * ((0 : Int) + (zy0 : Int))))).toNat default) % (kinds.length : Int))).toNat default).1))), none], [(100, .fl ((zs0).map (eT3 D.str D.str D.int)))]⟩ _
    generalize zg_source : (kinds.getD (((numbers.getD (((at_ + (1 : Int)) + ((3 : Int) * ((0 : Int) + (zy0 : Int))))).toNat default) % (kinds.length : Int))).toNat default).1 = source
    show Exs _ _ _ ⟨[some (.fr ((eL D.int) numbers)), some (.fr (D.int at_)), some (.fr ((eL (eT3 D.str D.int D.int)) kinds)), some (.ad 100), some (.fr (D.int ((0 : Int) + (zy0 : Int)))), some (.fr (D.str source)), none], [(100, .fl ((zs0).map (eT3 D.str D.str D.int)))]⟩ _
    refine exs_cons (ex_set 6 (ev_ix (.t (d := D.str ((kinds.getD (((numbers.getD (((at_ + (2 : Int)) + ((3 : Int) * ((0 : Int) + (zy0 : Int))))).toNat default) % (kinds.length : Int))).toNat default).1)) rfl) (ev_ix (ix_L (xs := kinds) (enc := (eT3 D.str D.int D.int)) (by exact rfl) (by walk_at "sd") (by walk_at "sd")) (ev_var 2 rfl (.inl rfl) rfl) (ev_bin (o_mod (by walk_at "sd")) (ev_ix (ix_L (xs := numbers) (enc := D.int) (by exact rfl) (by walk_at "sd") (by walk_at "sd")) (ev_var 0 rfl (.inl rfl) rfl) (ev_bin o_add (ev_bin o_add (ev_var 1 rfl (.inl rfl) rfl) ev_int) (ev_bin (o_mul (by walk_at "mul")) ev_int (ev_var 4 rfl (.inl rfl) rfl)))) (ev_len (ln_L (xs := kinds) (enc := (eT3 D.str D.int D.int)) (by exact rfl)) (ev_var 2 rfl (.inl rfl) rfl) (by exact rfl) T.n_len))) ev_int) ?_ nd rfl (.inl rfl))
    show Exs _ _ _ ⟨[some (.fr ((eL D.int) numbers)), some (.fr (D.int at_)), some (.fr ((eL (eT3 D.str D.int D.int)) kinds)), some (.ad 100), some (.fr (D.int ((0 : Int) + (zy0 : Int)))), some (.fr (D.str source)), some (.fr (D.str ((kinds.getD (((numbers.getD (((at_ + (2 : Int)) + ((3 : Int) * ((0 : Int) + (zy0 : Int))))).toNat default) % (kinds.length : Int))).toNat default).1)))], [(100, .fl ((zs0).map (eT3 D.str D.str D.int)))]⟩ _
    generalize zg_target : (kinds.getD (((numbers.getD (((at_ + (2 : Int)) + ((3 : Int) * ((0 : Int) + (zy0 : Int))))).toNat default) % (kinds.length : Int))).toNat default).1 = target
    show Exs _ _ _ ⟨[some (.fr ((eL D.int) numbers)), some (.fr (D.int at_)), some (.fr ((eL (eT3 D.str D.int D.int)) kinds)), some (.ad 100), some (.fr (D.int ((0 : Int) + (zy0 : Int)))), some (.fr (D.str source)), some (.fr (D.str target))], [(100, .fl ((zs0).map (eT3 D.str D.str D.int)))]⟩ _
    refine exs_one (ex_expr (ev_appendT (n := 100) (enc := (eT3 D.str D.str D.int)) (xs := zs0) (xs0 := zs0) (source, target, ((1 : Int) + ((numbers.getD (((at_ + (3 : Int)) + ((3 : Int) * ((0 : Int) + (zy0 : Int))))).toNat default) % (6 : Int)))) rfl rfl rfl (by walk_at "sd") (ev_var 3 rfl (.inl rfl) rfl) (ev_tup (ds := [D.str source, D.str target, D.int ((1 : Int) + ((numbers.getD (((at_ + (3 : Int)) + ((3 : Int) * ((0 : Int) + (zy0 : Int))))).toNat default) % (6 : Int)))]) (ea_cons (ev_var 5 rfl (.inl rfl) rfl) (ea_cons (ev_var 6 rfl (.inl rfl) rfl) (ea_cons (ev_bin o_add ev_int (ev_bin (o_mod (by walk_at "sd")) (ev_ix (ix_L (xs := numbers) (enc := D.int) (by exact rfl) (by walk_at "sd") (by walk_at "sd")) (ev_var 0 rfl (.inl rfl) rfl) (ev_bin o_add (ev_bin o_add (ev_var 1 rfl (.inl rfl) rfl) ev_int) (ev_bin (o_mul (by walk_at "mul")) ev_int (ev_var 4 rfl (.inl rfl) rfl)))) ev_int)) ea_nil))) (by simp only [List.length_cons, List.length_nil]; decide))) ?_)
    have est : (m_law_ways_l0 numbers at_ kinds) zs0 zy0 = (zs0 ++ [(source, target, ((1 : Int) + ((numbers.getD (((at_ + (3 : Int)) + ((3 : Int) * ((0 : Int) + (zy0 : Int))))).toNat default) % (6 : Int))))]) := by subst zg_target; subst zg_source; simp only [m_law_ways_l0, not_true_eq_false, not_false_eq_true, ↓reduceIte]
    show Le _ _ ∧ _
    try rw [est]
    exact ⟨⟨⟨.inr rfl, .inr rfl, .inr rfl, .inr rfl, .inl rfl, .inl rfl, .inl rfl, trivial⟩, rfl⟩, (by simp; omega)⟩
  · intro zq0
    show Exs _ _ _ ⟨[some (.fr ((eL D.int) numbers)), some (.fr (D.int at_)), some (.fr ((eL (eT3 D.str D.int D.int)) kinds)), some (.ad 100), none, none, none], [(100, .fl ((((List.range (((numbers.getD (at_).toNat default) % (5 : Int))).toNat).foldl (m_law_ways_l0 numbers at_ kinds) ([] : List (Str × Str × Int)))).map (eT3 D.str D.str D.int)))]⟩ _
    refine exs_freezeT 100 (xs := ((List.range (((numbers.getD (at_).toNat default) % (5 : Int))).toNat).foldl (m_law_ways_l0 numbers at_ kinds) ([] : List (Str × Str × Int)))) (enc := (eT3 D.str D.str D.int)) (by exact rfl) ?_
    show Exs _ _ _ ⟨[some (.fr ((eL D.int) numbers)), some (.fr (D.int at_)), some (.fr ((eL (eT3 D.str D.int D.int)) kinds)), some (.fr ((eL (eT3 D.str D.str D.int)) ((List.range (((numbers.getD (at_).toNat default) % (5 : Int))).toNat).foldl (m_law_ways_l0 numbers at_ kinds) ([] : List (Str × Str × Int))))), none, none, none], []⟩ _
    refine exs_one (ex_ret (ev_var 3 rfl (.inl rfl) rfl) ?_)
    have efin : m_law_ways numbers at_ kinds = ((List.range (((numbers.getD (at_).toNat default) % (5 : Int))).toNat).foldl (m_law_ways_l0 numbers at_ kinds) ([] : List (Str × Str × Int))) := by simp only [m_law_ways, not_true_eq_false, not_false_eq_true, ↓reduceIte]
    rw [efin] at zk
    exact zk _
def m_server_table_l0 (period : Int) (capacity : Int) (lo0 : Int) (zs0 : (List Int)) (zy0 : Nat) : (List Int) :=
  (zs0.set (((lo0 + (zy0 : Int)) % period)).toNat capacity)
def m_server_table (period : Int) (budget : Int) (offset : Int) (capacity : Int) : List Int :=
  ((List.range ((offset + budget) - offset).toNat).foldl (m_server_table_l0 period capacity offset) (List.replicate (period).toNat (0 : Int)))
theorem sc_server_table : FnScope ["period", "budget", "offset", "capacity", "table", "slot"] ["period", "budget", "offset", "capacity"] (defScope s_server_table) := ⟨rfl, rfl, rfl, by decide +kernel, rfl, by decide +kernel, by decide +kernel⟩
def sp_server_table : SpN := fun zcs zL zKc => ∃ period : Int, ∃ budget : Int, ∃ offset : Int, ∃ capacity : Int, zcs = [.fr (D.int period), .fr (D.int budget), .fr (D.int offset), .fr (D.int capacity)] ∧ zL = [] ∧ (1 ≤ period ∧ period ≤ 8 ∧ 0 ≤ budget ∧ budget ≤ period ∧ 0 ≤ offset ∧ offset < period ∧ 0 ≤ capacity ∧ capacity ≤ 1000) ∧ ∀ zL', zKc (.fr ((eL D.int) (m_server_table period budget offset capacity))) zL'
theorem ok_server_table (T : TX P K mg) : FnOk P w K mg base CX0 1 T.a_server_table T.d_server_table ["period", "budget", "offset", "capacity"] (SpOf K mg sp_server_table) := by
  refine T.F_server_table.okN sc_server_table (fun zcs zL zKc zh => by obtain ⟨period, budget, offset, capacity, rfl, _⟩ := zh; rfl) fun zcdv zA zout zst zH zE zB zcs zL zKc zhr zh => ?_
  obtain ⟨period, budget, offset, capacity, rfl, rfl, hpre, zk⟩ := zh
  have nd := sc_server_table.nd
  have hSL := sizeLine_eq
  show Exs _ _ _ ⟨[some (.fr (D.int period)), some (.fr (D.int budget)), some (.fr (D.int offset)), some (.fr (D.int capacity)), none, none], []⟩ _
  refine exs_cons (ex_set 4 (ev_repTL 100 (enc := D.int) (0 : Int) (ea_cons ev_int ea_nil) (ev_var 0 rfl (.inl rfl) rfl) (by simp [names]) (by decide) (by walk_at "sd") (by walk_at "sd")) ?_ nd rfl (.inl rfl))
  show Exs _ _ _ ⟨[some (.fr (D.int period)), some (.fr (D.int budget)), some (.fr (D.int offset)), some (.fr (D.int capacity)), some (.ad 100), none], [(100, .fl (((List.replicate (period).toNat (0 : Int))).map D.int))]⟩ _
  generalize zg_table : (List.replicate (period).toNat (0 : Int)) = table
  show Exs _ _ _ ⟨[some (.fr (D.int period)), some (.fr (D.int budget)), some (.fr (D.int offset)), some (.fr (D.int capacity)), some (.ad 100), none], [(100, .fl ((table).map D.int))]⟩ _
  refine exs_cons (ex_forF (enc := (fun i : Nat => D.int (offset + (i : Int)))) (fun (zs0 : (List Int)) => (⟨[some (.fr (D.int period)), some (.fr (D.int budget)), some (.fr (D.int offset)), some (.fr (D.int capacity)), some (.ad 100), none], [(100, .fl ((zs0).map D.int))]⟩ : Nz.S)) (m_server_table_l0 period capacity offset) table (fun (zi0 : Nat) (zs0 : (List Int)) => (zs0.length : Int) = period) (src_range2 (ea_cons (ev_var 2 rfl (.inl rfl) rfl) (ea_cons (ev_bin o_add (ev_var 2 rfl (.inl rfl) rfl) (ev_var 1 rfl (.inl rfl) rfl)) ea_nil)) (by exact rfl) T.n_range (by walk_at "sd") (by walk_at "sd") (by walk_at "sd") (by walk_at "sd")) ⟨⟨.inr rfl, .inr rfl, .inr rfl, .inr rfl, .inr rfl, .inl rfl, trivial⟩, rfl⟩ (by rw [← zg_table, List.length_replicate]; omega) ?_ ?_ PassesOwn.never rfl)
  · intro zi0 zy0 zs0 zhy0 zq0
    skip
    have hy0 := seq_range zhy0
    have hi := (List.getElem?_eq_some_iff.mp zhy0).1
    simp only [List.length_range] at hi
    have hd1 := Int.emod_lt_of_pos (offset + (zy0 : Int)) (show (0 : Int) < period by omega)
    have hd2 := Int.emod_nonneg (offset + (zy0 : Int)) (show period ≠ 0 by omega)
    refine ⟨⟨[some (.fr (D.int period)), some (.fr (D.int budget)), some (.fr (D.int offset)), some (.fr (D.int capacity)), some (.ad 100), some (.fr (D.int (offset + (zy0 : Int))))], [(100, .fl ((zs0).map D.int))]⟩, (eg_name 5 nd rfl (.inl rfl)), ?_⟩
    refine exs_one (ex_setIT 100 (enc := D.int) (xs := zs0) capacity rfl (by exact rfl) (by walk_at "sd") (by walk_at "sd") (ev_var 3 rfl (.inl rfl) rfl) (ev_var 4 rfl (.inl rfl) rfl) (ev_bin (o_mod (by walk_at "sd")) (ev_var 5 rfl (.inl rfl) rfl) (ev_var 0 rfl (.inl rfl) rfl)) ?_)
    have est : (m_server_table_l0 period capacity offset) zs0 zy0 = (zs0.set (((offset + (zy0 : Int)) % period)).toNat capacity) := by simp only [m_server_table_l0, not_true_eq_false, not_false_eq_true, ↓reduceIte]
    show Le _ _ ∧ _
    try rw [est]
    exact ⟨⟨⟨.inr rfl, .inr rfl, .inr rfl, .inr rfl, .inr rfl, .inl rfl, trivial⟩, rfl⟩, (by rw [List.length_set]; exact zq0)⟩
  · intro zq0
    show Exs _ _ _ ⟨[some (.fr (D.int period)), some (.fr (D.int budget)), some (.fr (D.int offset)), some (.fr (D.int capacity)), some (.ad 100), none], [(100, .fl ((((List.range ((offset + budget) - offset).toNat).foldl (m_server_table_l0 period capacity offset) table)).map D.int))]⟩ _
    refine exs_freezeT 100 (xs := ((List.range ((offset + budget) - offset).toNat).foldl (m_server_table_l0 period capacity offset) table)) (enc := D.int) (by exact rfl) ?_
    show Exs _ _ _ ⟨[some (.fr (D.int period)), some (.fr (D.int budget)), some (.fr (D.int offset)), some (.fr (D.int capacity)), some (.fr ((eL D.int) ((List.range ((offset + budget) - offset).toNat).foldl (m_server_table_l0 period capacity offset) table))), none], []⟩ _
    refine exs_one (ex_ret (ev_var 4 rfl (.inl rfl) rfl) ?_)
    have efin : m_server_table period budget offset capacity = ((List.range ((offset + budget) - offset).toNat).foldl (m_server_table_l0 period capacity offset) table) := by subst zg_table; simp only [m_server_table, not_true_eq_false, not_false_eq_true, ↓reduceIte]
    rw [efin] at zk
    exact zk _
def m_server_supply (period : Int) (budget : Int) (length : Int) (capacity : Int) : Int :=
  (capacity * (((length / period, length % period).1 * budget) + (if ((length / period, length % period).2 - (period - budget)) > (0 : Int) then ((length / period, length % period).2 - (period - budget)) else (0 : Int))))
theorem sc_server_supply : FnScope ["period", "budget", "length", "capacity", "whole", "rest"] ["period", "budget", "length", "capacity"] (defScope s_server_supply) := ⟨rfl, rfl, rfl, by decide +kernel, rfl, by decide +kernel, by decide +kernel⟩
def sp_server_supply : SpN := fun zcs zL zKc => ∃ period : Int, ∃ budget : Int, ∃ length : Int, ∃ capacity : Int, zcs = [.fr (D.int period), .fr (D.int budget), .fr (D.int length), .fr (D.int capacity)] ∧ zL = [] ∧ (1 ≤ period ∧ period ≤ 8 ∧ 0 ≤ budget ∧ budget ≤ 1000 ∧ 0 ≤ length ∧ length ≤ 1000 ∧ 0 ≤ capacity ∧ capacity ≤ 1000) ∧ ∀ zL', zKc (.fr (D.int (m_server_supply period budget length capacity))) zL'
theorem ok_server_supply (T : TX P K mg) : FnOk P w K mg base CX0 1 T.a_server_supply T.d_server_supply ["period", "budget", "length", "capacity"] (SpOf K mg sp_server_supply) := by
  refine T.F_server_supply.okN sc_server_supply (fun zcs zL zKc zh => by obtain ⟨period, budget, length, capacity, rfl, _⟩ := zh; rfl) fun zcdv zA zout zst zH zE zB zcs zL zKc zhr zh => ?_
  obtain ⟨period, budget, length, capacity, rfl, rfl, hpre, zk⟩ := zh
  have nd := sc_server_supply.nd
  have hSL := sizeLine_eq
  have hq1 := Int.ediv_nonneg (show 0 ≤ length by omega) (show 0 ≤ period by omega)
  have hq2 := Int.ediv_le_self period (show 0 ≤ length by omega)
  have hr1 := Int.emod_nonneg length (show period ≠ 0 by omega)
  have hr2 := Int.emod_lt_of_pos length (show 0 < period by omega)
  have hmb : 0 ≤ (length / period) * budget ∧ (length / period) * budget ≤ 1000 * 1000 := ⟨Int.mul_nonneg hq1 (by omega), Int.mul_le_mul (by omega) (by omega) (by omega) (by decide)⟩
  show Exs _ _ _ ⟨[some (.fr (D.int period)), some (.fr (D.int budget)), some (.fr (D.int length)), some (.fr (D.int capacity)), none, none], []⟩ _
  refine exs_cons (ex_asg (ev_callB (ds := [D.int length, D.int period]) (c_divmod (by walk_at "sd") (by walk_at "sd")) (ea_cons (ev_var 2 rfl (.inl rfl) rfl) (ea_cons (ev_var 0 rfl (.inl rfl) rfl) ea_nil)) (by exact rfl) T.n_divmod (by decide +kernel)) (eg_tup rfl (egs_cons (eg_name 4 nd rfl (.inl rfl)) (egs_cons (eg_name 5 nd rfl (.inl rfl)) egs_nil))) ?_)
  show Exs _ _ _ ⟨[some (.fr (D.int period)), some (.fr (D.int budget)), some (.fr (D.int length)), some (.fr (D.int capacity)), some (.fr (D.int ((length / period, length % period).1))), some (.fr (D.int ((length / period, length % period).2)))], []⟩ _
  refine exs_one (ex_ret (ev_bin (o_mul (by walk_at "mul")) (ev_var 3 rfl (.inl rfl) rfl) (ev_bin o_add (ev_bin (o_mul (by walk_at "mul")) (ev_var 4 rfl (.inl rfl) rfl) (ev_var 1 rfl (.inl rfl) rfl)) (ev_callB (ds := [D.int (0 : Int), D.int ((length / period, length % period).2 - (period - budget))]) (c_max2 rfl) (ea_cons ev_int (ea_cons (ev_bin o_sub (ev_var 5 rfl (.inl rfl) rfl) (ev_bin o_sub (ev_var 0 rfl (.inl rfl) rfl) (ev_var 1 rfl (.inl rfl) rfl))) ea_nil)) (by exact rfl) T.n_max (by decide +kernel)))) ?_)
  have efin : m_server_supply period budget length capacity = (capacity * (((length / period, length % period).1 * budget) + (if ((length / period, length % period).2 - (period - budget)) > (0 : Int) then ((length / period, length % period).2 - (period - budget)) else (0 : Int)))) := by simp only [m_server_supply, not_true_eq_false, not_false_eq_true, ↓reduceIte]
  rw [efin] at zk
  exact zk _
def m_quotient_up (top : Int) (bottom : Int) : Int :=
  (-((-top) / bottom))
theorem quo_b {a b : Int} (h : 0 ≤ a) (hb : 1 ≤ b) : 0 ≤ m_quotient_up a b ∧ m_quotient_up a b ≤ a := by
  unfold m_quotient_up
  have h1 : (-a) / b ≤ 0 := by
    have := Int.ediv_le_ediv (show 0 < b by omega) (show -a ≤ 0 by omega)
    rwa [Int.zero_ediv] at this
  have h2 : -a ≤ (-a) / b := Int.le_ediv_of_mul_le (by omega) (by
    have := Int.mul_le_mul_of_nonneg_left (show 1 ≤ b by omega) h
    rw [Int.neg_mul]; omega)
  omega
theorem sc_quotient_up : FnScope ["top", "bottom"] ["top", "bottom"] (defScope s_quotient_up) := ⟨rfl, rfl, rfl, by decide +kernel, rfl, by decide +kernel, by decide +kernel⟩
def sp_quotient_up : SpN := fun zcs zL zKc => ∃ top : Int, ∃ bottom : Int, zcs = [.fr (D.int top), .fr (D.int bottom)] ∧ zL = [] ∧ (1 ≤ bottom ∧ bottom ≤ 1000) ∧ ∀ zL', zKc (.fr (D.int (m_quotient_up top bottom))) zL'
theorem ok_quotient_up (T : TX P K mg) : FnOk P w K mg base CX0 1 T.a_quotient_up T.d_quotient_up ["top", "bottom"] (SpOf K mg sp_quotient_up) := by
  refine T.F_quotient_up.okN sc_quotient_up (fun zcs zL zKc zh => by obtain ⟨top, bottom, rfl, _⟩ := zh; rfl) fun zcdv zA zout zst zH zE zB zcs zL zKc zhr zh => ?_
  obtain ⟨top, bottom, rfl, rfl, hpre, zk⟩ := zh
  have nd := sc_quotient_up.nd
  have hSL := sizeLine_eq
  show Exs _ _ _ ⟨[some (.fr (D.int top)), some (.fr (D.int bottom))], []⟩ _
  refine exs_one (ex_ret (ev_neg (ev_bin (o_div (by walk_at "sd") (by walk_at "sd")) (ev_neg (ev_var 0 rfl (.inl rfl) rfl)) (ev_var 1 rfl (.inl rfl) rfl))) ?_)
  have efin : m_quotient_up top bottom = (-((-top) / bottom)) := by simp only [m_quotient_up, not_true_eq_false, not_false_eq_true, ↓reduceIte]
  rw [efin] at zk
  exact zk _
def m_needed_capacity (tasks : List Task) (horizon : Int) : Int :=
  let wanted1 : List Int := (m_joint_demands tasks horizon)
  (maxLD ((List.range ((horizon + (1 : Int)) - (1 : Int)).toNat).map (fun zc2 : Nat => (m_quotient_up (wanted1.getD (((1 : Int) + (zc2 : Int))).toNat default) ((1 : Int) + (zc2 : Int))))) (0 : Int))
theorem maxLD_in {ns : List Int} {d b : Int} (h : ∀ x ∈ ns, 0 ≤ x ∧ x ≤ b) (hd : 0 ≤ d ∧ d ≤ b) : 0 ≤ maxLD ns d ∧ maxLD ns d ≤ b := by
  unfold maxLD
  split
  · exact hd
  · rename_i hne
    exact h _ (maxL_mem fun e => hne (by rw [e]))
theorem nc_in {ts : List Task} {n : Int} (hok : ∀ t ∈ ts, t.ok) (h0 : 1 ≤ n) (h : ∀ x ∈ m_joint_demands ts n, 0 ≤ x ∧ x ≤ 100000) : 0 ≤ m_needed_capacity ts n ∧ m_needed_capacity ts n ≤ 100000 := by
  unfold m_needed_capacity
  refine maxLD_in (fun x hx => ?_) (by decide)
  obtain ⟨y, hy, rfl⟩ := List.mem_map.mp hx
  have hy := List.mem_range.mp hy
  have hl := joint_len hok (n := n) (by omega)
  have a := h _ (getD_mem (xs := m_joint_demands ts n) (i := ((1 : Int) + (y : Int)).toNat) (by omega))
  have b := quo_b (b := (1 : Int) + (y : Int)) a.1 (by omega)
  try dsimp only
  omega
set_option hygiene false in
local macro_rules | `(tactic| walk_at "pre") => `(tactic| first | exact ⟨hpre.1, by omega, by omega⟩ | exact ⟨by omega, by omega⟩ | exact ⟨by omega, by omega, by omega, by omega, by omega, by omega, by omega⟩ | fail)
theorem sc_needed_capacity : FnScope ["tasks", "horizon", "wanted", "length"] ["tasks", "horizon"] (defScope s_needed_capacity) := ⟨rfl, rfl, rfl, by decide +kernel, rfl, by decide +kernel, by decide +kernel⟩
def sp_needed_capacity : SpN := fun zcs zL zKc => ∃ tasks : List Task, ∃ horizon : Int, zcs = [.fr ((eL eTask) tasks), .fr (D.int horizon)] ∧ zL = [] ∧ ((∀ t ∈ tasks, t.ok) ∧ 1 ≤ horizon ∧ horizon ≤ 1000) ∧ ∀ zL', zKc (.fr (D.int (m_needed_capacity tasks horizon))) zL'
theorem ok_needed_capacity (T : TX P K mg) : FnOk P w K mg base CX0 8 T.a_needed_capacity T.d_needed_capacity ["tasks", "horizon"] (SpOf K mg sp_needed_capacity) := by
  have O_quotient_up := ok_quotient_up (P := P) (w := w) (base := base) T
  have O_joint_demands := ok_joint_demands (P := P) (w := w) (base := base) T
  refine T.F_needed_capacity.okN sc_needed_capacity (fun zcs zL zKc zh => by obtain ⟨tasks, horizon, rfl, _⟩ := zh; rfl) fun zcdv zA zout zst zH zE zB zcs zL zKc zhr zh => ?_
  obtain ⟨tasks, horizon, rfl, rfl, hpre, zk⟩ := zh
  have nd := sc_needed_capacity.nd
  have hSL := sizeLine_eq
  show Exs _ _ _ ⟨[some (.fr ((eL eTask) tasks)), some (.fr (D.int horizon)), none, none], []⟩ _
  refine exs_cons (ex_set 2 (ev_callNewF 100 (ds := [(eL eTask) tasks, D.int horizon]) (xs := ((m_joint_demands tasks horizon)).map D.int) O_joint_demands (zhr.mono (by decide)) T.m_joint_demands T.k_joint_demands T.b_joint_demands (ea_cons (ev_var 0 rfl (.inl rfl) rfl) (ea_cons (ev_var 1 rfl (.inl rfl) rfl) ea_nil)) (by simp [names]) (by decide) (fun _ zkk => ⟨tasks, horizon, rfl, rfl, (by walk_at "pre"), zkk⟩) (by exact rfl)) ?_ nd rfl (.inr rfl))
  show Exs _ _ _ ⟨[some (.fr ((eL eTask) tasks)), some (.fr (D.int horizon)), some (.fr ((eL D.int) (m_joint_demands tasks horizon))), none], []⟩ _
  generalize zg_wanted : (m_joint_demands tasks horizon) = wanted
  show Exs _ _ _ ⟨[some (.fr ((eL eTask) tasks)), some (.fr (D.int horizon)), some (.fr ((eL D.int) wanted)), none], []⟩ _
  have hjl := joint_len hpre.1 (n := horizon) (by omega)
  rw [zg_wanted] at hjl
  refine exs_one (ex_ret (ev_maxLD (ns := ((List.range ((horizon + (1 : Int)) - (1 : Int)).toNat).map (fun zc1 : Nat => (m_quotient_up (wanted.getD (((1 : Int) + (zc1 : Int))).toNat default) ((1 : Int) + (zc1 : Int)))))) (d := (0 : Int)) rfl zhr.units (ea_cons (ev_lcM (enc2 := D.int) 199 (fun zc1 : Nat => (m_quotient_up (wanted.getD (((1 : Int) + (zc1 : Int))).toNat default) ((1 : Int) + (zc1 : Int)))) _ rfl nd (blkOk_by (N := ["tasks", "horizon", "wanted", "length"]) (sc := defScope s_needed_capacity) (own := [(("length" : Str), 3)]) (by decide +kernel)) (src_range2 (ea_cons ev_int (ea_cons (ev_bin o_add (ev_var 1 rfl (.inl rfl) rfl) ev_int) ea_nil)) (by exact rfl) T.n_range (by walk_at "sd") (by walk_at "sd") (by walk_at "sd") (by walk_at "sd")) (by simp [names]) (by decide) (by walk_at "sd") (fun _ zc1 _ zhyzc1 _ _ _ _ _ => (eg_nameC 3 nd rfl (.inl rfl) (by decide) (.inr rfl))) (fun _ zc1 _ zhyzc1 _ _ _ _ _ => (ev_call (ds := [D.int (wanted.getD (((1 : Int) + (zc1 : Int))).toNat default), D.int ((1 : Int) + (zc1 : Int))]) (ds' := []) (dvs := []) (dfs := []) O_quotient_up (zhr.mono (by decide)) T.m_quotient_up T.k_quotient_up T.b_quotient_up .nil (fun _ => .nil) (ea_cons (ev_ix (ix_L (xs := wanted) (enc := D.int) (by exact rfl) (by walk_at "sd") (by walk_at "sd")) (ev_var 2 rfl (.inr (.inl rfl)) rfl) (ev_var 3 rfl (.inl rfl) rfl)) (ea_cons (ev_var 3 rfl (.inl rfl) rfl) ea_nil)) (fun _ zkk => ⟨(wanted.getD (((1 : Int) + (zc1 : Int))).toNat default), ((1 : Int) + (zc1 : Int)), rfl, rfl, (by walk_at "pre"), zkk⟩) (by exact rfl)))) ea_nil) (ek_cons ev_int ek_nil) (by exact rfl) T.n_max) ?_)
  have efin : m_needed_capacity tasks horizon = (maxLD ((List.range ((horizon + (1 : Int)) - (1 : Int)).toNat).map (fun zc1 : Nat => (m_quotient_up (wanted.getD (((1 : Int) + (zc1 : Int))).toNat default) ((1 : Int) + (zc1 : Int))))) (0 : Int)) := by subst zg_wanted; simp only [m_needed_capacity, not_true_eq_false, not_false_eq_true, ↓reduceIte]
  rw [efin] at zk
  exact zk _
def m_is_enough_l0 (period : Int) (budget : Int) (capacity : Int) (zs0 : Unit) (zy0 : Int × Int) : Except Bool (Unit) :=
  if ((m_server_supply period budget zy0.1 capacity) < zy0.2) then .error false else .ok ()
def m_is_enough (wanted : List Int) (period : Int) (budget : Int) (capacity : Int) : Bool :=
  match (runE (m_is_enough_l0 period budget capacity) (enL 0 wanted) ()) with | .error r => r | .ok zs0 => true
theorem en_fst {τ : Type} : ∀ (xs : List τ) (k i : Nat) (y : Int × τ), (enL k xs)[i]? = some y → y.1 = ((k + i : Nat) : Int) ∧ i < xs.length
  | [], k, i, y, h => by cases h
  | x :: r, k, 0, y, h => by
    cases h
    exact ⟨rfl, Nat.succ_pos _⟩
  | x :: r, k, i + 1, y, h => by
    have := en_fst r (k + 1) i y h
    exact ⟨by rw [this.1]; congr 1; omega, by rw [List.length_cons]; omega⟩
set_option hygiene false in
local macro_rules | `(tactic| walk_at "pre") => `(tactic| first | exact ⟨by omega, by omega, by omega, by omega, by omega, by omega, by omega, by omega⟩ | fail)
theorem sc_is_enough : FnScope ["wanted", "period", "budget", "capacity", "length", "units"] ["wanted", "period", "budget", "capacity"] (defScope s_is_enough) := ⟨rfl, rfl, rfl, by decide +kernel, rfl, by decide +kernel, by decide +kernel⟩
def sp_is_enough : SpN := fun zcs zL zKc => ∃ wanted : List Int, ∃ period : Int, ∃ budget : Int, ∃ capacity : Int, zcs = [.fr ((eL D.int) wanted), .fr (D.int period), .fr (D.int budget), .fr (D.int capacity)] ∧ zL = [] ∧ (wanted.length ≤ 1001 ∧ 1 ≤ period ∧ period ≤ 8 ∧ 0 ≤ budget ∧ budget ≤ 1000 ∧ 0 ≤ capacity ∧ capacity ≤ 1000) ∧ ∀ zL', zKc (.fr (D.bl (m_is_enough wanted period budget capacity))) zL'
theorem ok_is_enough (T : TX P K mg) : FnOk P w K mg base CX0 2 T.a_is_enough T.d_is_enough ["wanted", "period", "budget", "capacity"] (SpOf K mg sp_is_enough) := by
  have O_server_supply := ok_server_supply (P := P) (w := w) (base := base) T
  refine T.F_is_enough.okN sc_is_enough (fun zcs zL zKc zh => by obtain ⟨wanted, period, budget, capacity, rfl, _⟩ := zh; rfl) fun zcdv zA zout zst zH zE zB zcs zL zKc zhr zh => ?_
  obtain ⟨wanted, period, budget, capacity, rfl, rfl, hpre, zk⟩ := zh
  have nd := sc_is_enough.nd
  have hSL := sizeLine_eq
  show Exs _ _ _ ⟨[some (.fr ((eL D.int) wanted)), some (.fr (D.int period)), some (.fr (D.int budget)), some (.fr (D.int capacity)), none, none], []⟩ _
  refine exs_cons (ex_forE (enc := (eT2 D.int D.int)) (fun (zs0 : Unit) => (⟨[some (.fr ((eL D.int) wanted)), some (.fr (D.int period)), some (.fr (D.int budget)), some (.fr (D.int capacity)), none, none], []⟩ : Nz.S)) (m_is_enough_l0 period budget capacity) () (fun (zi0 : Nat) (zs0 : Unit) => True) (fun r c S' => c = .fr (D.bl r) ∧ True) (src_enumL (enc := D.int) (xs := wanted) (ea_cons (ev_var 0 rfl (.inl rfl) rfl) ea_nil) (by exact rfl) T.n_enumerate) ⟨⟨.inr rfl, .inr rfl, .inr rfl, .inr rfl, .inl rfl, .inl rfl, trivial⟩, rfl⟩ trivial ?_ ?_ ?_ PassesOwn.never rfl)
  · intro zi0 zy0 zs0 zhy0 zrun0 zq0
    skip
    have hen := en_fst wanted 0 zi0 zy0 zhy0
    refine ⟨⟨[some (.fr ((eL D.int) wanted)), some (.fr (D.int period)), some (.fr (D.int budget)), some (.fr (D.int capacity)), some (.fr (D.int zy0.1)), some (.fr (D.int zy0.2))], []⟩, (eg_tup rfl (egs_cons (eg_name 4 nd rfl (.inl rfl)) (egs_cons (eg_name 5 nd rfl (.inl rfl)) egs_nil))), ?_⟩
    refine exs_one (ex_ifP bd_d (et_cmp o_lt (ev_callKw0 (es' := [D.int period, D.int budget, D.int zy0.1, D.int capacity]) (ks := ["period", "budget", "length", "capacity"]) O_server_supply (zhr.mono (by decide)) T.m_server_supply T.k_server_supply T.kb_server_supply_0_period_budget_length_capacity (ek_cons (ev_var 1 rfl (.inl rfl) rfl) (ek_cons (ev_var 2 rfl (.inl rfl) rfl) (ek_cons (ev_var 4 rfl (.inl rfl) rfl) (ek_cons (ev_var 3 rfl (.inl rfl) rfl) ek_nil)))) rfl (fun _ zkk => ⟨period, budget, zy0.1, capacity, rfl, rfl, (by walk_at "pre"), zkk⟩) (by exact rfl)) (ev_var 5 rfl (.inl rfl) rfl) (nomark _)) (fun (zh1 : ((m_server_supply period budget zy0.1 capacity) < zy0.2)) => ?_) (fun (zh1 : ¬ ((m_server_supply period budget zy0.1 capacity) < zy0.2)) => ?_))
    · skip
      refine exs_one (ex_ret ev_bl ?_)
      have est : (m_is_enough_l0 period budget capacity) zs0 zy0 = .error false := by simp only [m_is_enough_l0, not_true_eq_false, not_false_eq_true, ↓reduceIte, ↓if_pos zh1]
      exact ⟨_, est, rfl, trivial⟩
    · skip
      refine exs_nil ?_
      have est : (m_is_enough_l0 period budget capacity) zs0 zy0 = .ok () := by simp only [m_is_enough_l0, not_true_eq_false, not_false_eq_true, ↓reduceIte, ↓if_neg zh1]
      exact ⟨_, est, ⟨⟨.inr rfl, .inr rfl, .inr rfl, .inr rfl, .inl rfl, .inl rfl, trivial⟩, rfl⟩, trivial⟩
  · rintro zr zc zS zrun0 ⟨rfl, zhL⟩
    skip
    have zh2 := zrun0
    have efin : m_is_enough wanted period budget capacity = zr := by simp only [m_is_enough, not_true_eq_false, not_false_eq_true, ↓reduceIte, ↓zh2]
    rw [efin] at zk
    exact zk _
  · intro zs0 zrun0 zq0
    have zh3 := zrun0
    show Exs _ _ _ ⟨[some (.fr ((eL D.int) wanted)), some (.fr (D.int period)), some (.fr (D.int budget)), some (.fr (D.int capacity)), none, none], []⟩ _
    refine exs_one (ex_ret ev_bl ?_)
    have efin : m_is_enough wanted period budget capacity = true := by simp only [m_is_enough, not_true_eq_false, not_false_eq_true, ↓reduceIte, ↓zh3]
    rw [efin] at zk
    exact zk _
def m_needed_budget_l0 (period : Int) (capacity : Int) (wanted : List Int) (zs0 : Unit) (zy0 : Nat) : Except (Option Int) (Unit) :=
  if ((m_is_enough wanted period ((0 : Int) + (zy0 : Int)) capacity) = true) then .error (some ((0 : Int) + (zy0 : Int))) else .ok ()
def m_needed_budget (tasks : List Task) (period : Int) (horizon : Int) (capacity : Int) : Option Int :=
  let wanted1 : List Int := (m_joint_demands tasks horizon)
  match (runE (m_needed_budget_l0 period capacity wanted1) (List.range ((period + (1 : Int))).toNat) ()) with | .error r => r | .ok zs0 => (none : Option Int)
set_option hygiene false in
local macro_rules | `(tactic| walk_at "pre") => `(tactic| first | exact ⟨hpre.1, by omega, by omega⟩ | exact ⟨by omega, by omega⟩ | exact ⟨by omega, by omega, by omega, by omega, by omega, by omega, by omega⟩ | fail)
theorem sc_needed_budget : FnScope ["tasks", "period", "horizon", "capacity", "wanted", "budget"] ["tasks", "period", "horizon", "capacity"] (defScope s_needed_budget) := ⟨rfl, rfl, rfl, by decide +kernel, rfl, by decide +kernel, by decide +kernel⟩
def sp_needed_budget : SpN := fun zcs zL zKc => ∃ tasks : List Task, ∃ period : Int, ∃ horizon : Int, ∃ capacity : Int, zcs = [.fr ((eL eTask) tasks), .fr (D.int period), .fr (D.int horizon), .fr (D.int capacity)] ∧ zL = [] ∧ ((∀ t ∈ tasks, t.ok) ∧ 1 ≤ horizon ∧ horizon ≤ 1000 ∧ 1 ≤ period ∧ period ≤ 8 ∧ 0 ≤ capacity ∧ capacity ≤ 1000) ∧ ∀ zL', zKc (.fr ((eO D.int) (m_needed_budget tasks period horizon capacity))) zL'
theorem ok_needed_budget (T : TX P K mg) : FnOk P w K mg base CX0 8 T.a_needed_budget T.d_needed_budget ["tasks", "period", "horizon", "capacity"] (SpOf K mg sp_needed_budget) := by
  have O_is_enough := ok_is_enough (P := P) (w := w) (base := base) T
  have O_joint_demands := ok_joint_demands (P := P) (w := w) (base := base) T
  refine T.F_needed_budget.okN sc_needed_budget (fun zcs zL zKc zh => by obtain ⟨tasks, period, horizon, capacity, rfl, _⟩ := zh; rfl) fun zcdv zA zout zst zH zE zB zcs zL zKc zhr zh => ?_
  obtain ⟨tasks, period, horizon, capacity, rfl, rfl, hpre, zk⟩ := zh
  have nd := sc_needed_budget.nd
  have hSL := sizeLine_eq
  show Exs _ _ _ ⟨[some (.fr ((eL eTask) tasks)), some (.fr (D.int period)), some (.fr (D.int horizon)), some (.fr (D.int capacity)), none, none], []⟩ _
  refine exs_cons (ex_set 4 (ev_callNewF 100 (ds := [(eL eTask) tasks, D.int horizon]) (xs := ((m_joint_demands tasks horizon)).map D.int) O_joint_demands (zhr.mono (by decide)) T.m_joint_demands T.k_joint_demands T.b_joint_demands (ea_cons (ev_var 0 rfl (.inl rfl) rfl) (ea_cons (ev_var 2 rfl (.inl rfl) rfl) ea_nil)) (by simp [names]) (by decide) (fun _ zkk => ⟨tasks, horizon, rfl, rfl, (by walk_at "pre"), zkk⟩) (by exact rfl)) ?_ nd rfl (.inl rfl))
  show Exs _ _ _ ⟨[some (.fr ((eL eTask) tasks)), some (.fr (D.int period)), some (.fr (D.int horizon)), some (.fr (D.int capacity)), some (.fr ((eL D.int) (m_joint_demands tasks horizon))), none], []⟩ _
  generalize zg_wanted : (m_joint_demands tasks horizon) = wanted
  show Exs _ _ _ ⟨[some (.fr ((eL eTask) tasks)), some (.fr (D.int period)), some (.fr (D.int horizon)), some (.fr (D.int capacity)), some (.fr ((eL D.int) wanted)), none], []⟩ _
  have hjl := joint_len hpre.1 (n := horizon) (by omega)
  rw [zg_wanted] at hjl
  refine exs_cons (ex_forE (enc := (fun i : Nat => D.int ((0 : Int) + (i : Int)))) (fun (zs0 : Unit) => (⟨[some (.fr ((eL eTask) tasks)), some (.fr (D.int period)), some (.fr (D.int horizon)), some (.fr (D.int capacity)), some (.fr ((eL D.int) wanted)), none], []⟩ : Nz.S)) (m_needed_budget_l0 period capacity wanted) () (fun (zi0 : Nat) (zs0 : Unit) => True) (fun r c S' => c = .fr ((eO D.int) r) ∧ True) (src_range1 (ea_cons (ev_bin o_add (ev_var 1 rfl (.inl rfl) rfl) ev_int) ea_nil) (by exact rfl) T.n_range (by walk_at "sd") (by walk_at "sd")) ⟨⟨.inr rfl, .inr rfl, .inr rfl, .inr rfl, .inr rfl, .inl rfl, trivial⟩, rfl⟩ trivial ?_ ?_ ?_ PassesOwn.never rfl)
  · intro zi0 zy0 zs0 zhy0 zrun0 zq0
    skip
    have hy0 := seq_range zhy0
    have hi := (List.getElem?_eq_some_iff.mp zhy0).1
    simp only [List.length_range] at hi
    refine ⟨⟨[some (.fr ((eL eTask) tasks)), some (.fr (D.int period)), some (.fr (D.int horizon)), some (.fr (D.int capacity)), some (.fr ((eL D.int) wanted)), some (.fr (D.int ((0 : Int) + (zy0 : Int))))], []⟩, (eg_name 5 nd rfl (.inl rfl)), ?_⟩
    refine exs_one (ex_ifP Iff.rfl (et_val (ev_call (ds := [(eL D.int) wanted, D.int period, D.int ((0 : Int) + (zy0 : Int)), D.int capacity]) (ds' := []) (dvs := []) (dfs := []) O_is_enough (zhr.mono (by decide)) T.m_is_enough T.k_is_enough T.b_is_enough .nil (fun _ => .nil) (ea_cons (ev_var 4 rfl (.inl rfl) rfl) (ea_cons (ev_var 1 rfl (.inl rfl) rfl) (ea_cons (ev_var 5 rfl (.inl rfl) rfl) (ea_cons (ev_var 3 rfl (.inl rfl) rfl) ea_nil)))) (fun _ zkk => ⟨wanted, period, ((0 : Int) + (zy0 : Int)), capacity, rfl, rfl, (by walk_at "pre"), zkk⟩) (by exact rfl))) (fun (zh1 : ((m_is_enough wanted period ((0 : Int) + (zy0 : Int)) capacity) = true)) => ?_) (fun (zh1 : ¬ ((m_is_enough wanted period ((0 : Int) + (zy0 : Int)) capacity) = true)) => ?_))
    · skip
      refine exs_one (ex_ret (ev_var 5 rfl (.inl rfl) rfl) ?_)
      have est : (m_needed_budget_l0 period capacity wanted) zs0 zy0 = .error (some ((0 : Int) + (zy0 : Int))) := by simp only [m_needed_budget_l0, not_true_eq_false, not_false_eq_true, ↓reduceIte, ↓if_pos zh1]
      exact ⟨_, est, rfl, trivial⟩
    · skip
      refine exs_nil ?_
      have est : (m_needed_budget_l0 period capacity wanted) zs0 zy0 = .ok () := by simp only [m_needed_budget_l0, not_true_eq_false, not_false_eq_true, ↓reduceIte, ↓if_neg zh1]
      exact ⟨_, est, ⟨⟨.inr rfl, .inr rfl, .inr rfl, .inr rfl, .inr rfl, .inl rfl, trivial⟩, rfl⟩, trivial⟩
  · rintro zr zc zS zrun0 ⟨rfl, zhL⟩
    skip
    have zh2 := zrun0
    have efin : m_needed_budget tasks period horizon capacity = zr := by subst zg_wanted; simp only [m_needed_budget, not_true_eq_false, not_false_eq_true, ↓reduceIte, ↓zh2]
    rw [efin] at zk
    exact zk _
  · intro zs0 zrun0 zq0
    have zh3 := zrun0
    show Exs _ _ _ ⟨[some (.fr ((eL eTask) tasks)), some (.fr (D.int period)), some (.fr (D.int horizon)), some (.fr (D.int capacity)), some (.fr ((eL D.int) wanted)), none], []⟩ _
    refine exs_one (ex_ret ev_non ?_)
    have efin : m_needed_budget tasks period horizon capacity = (none : Option Int) := by subst zg_wanted; simp only [m_needed_budget, not_true_eq_false, not_false_eq_true, ↓reduceIte, ↓zh3]
    rw [efin] at zk
    exact zk _
def m_longest_period_l0 (top : Int) (bottom : Int) (wanted : List Int) (lo0 : Int) (zs0 : Unit) (zy0 : Nat) : Except (Option Int) (Unit) :=
  if ((m_is_enough wanted (lo0 + (zy0 : Int) * -1) (m_quotient_up ((lo0 + (zy0 : Int) * -1) * top) bottom) (1 : Int)) = true) then .error (some (lo0 + (zy0 : Int) * -1)) else .ok ()
def m_longest_period (tasks : List Task) (share : Int × Int) (horizon : Int) (longest : Int) : Option Int :=
  let wanted1 : List Int := (m_joint_demands tasks horizon)
  match (runE (m_longest_period_l0 share.1 share.2 wanted1 longest) (List.range (longest - (0 : Int)).toNat) ()) with | .error r => r | .ok zs0 => (none : Option Int)
set_option hygiene false in
local macro_rules | `(tactic| walk_at "pre") => `(tactic| first | exact ⟨hpre.1, by omega, by omega⟩ | exact ⟨by omega, by omega⟩ | exact ⟨by omega, by omega, by omega, by omega, by omega, by omega, by omega⟩ | fail)
theorem sc_longest_period : FnScope ["tasks", "share", "horizon", "longest", "top", "bottom", "wanted", "period"] ["tasks", "share", "horizon", "longest"] (defScope s_longest_period) := ⟨rfl, rfl, rfl, by decide +kernel, rfl, by decide +kernel, by decide +kernel⟩
def sp_longest_period : SpN := fun zcs zL zKc => ∃ tasks : List Task, ∃ share : Int × Int, ∃ horizon : Int, ∃ longest : Int, zcs = [.fr ((eL eTask) tasks), .fr ((eT2 D.int D.int) share), .fr (D.int horizon), .fr (D.int longest)] ∧ zL = [] ∧ ((∀ t ∈ tasks, t.ok) ∧ 1 ≤ horizon ∧ horizon ≤ 1000 ∧ 1 ≤ longest ∧ longest ≤ 8 ∧ 0 ≤ share.1 ∧ share.1 ≤ share.2 ∧ 1 ≤ share.2 ∧ share.2 ≤ 6) ∧ ∀ zL', zKc (.fr ((eO D.int) (m_longest_period tasks share horizon longest))) zL'
theorem ok_longest_period (T : TX P K mg) : FnOk P w K mg base CX0 8 T.a_longest_period T.d_longest_period ["tasks", "share", "horizon", "longest"] (SpOf K mg sp_longest_period) := by
  have O_is_enough := ok_is_enough (P := P) (w := w) (base := base) T
  have O_quotient_up := ok_quotient_up (P := P) (w := w) (base := base) T
  have O_joint_demands := ok_joint_demands (P := P) (w := w) (base := base) T
  refine T.F_longest_period.okN sc_longest_period (fun zcs zL zKc zh => by obtain ⟨tasks, share, horizon, longest, rfl, _⟩ := zh; rfl) fun zcdv zA zout zst zH zE zB zcs zL zKc zhr zh => ?_
  obtain ⟨tasks, share, horizon, longest, rfl, rfl, hpre, zk⟩ := zh
  have nd := sc_longest_period.nd
  have hSL := sizeLine_eq
  show Exs _ _ _ ⟨[some (.fr ((eL eTask) tasks)), some (.fr ((eT2 D.int D.int) share)), some (.fr (D.int horizon)), some (.fr (D.int longest)), none, none, none, none], []⟩ _
  refine exs_cons (ex_asg (ev_var 1 rfl (.inl rfl) rfl) (eg_tup rfl (egs_cons (eg_name 4 nd rfl (.inl rfl)) (egs_cons (eg_name 5 nd rfl (.inl rfl)) egs_nil))) ?_)
  show Exs _ _ _ ⟨[some (.fr ((eL eTask) tasks)), some (.fr ((eT2 D.int D.int) share)), some (.fr (D.int horizon)), some (.fr (D.int longest)), some (.fr (D.int share.1)), some (.fr (D.int share.2)), none, none], []⟩ _
  refine exs_cons (ex_set 6 (ev_callNewF 100 (ds := [(eL eTask) tasks, D.int horizon]) (xs := ((m_joint_demands tasks horizon)).map D.int) O_joint_demands (zhr.mono (by decide)) T.m_joint_demands T.k_joint_demands T.b_joint_demands (ea_cons (ev_var 0 rfl (.inl rfl) rfl) (ea_cons (ev_var 2 rfl (.inl rfl) rfl) ea_nil)) (by simp [names]) (by decide) (fun _ zkk => ⟨tasks, horizon, rfl, rfl, (by walk_at "pre"), zkk⟩) (by exact rfl)) ?_ nd rfl (.inl rfl))
  show Exs _ _ _ ⟨[some (.fr ((eL eTask) tasks)), some (.fr ((eT2 D.int D.int) share)), some (.fr (D.int horizon)), some (.fr (D.int longest)), some (.fr (D.int share.1)), some (.fr (D.int share.2)), some (.fr ((eL D.int) (m_joint_demands tasks horizon))), none], []⟩ _
  generalize zg_wanted : (m_joint_demands tasks horizon) = wanted
  show Exs _ _ _ ⟨[some (.fr ((eL eTask) tasks)), some (.fr ((eT2 D.int D.int) share)), some (.fr (D.int horizon)), some (.fr (D.int longest)), some (.fr (D.int share.1)), some (.fr (D.int share.2)), some (.fr ((eL D.int) wanted)), none], []⟩ _
  have hjl := joint_len hpre.1 (n := horizon) (by omega)
  rw [zg_wanted] at hjl
  refine exs_cons (ex_forE (enc := (fun k : Nat => D.int (longest + (k : Int) * -1))) (fun (zs0 : Unit) => (⟨[some (.fr ((eL eTask) tasks)), some (.fr ((eT2 D.int D.int) share)), some (.fr (D.int horizon)), some (.fr (D.int longest)), some (.fr (D.int share.1)), some (.fr (D.int share.2)), some (.fr ((eL D.int) wanted)), none], []⟩ : Nz.S)) (m_longest_period_l0 share.1 share.2 wanted longest) () (fun (zi0 : Nat) (zs0 : Unit) => True) (fun r c S' => c = .fr ((eO D.int) r) ∧ True) (src_rangeD (ea_cons (ev_var 3 rfl (.inl rfl) rfl) (ea_cons ev_int (ea_cons (ev_neg ev_int) ea_nil))) (by exact rfl) T.n_range (by walk_at "sd") (by walk_at "sd") (by walk_at "sd") (by walk_at "sd")) ⟨⟨.inr rfl, .inr rfl, .inr rfl, .inr rfl, .inr rfl, .inr rfl, .inr rfl, .inl rfl, trivial⟩, rfl⟩ trivial ?_ ?_ ?_ PassesOwn.never rfl)
  · intro zi0 zy0 zs0 zhy0 zrun0 zq0
    skip
    have hi := (List.getElem?_eq_some_iff.mp zhy0).1
    simp only [List.length_range] at hi
    have hy0 := seq_range zhy0
    have hm9 : 0 ≤ (longest + (zy0 : Int) * -1) * share.1 ∧ (longest + (zy0 : Int) * -1) * share.1 ≤ 8 * 6 := ⟨Int.mul_nonneg (by omega) (by omega), Int.mul_le_mul (by omega) (by omega) (by omega) (by decide)⟩
    have hqb := quo_b (b := share.2) hm9.1 (by omega)
    refine ⟨⟨[some (.fr ((eL eTask) tasks)), some (.fr ((eT2 D.int D.int) share)), some (.fr (D.int horizon)), some (.fr (D.int longest)), some (.fr (D.int share.1)), some (.fr (D.int share.2)), some (.fr ((eL D.int) wanted)), some (.fr (D.int (longest + (zy0 : Int) * -1)))], []⟩, (eg_name 7 nd rfl (.inl rfl)), ?_⟩
    refine exs_one (ex_ifP Iff.rfl (et_val (ev_call (ds := [(eL D.int) wanted, D.int (longest + (zy0 : Int) * -1), D.int (m_quotient_up ((longest + (zy0 : Int) * -1) * share.1) share.2), D.int (1 : Int)]) (ds' := []) (dvs := []) (dfs := []) O_is_enough (zhr.mono (by decide)) T.m_is_enough T.k_is_enough T.b_is_enough .nil (fun _ => .nil) (ea_cons (ev_var 6 rfl (.inl rfl) rfl) (ea_cons (ev_var 7 rfl (.inl rfl) rfl) (ea_cons (ev_call (ds := [D.int ((longest + (zy0 : Int) * -1) * share.1), D.int share.2]) (ds' := []) (dvs := []) (dfs := []) O_quotient_up (zhr.mono (by decide)) T.m_quotient_up T.k_quotient_up T.b_quotient_up .nil (fun _ => .nil) (ea_cons (ev_bin (o_mul (by walk_at "mul")) (ev_var 7 rfl (.inl rfl) rfl) (ev_var 4 rfl (.inl rfl) rfl)) (ea_cons (ev_var 5 rfl (.inl rfl) rfl) ea_nil)) (fun _ zkk => ⟨((longest + (zy0 : Int) * -1) * share.1), share.2, rfl, rfl, (by walk_at "pre"), zkk⟩) (by exact rfl)) (ea_cons ev_int ea_nil)))) (fun _ zkk => ⟨wanted, (longest + (zy0 : Int) * -1), (m_quotient_up ((longest + (zy0 : Int) * -1) * share.1) share.2), (1 : Int), rfl, rfl, (by walk_at "pre"), zkk⟩) (by exact rfl))) (fun (zh1 : ((m_is_enough wanted (longest + (zy0 : Int) * -1) (m_quotient_up ((longest + (zy0 : Int) * -1) * share.1) share.2) (1 : Int)) = true)) => ?_) (fun (zh1 : ¬ ((m_is_enough wanted (longest + (zy0 : Int) * -1) (m_quotient_up ((longest + (zy0 : Int) * -1) * share.1) share.2) (1 : Int)) = true)) => ?_))
    · skip
      refine exs_one (ex_ret (ev_var 7 rfl (.inl rfl) rfl) ?_)
      have est : (m_longest_period_l0 share.1 share.2 wanted longest) zs0 zy0 = .error (some (longest + (zy0 : Int) * -1)) := by simp only [m_longest_period_l0, not_true_eq_false, not_false_eq_true, ↓reduceIte, ↓if_pos zh1]
      exact ⟨_, est, rfl, trivial⟩
    · skip
      refine exs_nil ?_
      have est : (m_longest_period_l0 share.1 share.2 wanted longest) zs0 zy0 = .ok () := by simp only [m_longest_period_l0, not_true_eq_false, not_false_eq_true, ↓reduceIte, ↓if_neg zh1]
      exact ⟨_, est, ⟨⟨.inr rfl, .inr rfl, .inr rfl, .inr rfl, .inr rfl, .inr rfl, .inr rfl, .inl rfl, trivial⟩, rfl⟩, trivial⟩
  · rintro zr zc zS zrun0 ⟨rfl, zhL⟩
    skip
    have zh2 := zrun0
    have efin : m_longest_period tasks share horizon longest = zr := by subst zg_wanted; simp only [m_longest_period, not_true_eq_false, not_false_eq_true, ↓reduceIte, ↓zh2]
    rw [efin] at zk
    exact zk _
  · intro zs0 zrun0 zq0
    have zh3 := zrun0
    show Exs _ _ _ ⟨[some (.fr ((eL eTask) tasks)), some (.fr ((eT2 D.int D.int) share)), some (.fr (D.int horizon)), some (.fr (D.int longest)), some (.fr (D.int share.1)), some (.fr (D.int share.2)), some (.fr ((eL D.int) wanted)), none], []⟩ _
    refine exs_one (ex_ret ev_non ?_)
    have efin : m_longest_period tasks share horizon longest = (none : Option Int) := by subst zg_wanted; simp only [m_longest_period, not_true_eq_false, not_false_eq_true, ↓reduceIte, ↓zh3]
    rw [efin] at zk
    exact zk _
def m_law_is_integer (actual : Int) : Bool :=
  (true && (!false))
theorem sc_law_is_integer : FnScope ["_law_actual"] ["_law_actual"] (defScope s_law_is_integer) := ⟨rfl, rfl, rfl, by decide +kernel, rfl, by decide +kernel, by decide +kernel⟩
def sp_law_is_integer : SpN := fun zcs zL zKc => ∃ actual : Int, zcs = [.fr (D.int actual)] ∧ zL = [] ∧ (True) ∧ ∀ zL', zKc (.fr (D.bl (m_law_is_integer actual))) zL'
theorem ok_law_is_integer (T : TX P K mg) : FnOk P w K mg base CX0 1 T.a_law_is_integer T.d_law_is_integer ["_law_actual"] (SpOf K mg sp_law_is_integer) := by
  refine T.F_law_is_integer.okN sc_law_is_integer (fun zcs zL zKc zh => by obtain ⟨actual, rfl, _⟩ := zh; rfl) fun zcdv zA zout zst zH zE zB zcs zL zKc zhr zh => ?_
  obtain ⟨actual, rfl, rfl, hpre, zk⟩ := zh
  have nd := sc_law_is_integer.nd
  have hSL := sizeLine_eq
  show Exs _ _ _ ⟨[some (.fr (D.int actual))], []⟩ _
  refine exs_one (ex_ret (ev_andP Iff.rfl (ev_isi (T := "int") (b := true) (ev_var 0 rfl (.inl rfl) rfl) rfl (by decide) (by exact rfl) T.n_isinstance (by exact rfl) T.n_int (by decide +kernel)) (fun zhp => (ev_one (ev_not (ev_isi (T := "bool") (b := false) (ev_var 0 rfl (.inl rfl) rfl) rfl (by decide) (by exact rfl) T.n_isinstance (by exact rfl) T.n_bool (by decide +kernel)))))) ?_)
  have efin : m_law_is_integer actual = (true && (!false)) := by simp only [m_law_is_integer, not_true_eq_false, not_false_eq_true, ↓reduceIte]
  rw [efin] at zk
  exact zk _
def m_law_is_integero (actual : Option Int) : Bool :=
  ((actual.isSome && true) && (!(actual.isSome && false)))
theorem sc_law_is_integero : FnScope ["_law_actual"] ["_law_actual"] (defScope s_law_is_integero) := ⟨rfl, rfl, rfl, by decide +kernel, rfl, by decide +kernel, by decide +kernel⟩
def sp_law_is_integero : SpN := fun zcs zL zKc => ∃ actual : Option Int, zcs = [.fr ((eO D.int) actual)] ∧ zL = [] ∧ (True) ∧ ∀ zL', zKc (.fr (D.bl (m_law_is_integero actual))) zL'
theorem ok_law_is_integero (T : TX P K mg) : FnOk P w K mg base CX0 1 T.a_law_is_integero T.d_law_is_integero ["_law_actual"] (SpOf K mg sp_law_is_integero) := by
  refine T.F_law_is_integero.okN sc_law_is_integero (fun zcs zL zKc zh => by obtain ⟨actual, rfl, _⟩ := zh; rfl) fun zcdv zA zout zst zH zE zB zcs zL zKc zhr zh => ?_
  obtain ⟨actual, rfl, rfl, hpre, zk⟩ := zh
  have nd := sc_law_is_integero.nd
  have hSL := sizeLine_eq
  show Exs _ _ _ ⟨[some (.fr ((eO D.int) actual))], []⟩ _
  refine exs_one (ex_ret (ev_andP Iff.rfl (ev_isiO (enc := D.int) (y := actual) (T := "int") (b := true) (ev_var 0 rfl (.inl rfl) rfl) (fun _ => rfl) (by decide) (by decide) (by exact rfl) T.n_isinstance (by exact rfl) T.n_int (by decide +kernel)) (fun zhp => (ev_one (ev_not (ev_isiO (enc := D.int) (y := actual) (T := "bool") (b := false) (ev_var 0 rfl (.inl rfl) rfl) (fun _ => rfl) (by decide) (by decide) (by exact rfl) T.n_isinstance (by exact rfl) T.n_bool (by decide +kernel)))))) ?_)
  have efin : m_law_is_integero actual = ((actual.isSome && true) && (!(actual.isSome && false))) := by simp only [m_law_is_integero, not_true_eq_false, not_false_eq_true, ↓reduceIte]
  rw [efin] at zk
  exact zk _
def m_law_leasts_l1 (table : List Int) (start : Int) (zs1 : (List Int) × Int) (zy1 : Nat) : (List Int) × Int :=
  ((zs1.1.set (((0 : Int) + (zy1 : Int))).toNat (if zs1.2 < (zs1.1.getD (((0 : Int) + (zy1 : Int))).toNat default) then zs1.2 else (zs1.1.getD (((0 : Int) + (zy1 : Int))).toNat default))), (zs1.2 + (table.getD (((start + ((0 : Int) + (zy1 : Int))) % (table.length : Int))).toNat default)))
def m_law_leasts_l0 (table : List Int) (most : Int) (zs0 : (List Int)) (zy0 : Nat) : (List Int) :=
  ((List.range ((most + (1 : Int))).toNat).foldl (m_law_leasts_l1 table ((0 : Int) + (zy0 : Int))) (zs0, (0 : Int))).1
def m_law_leasts (table : List Int) (most : Int) : List Int :=
  ((List.range ((table.length : Int)).toNat).foldl (m_law_leasts_l0 table most) ((List.range ((most + (1 : Int))).toNat).map (fun zc2 : Nat => (table.sum * ((1 : Int) + most)))))
theorem leasts_len1 (t : List Int) (s : Int) : ∀ (ys : List Nat) (u : List Int × Int), (ys.foldl (m_law_leasts_l1 t s) u).1.length = u.1.length
  | [], u => rfl
  | y :: ys, u => by rw [List.foldl_cons, leasts_len1 t s ys]; unfold m_law_leasts_l1; rw [List.length_set]
theorem leasts_len0 (t : List Int) (m : Int) : ∀ (ys : List Nat) (u : List Int), (ys.foldl (m_law_leasts_l0 t m) u).length = u.length
  | [], u => rfl
  | y :: ys, u => by rw [List.foldl_cons, leasts_len0 t m ys]; unfold m_law_leasts_l0; rw [leasts_len1]
theorem leasts_len (t : List Int) {m : Int} (h : 0 ≤ m) : ((m_law_leasts t m).length : Int) = m + 1 := by
  unfold m_law_leasts
  rw [leasts_len0, List.length_map, List.length_range]; omega
theorem sc_law_leasts : FnScope ["_law_table", "_law_most", "_law_leasts_here", "_law_start", "_law_total", "_law_length"] ["_law_table", "_law_most"] (defScope s_law_leasts) := ⟨rfl, rfl, rfl, by decide +kernel, rfl, by decide +kernel, by decide +kernel⟩
def sp_law_leasts : SpN := fun zcs zL zKc => ∃ table : List Int, ∃ most : Int, zcs = [.fr ((eL D.int) table), .fr (D.int most)] ∧ zL = [] ∧ (0 < table.length ∧ table.length ≤ 1001 ∧ 0 ≤ most ∧ most ≤ 1000 ∧ 0 ≤ table.sum ∧ table.sum < 2 ^ 29) ∧ ∀ zL', zKc (.fr ((eL D.int) (m_law_leasts table most))) zL'
theorem ok_law_leasts (T : TX P K mg) : FnOk P w K mg base CX0 1 T.a_law_leasts T.d_law_leasts ["_law_table", "_law_most"] (SpOf K mg sp_law_leasts) := by
  refine T.F_law_leasts.okN sc_law_leasts (fun zcs zL zKc zh => by obtain ⟨table, most, rfl, _⟩ := zh; rfl) fun zcdv zA zout zst zH zE zB zcs zL zKc zhr zh => ?_
  obtain ⟨table, most, rfl, rfl, hpre, zk⟩ := zh
  have nd := sc_law_leasts.nd
  have hSL := sizeLine_eq
  show Exs _ _ _ ⟨[some (.fr ((eL D.int) table)), some (.fr (D.int most)), none, none, none, none], []⟩ _
  refine exs_cons (ex_setLcML 2 (enc2 := D.int) 100 (fun zc1 : Nat => (table.sum * ((1 : Int) + most))) _ rfl nd rfl rfl (sw_true rfl rfl rfl (by decide +kernel)) (blkOk_by (N := ["_law_table", "_law_most", "_law_leasts_here", "_law_start", "_law_total", "_law_length"]) (sc := defScope s_law_leasts) (own := [(("_law_length" : Str), 5)]) (by decide +kernel)) (src_range1 (ea_cons (ev_bin o_add (ev_var 1 rfl (.inr (.inl rfl)) rfl) ev_int) ea_nil) (by exact rfl) T.n_range (by walk_at "sd") (by walk_at "sd")) (by simp [names]) (by decide) (by walk_at "sd") (fun _ zc1 _ zhyzc1 _ _ _ _ _ => (eg_nameC 5 nd rfl (.inl rfl) (by decide) (.inr rfl))) (fun _ zc1 _ zhyzc1 _ _ _ _ _ => (ev_bin (o_mul (by walk_at "mul")) (ev_callB (ds := [(eL D.int) table]) (c_sumL rfl) (ea_cons (ev_var 0 rfl (.inr (.inl rfl)) rfl) ea_nil) (by exact rfl) T.n_sum (by decide +kernel)) (ev_bin o_add ev_int (ev_var 1 rfl (.inr (.inl rfl)) rfl)))) ?_)
  show Exs _ _ _ ⟨[some (.fr ((eL D.int) table)), some (.fr (D.int most)), some (.ad 100), none, none, none], [(100, .fl ((((List.range ((most + (1 : Int))).toNat).map (fun zc1 : Nat => (table.sum * ((1 : Int) + most))))).map D.int))]⟩ _
  generalize zg_leasts : ((List.range ((most + (1 : Int))).toNat).map (fun zc1 : Nat => (table.sum * ((1 : Int) + most)))) = leasts
  show Exs _ _ _ ⟨[some (.fr ((eL D.int) table)), some (.fr (D.int most)), some (.ad 100), none, none, none], [(100, .fl ((leasts).map D.int))]⟩ _
  refine exs_cons (ex_forF (enc := (fun i : Nat => D.int ((0 : Int) + (i : Int)))) (fun (zs0 : (List Int)) => (⟨[some (.fr ((eL D.int) table)), some (.fr (D.int most)), some (.ad 100), none, none, none], [(100, .fl ((zs0).map D.int))]⟩ : Nz.S)) (m_law_leasts_l0 table most) leasts (fun (zi0 : Nat) (zs0 : (List Int)) => (zs0.length : Int) = most + 1) (src_range1 (ea_cons (ev_len (ln_L (xs := table) (enc := D.int) (by exact rfl)) (ev_var 0 rfl (.inr (.inl rfl)) rfl) (by exact rfl) T.n_len) ea_nil) (by exact rfl) T.n_range (by walk_at "sd") (by walk_at "sd")) ⟨⟨.inr rfl, .inr rfl, .inr rfl, .inl rfl, .inl rfl, .inl rfl, trivial⟩, rfl⟩ (by rw [← zg_leasts, List.length_map, List.length_range]; omega) ?_ ?_ PassesOwn.never rfl)
  · intro zi0 zy0 zs0 zhy0 zq0
    skip
    have hy0 := seq_range zhy0
    have hi := (List.getElem?_eq_some_iff.mp zhy0).1
    simp only [List.length_range] at hi
    refine ⟨⟨[some (.fr ((eL D.int) table)), some (.fr (D.int most)), some (.ad 100), some (.fr (D.int ((0 : Int) + (zy0 : Int)))), none, none], [(100, .fl ((zs0).map D.int))]⟩, (eg_name 3 nd rfl (.inl rfl)), ?_⟩
    refine exs_cons (ex_set 4 ev_int ?_ nd rfl (.inl rfl))
    show Exs _ _ _ ⟨[some (.fr ((eL D.int) table)), some (.fr (D.int most)), some (.ad 100), some (.fr (D.int ((0 : Int) + (zy0 : Int)))), some (.fr (D.int (0 : Int))), none], [(100, .fl ((zs0).map D.int))]⟩ _
    refine exs_one (ex_forF (enc := (fun i : Nat => D.int ((0 : Int) + (i : Int)))) (fun (zs1 : (List Int) × Int) => (⟨[some (.fr ((eL D.int) table)), some (.fr (D.int most)), some (.ad 100), some (.fr (D.int ((0 : Int) + (zy0 : Int)))), some (.fr (D.int zs1.2)), none], [(100, .fl ((zs1.1).map D.int))]⟩ : Nz.S)) (m_law_leasts_l1 table ((0 : Int) + (zy0 : Int))) (zs0, (0 : Int)) (fun (zi1 : Nat) (zs1 : (List Int) × Int) => (zs1.1.length : Int) = most + 1) (src_range1 (ea_cons (ev_bin o_add (ev_var 1 rfl (.inr (.inl rfl)) rfl) ev_int) ea_nil) (by exact rfl) T.n_range (by walk_at "sd") (by walk_at "sd")) ⟨⟨.inr rfl, .inr rfl, .inr rfl, .inr rfl, .inr rfl, .inl rfl, trivial⟩, rfl⟩ zq0 ?_ ?_ PassesOwn.never rfl)
    · intro zi1 zy1 zs1 zhy1 zq1
      skip
      have hy1 := seq_range zhy1
      have hi1 := (List.getElem?_eq_some_iff.mp zhy1).1
      simp only [List.length_range] at hi1
      have hd1 := Int.emod_lt_of_pos ((0 : Int) + (zy0 : Int) + ((0 : Int) + (zy1 : Int))) (show (0 : Int) < (table.length : Int) by omega)
      have hd2 := Int.emod_nonneg ((0 : Int) + (zy0 : Int) + ((0 : Int) + (zy1 : Int))) (show (table.length : Int) ≠ 0 by omega)
      refine ⟨⟨[some (.fr ((eL D.int) table)), some (.fr (D.int most)), some (.ad 100), some (.fr (D.int ((0 : Int) + (zy0 : Int)))), some (.fr (D.int zs1.2)), some (.fr (D.int ((0 : Int) + (zy1 : Int))))], [(100, .fl ((zs1.1).map D.int))]⟩, (eg_name 5 nd rfl (.inl rfl)), ?_⟩
      refine exs_cons (ex_setIT 100 (enc := D.int) (xs := zs1.1) (if zs1.2 < (zs1.1.getD (((0 : Int) + (zy1 : Int))).toNat default) then zs1.2 else (zs1.1.getD (((0 : Int) + (zy1 : Int))).toNat default)) rfl (by exact rfl) (by walk_at "sd") (by walk_at "sd") (ev_callB (ds := [D.int (zs1.1.getD (((0 : Int) + (zy1 : Int))).toNat default), D.int zs1.2]) (c_min2 rfl) (ea_cons (ev_ix (ix_L (xs := zs1.1) (enc := D.int) (by exact rfl) (by walk_at "sd") (by walk_at "sd")) (ev_var 2 rfl (.inl rfl) rfl) (ev_var 5 rfl (.inl rfl) rfl)) (ea_cons (ev_var 4 rfl (.inl rfl) rfl) ea_nil)) (by exact rfl) T.n_min (by decide +kernel)) (ev_var 2 rfl (.inl rfl) rfl) (ev_var 5 rfl (.inl rfl) rfl) ?_)
      show Exs _ _ _ ⟨[some (.fr ((eL D.int) table)), some (.fr (D.int most)), some (.ad 100), some (.fr (D.int ((0 : Int) + (zy0 : Int)))), some (.fr (D.int zs1.2)), some (.fr (D.int ((0 : Int) + (zy1 : Int))))], [(100, .fl (((zs1.1.set (((0 : Int) + (zy1 : Int))).toNat (if zs1.2 < (zs1.1.getD (((0 : Int) + (zy1 : Int))).toNat default) then zs1.2 else (zs1.1.getD (((0 : Int) + (zy1 : Int))).toNat default)))).map D.int))]⟩ _
      refine exs_one (ex_set 4 (ev_bin o_add (ev_var 4 rfl (.inl rfl) rfl) (ev_ix (ix_L (xs := table) (enc := D.int) (by exact rfl) (by walk_at "sd") (by walk_at "sd")) (ev_var 0 rfl (.inr (.inl rfl)) rfl) (ev_bin (o_mod (by walk_at "sd")) (ev_bin o_add (ev_var 3 rfl (.inl rfl) rfl) (ev_var 5 rfl (.inl rfl) rfl)) (ev_len (ln_L (xs := table) (enc := D.int) (by exact rfl)) (ev_var 0 rfl (.inr (.inl rfl)) rfl) (by exact rfl) T.n_len)))) ?_ nd rfl (.inl rfl))
      have est : (m_law_leasts_l1 table ((0 : Int) + (zy0 : Int))) zs1 zy1 = ((zs1.1.set (((0 : Int) + (zy1 : Int))).toNat (if zs1.2 < (zs1.1.getD (((0 : Int) + (zy1 : Int))).toNat default) then zs1.2 else (zs1.1.getD (((0 : Int) + (zy1 : Int))).toNat default))), (zs1.2 + (table.getD (((((0 : Int) + (zy0 : Int)) + ((0 : Int) + (zy1 : Int))) % (table.length : Int))).toNat default))) := by simp only [m_law_leasts_l1, not_true_eq_false, not_false_eq_true, ↓reduceIte]
      show Le _ _ ∧ _
      try rw [est]
      exact ⟨⟨⟨.inr rfl, .inr rfl, .inr rfl, .inr rfl, .inr rfl, .inl rfl, trivial⟩, rfl⟩, (by rw [List.length_set]; exact zq1)⟩
    · intro zq1
      have hlq := zq1
      have est : (m_law_leasts_l0 table most) zs0 zy0 = ((List.range ((most + (1 : Int))).toNat).foldl (m_law_leasts_l1 table ((0 : Int) + (zy0 : Int))) (zs0, (0 : Int))).1 := by simp only [m_law_leasts_l0, not_true_eq_false, not_false_eq_true, ↓reduceIte]
      show Le _ _ ∧ _
      try rw [est]
      exact ⟨⟨⟨.inr rfl, .inr rfl, .inr rfl, .inl rfl, .inl rfl, .inl rfl, trivial⟩, rfl⟩, hlq⟩
  · intro zq0
    show Exs _ _ _ ⟨[some (.fr ((eL D.int) table)), some (.fr (D.int most)), some (.ad 100), none, none, none], [(100, .fl ((((List.range ((table.length : Int)).toNat).foldl (m_law_leasts_l0 table most) leasts)).map D.int))]⟩ _
    refine exs_freezeT 100 (xs := ((List.range ((table.length : Int)).toNat).foldl (m_law_leasts_l0 table most) leasts)) (enc := D.int) (by exact rfl) ?_
    show Exs _ _ _ ⟨[some (.fr ((eL D.int) table)), some (.fr (D.int most)), some (.fr ((eL D.int) ((List.range ((table.length : Int)).toNat).foldl (m_law_leasts_l0 table most) leasts))), none, none, none], []⟩ _
    refine exs_one (ex_ret (ev_var 2 rfl (.inl rfl) rfl) ?_)
    have efin : m_law_leasts table most = ((List.range ((table.length : Int)).toNat).foldl (m_law_leasts_l0 table most) leasts) := by subst zg_leasts; simp only [m_law_leasts, not_true_eq_false, not_false_eq_true, ↓reduceIte]
    rw [efin] at zk
    exact zk _
def m_law_demands_l2 (rows : List (List (Str × Int))) (size : Int) (kind : Str × Int × Int) (zs2 : Int) (zy2 : Str × Str × Int) : Int :=
  if ((zy2.1 = kind.1) ∧ (zy2.2.2 ≤ size)) then (if ((dget (rows.getD ((size - zy2.2.2)).toNat default) zy2.2.1).getD default) > zs2 then ((dget (rows.getD ((size - zy2.2.2)).toNat default) zy2.2.1).getD default) else zs2) else zs2
def m_law_demands_l1 (ways : List (Str × Str × Int)) (rows : List (List (Str × Int))) (size : Int) (zs1 : (List (Str × Int))) (zy1 : Str × Int × Int) : (List (Str × Int)) :=
  (dput zs1 zy1.1 ((zy1.2.1 * (if (decide (zy1.2.2 ≤ size)) = true then (1 : Int) else 0)) + (ways.foldl (m_law_demands_l2 rows size zy1) (0 : Int))))
def m_law_demands_l0 (kinds : List (Str × Int × Int)) (ways : List (Str × Str × Int)) (zs0 : (List (List (Str × Int)))) (zy0 : Nat) : (List (List (Str × Int))) :=
  (zs0 ++ [(kinds.foldl (m_law_demands_l1 ways zs0 ((0 : Int) + (zy0 : Int))) ([] : List (Str × Int)))])
def m_law_demands (kinds : List (Str × Int × Int)) (ways : List (Str × Str × Int)) (length : Int) : List Int :=
  (((List.range ((length + (1 : Int))).toNat).foldl (m_law_demands_l0 kinds ways) ([] : List (List (Str × Int)))).map (fun zc3 : List (Str × Int) => (maxL (kinds.map (fun zc4 : Str × Int × Int => ((dget zc3 zc4.1).getD default))))))
/-- every kind has its entry -/
def HasK (kinds : List (Str × Int × Int)) (r : List (Str × Int)) : Prop := ∀ k ∈ kinds, (dget r k.1).isSome = true
theorem dget_put {κ τ : Type} [DecidableEq κ] (r : List (κ × τ)) (k k2 : κ) (v : τ) : dget (dput r k v) k2 = if k = k2 then some v else dget r k2 := by
  unfold dput
  by_cases h : (r.any fun p => decide (p.1 = k)) = true
  · rw [if_pos h]
    induction r with
    | nil => cases h
    | cons p r ih =>
      rw [List.map_cons, dget_cons, dget_cons]
      by_cases z : p.1 = k
      · rw [if_pos z]
        show (if p.1 = k2 then _ else _) = _
        by_cases z2 : p.1 = k2
        · rw [if_pos z2, if_pos (z.symm.trans z2)]
        · rw [if_neg z2, if_neg (fun q => z2 (z.trans q)), if_neg z2]
          by_cases h2 : (r.any fun p => decide (p.1 = k)) = true
          · rw [ih h2, if_neg (fun q => z2 (z.trans q))]
          · congr 1
            have : ∀ q ∈ r, (if q.1 = k then (q.1, v) else q) = q := fun q hq => if_neg (fun e => h2 (List.any_eq_true.mpr ⟨q, hq, decide_eq_true e⟩))
            rw [List.map_congr_left this]; exact List.map_id' _
      · rw [if_neg z]
        have h2 : (r.any fun p => decide (p.1 = k)) = true := by
          rw [List.any_cons, decide_eq_false z, Bool.false_or] at h; exact h
        rw [ih h2]
        by_cases z2 : p.1 = k2
        · rw [if_pos z2, if_neg (fun q => z (z2.trans q.symm)), if_pos z2]
        · rw [if_neg z2, if_neg z2]
  · rw [if_neg h]
    induction r with
    | nil => rw [List.nil_append, dget_cons]
    | cons p r ih =>
      rw [List.any_cons, Bool.or_eq_true, not_or] at h
      rw [List.cons_append, dget_cons, dget_cons, ih h.2]
      have z : ¬ p.1 = k := fun e => h.1 (decide_eq_true e)
      by_cases z2 : p.1 = k2
      · rw [if_pos z2, if_neg (fun q => z (z2.trans q.symm)), if_pos z2]
      · rw [if_neg z2, if_neg z2]
theorem hasK_put {kinds : List (Str × Int × Int)} {i : Nat} {k : Str × Int × Int} {r : List (Str × Int)} {v : Int} (hk : kinds[i]? = some k) (h : HasK (kinds.take i) r) : HasK (kinds.take (i + 1)) (dput r k.1 v) := fun x hx => by
  rw [dget_put]
  by_cases z : k.1 = x.1
  · rw [if_pos z]; rfl
  · rw [if_neg z]
    obtain ⟨h1, h2⟩ := List.getElem?_eq_some_iff.mp hk
    rw [List.take_succ_eq_append_getElem h1] at hx
    rcases List.mem_append.mp hx with q | q
    · exact h x q
    · rw [List.mem_singleton.mp q, h2] at z; exact absurd rfl z
theorem hasK_mem {kinds : List (Str × Int × Int)} {r : List (Str × Int)} (h : HasK kinds r) {n : Str} (hn : n ∈ kinds.map fun z : Str × Int × Int => z.1) : (dget r n).isSome = true := by
  obtain ⟨k, hk, rfl⟩ := List.mem_map.mp hn
  exact h k hk
set_option hygiene false in
local macro_rules | `(tactic| walk_at "dk") => `(tactic| first | exact hasK_mem (hfl (by omega)) hwd.2 | exact (hrw.2 _ (List.mem_of_getElem? (by assumption))) _ (List.mem_of_getElem? (by assumption)) | fail)
theorem sc_law_demands : FnScope ["_law_kinds_here", "_law_ways_here", "_law_length", "_law_rows", "_law_size", "_law_row_here", "_law_kind", "_law_behind", "_law_way"] ["_law_kinds_here", "_law_ways_here", "_law_length"] (defScope s_law_demands) := ⟨rfl, rfl, rfl, by decide +kernel, rfl, by decide +kernel, by decide +kernel⟩
def sp_law_demands : SpN := fun zcs zL zKc => ∃ kinds : List (Str × Int × Int), ∃ ways : List (Str × Str × Int), ∃ length : Int, zcs = [.fr ((eL (eT3 D.str D.int D.int)) kinds), .fr ((eL (eT3 D.str D.str D.int)) ways), .fr (D.int length)] ∧ zL = [] ∧ (0 ≤ length ∧ length ≤ 1000 ∧ 0 < kinds.length ∧ kinds.length ≤ 8 ∧ (∀ k ∈ kinds, 0 ≤ k.2.1 ∧ k.2.1 ≤ 1000) ∧ ∀ w ∈ ways, 1 ≤ w.2.2 ∧ w.2.1 ∈ kinds.map fun z : Str × Int × Int => z.1) ∧ ∀ zL', zKc (.fr ((eL D.int) (m_law_demands kinds ways length))) zL'
theorem ok_law_demands (T : TX P K mg) : FnOk P w K mg base CX0 1 T.a_law_demands T.d_law_demands ["_law_kinds_here", "_law_ways_here", "_law_length"] (SpOf K mg sp_law_demands) := by
  refine T.F_law_demands.okN sc_law_demands (fun zcs zL zKc zh => by obtain ⟨kinds, ways, length, rfl, _⟩ := zh; rfl) fun zcdv zA zout zst zH zE zB zcs zL zKc zhr zh => ?_
  obtain ⟨kinds, ways, length, rfl, rfl, hpre, zk⟩ := zh
  have nd := sc_law_demands.nd
  have hSL := sizeLine_eq
  show Exs _ _ _ ⟨[some (.fr ((eL (eT3 D.str D.int D.int)) kinds)), some (.fr ((eL (eT3 D.str D.str D.int)) ways)), some (.fr (D.int length)), none, none, none, none, none, none], []⟩ _
  refine exs_cons (ex_set 3 (ev_lstN 100 (enc := (eDK kS D.int)) ([] : List (List (Str × Int))) ea_nil rfl (by simp only [List.length_cons, List.length_nil]; decide) (by simp [names]) (by decide)) ?_ nd rfl (.inl rfl))
  show Exs _ _ _ ⟨[some (.fr ((eL (eT3 D.str D.int D.int)) kinds)), some (.fr ((eL (eT3 D.str D.str D.int)) ways)), some (.fr (D.int length)), some (.ad 100), none, none, none, none, none], [(100, .fl ((([] : List (List (Str × Int)))).map (eDK kS D.int)))]⟩ _
  refine exs_cons (ex_forF (enc := (fun i : Nat => D.int ((0 : Int) + (i : Int)))) (fun (zs0 : (List (List (Str × Int)))) => (⟨[some (.fr ((eL (eT3 D.str D.int D.int)) kinds)), some (.fr ((eL (eT3 D.str D.str D.int)) ways)), some (.fr (D.int length)), some (.ad 100), none, none, none, none, none], [(100, .fl ((zs0).map (eDK kS D.int)))]⟩ : Nz.S)) (m_law_demands_l0 kinds ways) ([] : List (List (Str × Int))) (fun (zi0 : Nat) (zs0 : (List (List (Str × Int)))) => zs0.length = zi0 ∧ ∀ r ∈ zs0, HasK kinds r) (src_range1 (ea_cons (ev_bin o_add (ev_var 2 rfl (.inl rfl) rfl) ev_int) ea_nil) (by exact rfl) T.n_range (by walk_at "sd") (by walk_at "sd")) ⟨⟨.inr rfl, .inr rfl, .inr rfl, .inr rfl, .inl rfl, .inl rfl, .inl rfl, .inl rfl, .inl rfl, trivial⟩, rfl⟩ ⟨by simp, fun _ h => absurd h (by simp)⟩ ?_ ?_ PassesOwn.never rfl)
  · intro zi0 zy0 zs0 zhy0 zq0
    skip
    have hy0 := seq_range zhy0
    have hi := (List.getElem?_eq_some_iff.mp zhy0).1
    simp only [List.length_range] at hi
    obtain ⟨zqa, zqb⟩ := zq0
    refine ⟨⟨[some (.fr ((eL (eT3 D.str D.int D.int)) kinds)), some (.fr ((eL (eT3 D.str D.str D.int)) ways)), some (.fr (D.int length)), some (.ad 100), some (.fr (D.int ((0 : Int) + (zy0 : Int)))), none, none, none, none], [(100, .fl ((zs0).map (eDK kS D.int)))]⟩, (eg_name 4 nd rfl (.inl rfl)), ?_⟩
    refine exs_cons (ex_set 5 (ev_dnewK 101 kS D.int (by simp [names]) (by decide)) ?_ nd rfl (.inl rfl))
    show Exs _ _ _ ⟨[some (.fr ((eL (eT3 D.str D.int D.int)) kinds)), some (.fr ((eL (eT3 D.str D.str D.int)) ways)), some (.fr (D.int length)), some (.ad 100), some (.fr (D.int ((0 : Int) + (zy0 : Int)))), some (.ad 101), none, none, none], [(100, .fl ((zs0).map (eDK kS D.int))), (101, loK kS D.int ([] : List (Str × Int)))]⟩ _
    refine exs_cons (ex_forF (enc := (eT3 D.str D.int D.int)) (fun (zs1 : (List (Str × Int))) => (⟨[some (.fr ((eL (eT3 D.str D.int D.int)) kinds)), some (.fr ((eL (eT3 D.str D.str D.int)) ways)), some (.fr (D.int length)), some (.ad 100), some (.fr (D.int ((0 : Int) + (zy0 : Int)))), some (.ad 101), none, none, none], [(100, .fl ((zs0).map (eDK kS D.int))), (101, loK kS D.int zs1)]⟩ : Nz.S)) (m_law_demands_l1 ways zs0 ((0 : Int) + (zy0 : Int))) ([] : List (Str × Int)) (fun (zi1 : Nat) (zs1 : (List (Str × Int))) => zs1.length ≤ zi1 ∧ HasK (kinds.take zi1) zs1) (src_listT (ev_var 0 rfl (.inr (.inl rfl)) rfl)) ⟨⟨.inr rfl, .inr rfl, .inr rfl, .inr rfl, .inr rfl, .inr rfl, .inl rfl, .inl rfl, .inl rfl, trivial⟩, rfl⟩ ⟨Nat.le_refl _, fun k h => absurd h (by simp)⟩ ?_ ?_ PassesOwn.never rfl)
    · intro zi1 zy1 zs1 zhy1 zq1
      skip
      have hi1 := (List.getElem?_eq_some_iff.mp zhy1).1
      have hkc := hpre.2.2.2.2.1 zy1 (List.mem_of_getElem? zhy1)
      refine ⟨⟨[some (.fr ((eL (eT3 D.str D.int D.int)) kinds)), some (.fr ((eL (eT3 D.str D.str D.int)) ways)), some (.fr (D.int length)), some (.ad 100), some (.fr (D.int ((0 : Int) + (zy0 : Int)))), some (.ad 101), some (.fr ((eT3 D.str D.int D.int) zy1)), none, none], [(100, .fl ((zs0).map (eDK kS D.int))), (101, loK kS D.int zs1)]⟩, (eg_name 6 nd rfl (.inl rfl)), ?_⟩
      refine exs_cons (ex_set 7 ev_int ?_ nd rfl (.inl rfl))
      show Exs _ _ _ ⟨[some (.fr ((eL (eT3 D.str D.int D.int)) kinds)), some (.fr ((eL (eT3 D.str D.str D.int)) ways)), some (.fr (D.int length)), some (.ad 100), some (.fr (D.int ((0 : Int) + (zy0 : Int)))), some (.ad 101), some (.fr ((eT3 D.str D.int D.int) zy1)), some (.fr (D.int (0 : Int))), none], [(100, .fl ((zs0).map (eDK kS D.int))), (101, loK kS D.int zs1)]⟩ _
      refine exs_cons (ex_forF (enc := (eT3 D.str D.str D.int)) (fun (zs2 : Int) => (⟨[some (.fr ((eL (eT3 D.str D.int D.int)) kinds)), some (.fr ((eL (eT3 D.str D.str D.int)) ways)), some (.fr (D.int length)), some (.ad 100), some (.fr (D.int ((0 : Int) + (zy0 : Int)))), some (.ad 101), some (.fr ((eT3 D.str D.int D.int) zy1)), some (.fr (D.int zs2)), none], [(100, .fl ((zs0).map (eDK kS D.int))), (101, loK kS D.int zs1)]⟩ : Nz.S)) (m_law_demands_l2 zs0 ((0 : Int) + (zy0 : Int)) zy1) (0 : Int) (fun (zi2 : Nat) (zs2 : Int) => True) (src_listT (ev_var 1 rfl (.inl rfl) rfl)) ⟨⟨.inr rfl, .inr rfl, .inr rfl, .inr rfl, .inr rfl, .inr rfl, .inr rfl, .inr rfl, .inl rfl, trivial⟩, rfl⟩ trivial ?_ ?_ PassesOwn.never rfl)
      · intro zi2 zy2 zs2 zhy2 zq2
        skip
        have hwd := hpre.2.2.2.2.2 zy2 (List.mem_of_getElem? zhy2)
        have hfl : zy2.2.2 ≤ (0 : Int) + (zy0 : Int) → HasK kinds (zs0.getD ((0 : Int) + (zy0 : Int) - zy2.2.2).toNat default) := fun hq => zqb _ (getD_mem (by omega))
        refine ⟨⟨[some (.fr ((eL (eT3 D.str D.int D.int)) kinds)), some (.fr ((eL (eT3 D.str D.str D.int)) ways)), some (.fr (D.int length)), some (.ad 100), some (.fr (D.int ((0 : Int) + (zy0 : Int)))), some (.ad 101), some (.fr ((eT3 D.str D.int D.int) zy1)), some (.fr (D.int zs2)), some (.fr ((eT3 D.str D.str D.int) zy2))], [(100, .fl ((zs0).map (eDK kS D.int))), (101, loK kS D.int zs1)]⟩, (eg_name 8 nd rfl (.inl rfl)), ?_⟩
        refine exs_one (ex_ifP (bd_and bd_d bd_d) (Ew.et (ew_andP bd_d (et_cmp o_eqs (ev_ix (.t (d := D.str zy2.1) rfl) (ev_var 8 rfl (.inl rfl) rfl) ev_int) (ev_ix (.t (d := D.str zy1.1) rfl) (ev_var 6 rfl (.inl rfl) rfl) ev_int) (nomark _)) (fun zhp => (ew_and1 (et_cmp o_le (ev_ix (.t (d := D.int zy2.2.2) rfl) (ev_var 8 rfl (.inl rfl) rfl) ev_int) (ev_var 4 rfl (.inl rfl) rfl) (nomark _)))))) (fun (zh1 : ((zy2.1 = zy1.1) ∧ (zy2.2.2 ≤ ((0 : Int) + (zy0 : Int))))) => ?_) (fun (zh1 : ¬ ((zy2.1 = zy1.1) ∧ (zy2.2.2 ≤ ((0 : Int) + (zy0 : Int))))) => ?_))
        · skip
          refine exs_one (ex_set 7 (ev_callB (ds := [D.int zs2, D.int ((dget (zs0.getD ((((0 : Int) + (zy0 : Int)) - zy2.2.2)).toNat default) zy2.2.1).getD default)]) (c_max2 rfl) (ea_cons (ev_var 7 rfl (.inl rfl) rfl) (ea_cons (ev_dgetK (e := D.int) (xs := (zs0.getD ((((0 : Int) + (zy0 : Int)) - zy2.2.2)).toNat default)) (k := zy2.2.1) zhr.units ke_str (by exact rfl) (by walk_at "dk") (ev_ix (ix_L (xs := zs0) (enc := (eDK kS D.int)) (by exact rfl) (by walk_at "sd") (by walk_at "sd")) (ev_var 3 rfl (.inl rfl) rfl) (ev_bin o_sub (ev_var 4 rfl (.inl rfl) rfl) (ev_ix (.t (d := D.int zy2.2.2) rfl) (ev_var 8 rfl (.inl rfl) rfl) ev_int))) (ev_ix (.t (d := D.str zy2.2.1) rfl) (ev_var 8 rfl (.inl rfl) rfl) ev_int)) ea_nil)) (by exact rfl) T.n_max (by decide +kernel)) ?_ nd rfl (.inl rfl))
          have est : (m_law_demands_l2 zs0 ((0 : Int) + (zy0 : Int)) zy1) zs2 zy2 = (if ((dget (zs0.getD ((((0 : Int) + (zy0 : Int)) - zy2.2.2)).toNat default) zy2.2.1).getD default) > zs2 then ((dget (zs0.getD ((((0 : Int) + (zy0 : Int)) - zy2.2.2)).toNat default) zy2.2.1).getD default) else zs2) := by simp only [m_law_demands_l2, not_true_eq_false, not_false_eq_true, ↓reduceIte, ↓if_pos zh1]
          show Le _ _ ∧ _
          try rw [est]
          exact ⟨⟨⟨.inr rfl, .inr rfl, .inr rfl, .inr rfl, .inr rfl, .inr rfl, .inr rfl, .inr rfl, .inl rfl, trivial⟩, rfl⟩, trivial⟩
        · skip
          refine exs_nil ?_
          have est : (m_law_demands_l2 zs0 ((0 : Int) + (zy0 : Int)) zy1) zs2 zy2 = zs2 := by simp only [m_law_demands_l2, not_true_eq_false, not_false_eq_true, ↓reduceIte, ↓if_neg zh1]
          show Le _ _ ∧ _
          try rw [est]
          exact ⟨⟨⟨.inr rfl, .inr rfl, .inr rfl, .inr rfl, .inr rfl, .inr rfl, .inr rfl, .inr rfl, .inl rfl, trivial⟩, rfl⟩, trivial⟩
      · intro zq2
        show Exs _ _ _ ⟨[some (.fr ((eL (eT3 D.str D.int D.int)) kinds)), some (.fr ((eL (eT3 D.str D.str D.int)) ways)), some (.fr (D.int length)), some (.ad 100), some (.fr (D.int ((0 : Int) + (zy0 : Int)))), some (.ad 101), some (.fr ((eT3 D.str D.int D.int) zy1)), some (.fr (D.int (ways.foldl (m_law_demands_l2 zs0 ((0 : Int) + (zy0 : Int)) zy1) (0 : Int)))), none], [(100, .fl ((zs0).map (eDK kS D.int))), (101, loK kS D.int zs1)]⟩ _
        refine exs_one (ex_dputK (n := 101) (e := D.int) (xs := zs1) (k := zy1.1) (v := ((zy1.2.1 * (if (decide (zy1.2.2 ≤ ((0 : Int) + (zy0 : Int)))) = true then (1 : Int) else 0)) + (ways.foldl (m_law_demands_l2 zs0 ((0 : Int) + (zy0 : Int)) zy1) (0 : Int)))) zhr.units ke_str (by exact rfl) (by walk_at "dl") (ev_bin o_add (ev_bin (o_mul (by walk_at "mul")) (ev_ix (.t (d := D.int zy1.2.1) rfl) (ev_var 6 rfl (.inl rfl) rfl) ev_int) (ev_callTy (ds := [D.bl (decide (zy1.2.2 ≤ ((0 : Int) + (zy0 : Int))))]) c_intB (ea_cons (ev_cmp o_le (ev_ix (.t (d := D.int zy1.2.2) rfl) (ev_var 6 rfl (.inl rfl) rfl) ev_int) (ev_var 4 rfl (.inl rfl) rfl) (nomark _)) ea_nil) (by exact rfl) T.n_int (by decide +kernel))) (ev_var 7 rfl (.inl rfl) rfl)) (ev_var 5 rfl (.inl rfl) rfl) (ev_ix (.t (d := D.str zy1.1) rfl) (ev_var 6 rfl (.inl rfl) rfl) ev_int) ?_)
        have est : (m_law_demands_l1 ways zs0 ((0 : Int) + (zy0 : Int))) zs1 zy1 = (dput zs1 zy1.1 ((zy1.2.1 * (if (decide (zy1.2.2 ≤ ((0 : Int) + (zy0 : Int)))) = true then (1 : Int) else 0)) + (ways.foldl (m_law_demands_l2 zs0 ((0 : Int) + (zy0 : Int)) zy1) (0 : Int)))) := by simp only [m_law_demands_l1, not_true_eq_false, not_false_eq_true, ↓reduceIte]
        show Le _ _ ∧ _
        try rw [est]
        exact ⟨⟨⟨.inr rfl, .inr rfl, .inr rfl, .inr rfl, .inr rfl, .inr rfl, .inl rfl, .inl rfl, .inl rfl, trivial⟩, rfl⟩, ⟨Nat.le_trans (dput_len _ _ _) (by omega), hasK_put zhy1 zq1.2⟩⟩
    · intro zq1
      have hrk := zq1.2
      rw [List.take_length] at hrk
      show Exs _ _ _ ⟨[some (.fr ((eL (eT3 D.str D.int D.int)) kinds)), some (.fr ((eL (eT3 D.str D.str D.int)) ways)), some (.fr (D.int length)), some (.ad 100), some (.fr (D.int ((0 : Int) + (zy0 : Int)))), some (.ad 101), none, none, none], [(100, .fl ((zs0).map (eDK kS D.int))), (101, loK kS D.int (kinds.foldl (m_law_demands_l1 ways zs0 ((0 : Int) + (zy0 : Int))) ([] : List (Str × Int))))]⟩ _
      refine exs_freezeDK 101 (kk := kS) (e := D.int) (xs := (kinds.foldl (m_law_demands_l1 ways zs0 ((0 : Int) + (zy0 : Int))) ([] : List (Str × Int)))) (by exact rfl) ?_
      show Exs _ _ _ ⟨[some (.fr ((eL (eT3 D.str D.int D.int)) kinds)), some (.fr ((eL (eT3 D.str D.str D.int)) ways)), some (.fr (D.int length)), some (.ad 100), some (.fr (D.int ((0 : Int) + (zy0 : Int)))), some (.fr ((eDK kS D.int) (kinds.foldl (m_law_demands_l1 ways zs0 ((0 : Int) + (zy0 : Int))) ([] : List (Str × Int))))), none, none, none], [(100, .fl ((zs0).map (eDK kS D.int)))]⟩ _
      refine exs_one (ex_expr (ev_appendT (n := 100) (enc := (eDK kS D.int)) (xs := zs0) (xs0 := zs0) (kinds.foldl (m_law_demands_l1 ways zs0 ((0 : Int) + (zy0 : Int))) ([] : List (Str × Int))) rfl rfl rfl (by walk_at "sd") (ev_var 3 rfl (.inl rfl) rfl) (ev_var 5 rfl (.inl rfl) rfl)) ?_)
      have est : (m_law_demands_l0 kinds ways) zs0 zy0 = (zs0 ++ [(kinds.foldl (m_law_demands_l1 ways zs0 ((0 : Int) + (zy0 : Int))) ([] : List (Str × Int)))]) := by simp only [m_law_demands_l0, not_true_eq_false, not_false_eq_true, ↓reduceIte]
      show Le _ _ ∧ _
      try rw [est]
      exact ⟨⟨⟨.inr rfl, .inr rfl, .inr rfl, .inr rfl, .inl rfl, .inl rfl, .inl rfl, .inl rfl, .inl rfl, trivial⟩, rfl⟩, ⟨by rw [List.length_append, List.length_singleton]; omega, fun r hr => by rcases List.mem_append.mp hr with q | q; exact zqb r q; rw [List.mem_singleton.mp q]; exact hrk⟩⟩
  · intro zq0
    have hrw := zq0
    show Exs _ _ _ ⟨[some (.fr ((eL (eT3 D.str D.int D.int)) kinds)), some (.fr ((eL (eT3 D.str D.str D.int)) ways)), some (.fr (D.int length)), some (.ad 100), none, none, none, none, none], [(100, .fl ((((List.range ((length + (1 : Int))).toNat).foldl (m_law_demands_l0 kinds ways) ([] : List (List (Str × Int))))).map (eDK kS D.int)))]⟩ _
    refine exs_freezeT 100 (xs := ((List.range ((length + (1 : Int))).toNat).foldl (m_law_demands_l0 kinds ways) ([] : List (List (Str × Int))))) (enc := (eDK kS D.int)) (by exact rfl) ?_
    show Exs _ _ _ ⟨[some (.fr ((eL (eT3 D.str D.int D.int)) kinds)), some (.fr ((eL (eT3 D.str D.str D.int)) ways)), some (.fr (D.int length)), some (.fr ((eL (eDK kS D.int)) ((List.range ((length + (1 : Int))).toNat).foldl (m_law_demands_l0 kinds ways) ([] : List (List (Str × Int)))))), none, none, none, none, none], []⟩ _
    refine exs_one (ex_ret (ev_lcM (enc2 := D.int) 199 (fun zc1 : List (Str × Int) => (maxL (kinds.map (fun zc2 : Str × Int × Int => ((dget zc1 zc2.1).getD default))))) _ rfl nd (blkOk_by (N := ["_law_kinds_here", "_law_ways_here", "_law_length", "_law_rows", "_law_size", "_law_row_here", "_law_kind", "_law_behind", "_law_way"]) (sc := defScope s_law_demands) (own := [(("_law_row_here" : Str), 5)]) (by decide +kernel)) (src_listT (ev_var 3 rfl (.inl rfl) rfl)) (by simp [names]) (by decide) (by walk_at "sd") (fun _ zc1 _ zhyzc1 _ _ _ _ _ => (eg_nameC 5 nd rfl (.inr rfl) (by decide) (.inl rfl))) (fun _ zc1 _ zhyzc1 _ _ _ _ _ => (ev_callB (ds := [(eL D.int) (kinds.map (fun zc2 : Str × Int × Int => ((dget zc1 zc2.1).getD default)))]) (c_maxL (ns := (kinds.map (fun zc2 : Str × Int × Int => ((dget zc1 zc2.1).getD default)))) rfl (by walk_at "ne")) (ea_cons (ev_lcM (enc2 := D.int) 198 (fun zc2 : Str × Int × Int => ((dget zc1 zc2.1).getD default)) _ rfl nd (blkOk_by (N := ["_law_kinds_here", "_law_ways_here", "_law_length", "_law_rows", "_law_size", "_law_row_here", "_law_kind", "_law_behind", "_law_way"]) (sc := relabS (lcScopeR ((defBody s_law_demands).getD 2 (.Pass ⟨0, 0, 0, 0⟩))) (defScope s_law_demands)) (own := [(("_law_kind" : Str), 6)]) (by decide +kernel)) (src_listT (ev_var 0 rfl (.inr (.inl rfl)) rfl)) (by simp [names, setS]) (by decide) (by walk_at "sd") (fun _ zc2 _ zhyzc2 _ _ _ _ _ => (eg_nameC 6 nd rfl (.inl rfl) (by decide) (.inr rfl))) (fun _ zc2 _ zhyzc2 _ _ _ _ _ => (ev_dgetK (e := D.int) (xs := zc1) (k := zc2.1) zhr.units ke_str (by exact rfl) (by walk_at "dk") (ev_var 5 rfl (.inr (.inl rfl)) rfl) (ev_ix (.t (d := D.str zc2.1) rfl) (ev_var 6 rfl (.inl rfl) rfl) ev_int)))) ea_nil) (by exact rfl) T.n_max (by decide +kernel)))) ?_)
    have efin : m_law_demands kinds ways length = (((List.range ((length + (1 : Int))).toNat).foldl (m_law_demands_l0 kinds ways) ([] : List (List (Str × Int)))).map (fun zc1 : List (Str × Int) => (maxL (kinds.map (fun zc2 : Str × Int × Int => ((dget zc1 zc2.1).getD default)))))) := by simp only [m_law_demands, not_true_eq_false, not_false_eq_true, ↓reduceIte]
    rw [efin] at zk
    exact zk _
def m_law_server_l0 (period : Int) (offset : Int) (capacity : Int) (zs0 : (List Int)) (zy0 : Nat) : (List Int) :=
  (zs0.set (((offset + ((0 : Int) + (zy0 : Int))) % period)).toNat capacity)
def m_law_server_l1 (period : Int) (budget : Int) (capacity : Int) (leasts : List Int) (singles : List Int) (zs0 : Unit) (zy0 : Nat) : Except Bool (Unit) :=
  let told : Int := (m_server_supply period budget ((0 : Int) + (zy0 : Int)) capacity)
  if ((¬ ((m_law_is_integer told) = true)) ∨ (¬ (told = (leasts.getD (((0 : Int) + (zy0 : Int))).toNat default)))) then .error false else if (¬ ((m_server_supply period budget ((0 : Int) + (zy0 : Int)) (1 : Int)) = (singles.getD (((0 : Int) + (zy0 : Int))).toNat default))) then .error false else .ok ()
def m_law_server (numbers : List Int) : Bool :=
  let period1 : Int := ((1 : Int) + ((numbers.getD ((0 : Int)).toNat default) % (8 : Int)))
  let budget1 : Int := ((numbers.getD ((1 : Int)).toNat default) % (period1 + (1 : Int)))
  let offset1 : Int := ((numbers.getD ((2 : Int)).toNat default) % period1)
  let capacity1 : Int := ([(0 : Int), (1 : Int), (2 : Int), (3 : Int), (1000 : Int)].getD (((numbers.getD ((3 : Int)).toNat default) % (5 : Int))).toNat default)
  let actual1 : List Int := (m_server_table period1 budget1 offset1 capacity1)
  if ((¬ (true = true)) ∨ (¬ (actual1 = ((List.range (budget1).toNat).foldl (m_law_server_l0 period1 offset1 capacity1) ((List.range (period1).toNat).map (fun zc4 : Nat => (0 : Int))))))) then false else let plain1 : List Int := (m_server_table period1 budget1 (0 : Int) (1 : Int))
  if (¬ (plain1 = (((List.range (budget1).toNat).map (fun zc5 : Nat => (1 : Int))) ++ ((List.range ((period1 - budget1)).toNat).map (fun zc6 : Nat => (0 : Int)))))) then false else let leasts1 : List Int := (m_law_leasts ((List.range (budget1).toNat).foldl (m_law_server_l0 period1 offset1 capacity1) ((List.range (period1).toNat).map (fun zc4 : Nat => (0 : Int)))) ((3 : Int) * period1))
  let singles1 : List Int := (m_law_leasts plain1 ((3 : Int) * period1))
  match (runE (m_law_server_l1 period1 budget1 capacity1 leasts1 singles1) (List.range ((((3 : Int) * period1) + (1 : Int))).toNat) ()) with | .error r => r | .ok zs0 => true
theorem cap82 (k : Int) : 0 ≤ ([(0 : Int), (1 : Int), (2 : Int), (3 : Int), (1000 : Int)].getD (k % (5 : Int)).toNat default) ∧ ([(0 : Int), (1 : Int), (2 : Int), (3 : Int), (1000 : Int)].getD (k % (5 : Int)).toNat default) ≤ 1000 := by
  have h : (k % 5).toNat = 0 ∨ (k % 5).toNat = 1 ∨ (k % 5).toNat = 2 ∨ (k % 5).toNat = 3 ∨ (k % 5).toNat = 4 := by omega
  rcases h with h | h | h | h | h <;> rw [h] <;> decide
/-- a table of at most n capacities from 0 to 1000 -/
theorem tsum82 {t : List Int} (h : ∀ x ∈ t, 0 ≤ x ∧ x ≤ 1000) : 0 ≤ t.sum ∧ t.sum ≤ 1000 * (t.length : Int) := by
  induction t with
  | nil => simp
  | cons x r ih =>
    have a := ih fun y hy => h y (List.mem_cons_of_mem _ hy)
    have b := h x List.mem_cons_self
    rw [List.sum_cons, List.length_cons]
    omega
theorem setf82 (g : Nat → Nat) (c : Int) (hc : 0 ≤ c ∧ c ≤ 1000) (f : List Int → Nat → List Int) (hf : ∀ s y, f s y = s.set (g y) c) : ∀ (ys : List Nat) (s : List Int), (∀ x ∈ s, 0 ≤ x ∧ x ≤ 1000) → (ys.foldl f s).length = s.length ∧ ∀ x ∈ ys.foldl f s, 0 ≤ x ∧ x ≤ 1000
  | [], s, h => ⟨rfl, h⟩
  | y :: ys, s, h => by
    rw [List.foldl_cons, hf]
    have := setf82 g c hc f hf ys (s.set (g y) c) (fun x hx => by
      rcases List.mem_or_eq_of_mem_set hx with q | q
      · exact h x q
      · rw [q]; exact hc)
    rw [List.length_set] at this
    exact this
theorem due82 {p o c : Int} (hp : 1 ≤ p ∧ p ≤ 8) (hc : 0 ≤ c ∧ c ≤ 1000) (ys : List Nat) : ((ys.foldl (m_law_server_l0 p o c) ((List.range p.toNat).map (fun _ : Nat => (0 : Int)))).length : Int) = p ∧ 0 ≤ (ys.foldl (m_law_server_l0 p o c) ((List.range p.toNat).map (fun _ : Nat => (0 : Int)))).sum ∧ (ys.foldl (m_law_server_l0 p o c) ((List.range p.toNat).map (fun _ : Nat => (0 : Int)))).sum ≤ 8000 := by
  have h := setf82 (fun y => ((o + ((0 : Int) + (y : Int))) % p).toNat) c hc (m_law_server_l0 p o c) (fun s y => rfl) ys ((List.range p.toNat).map (fun _ : Nat => (0 : Int))) (fun x hx => by obtain ⟨_, _, rfl⟩ := List.mem_map.mp hx; decide)
  have s := tsum82 h.2
  rw [h.1, List.length_map, List.length_range] at s
  refine ⟨by rw [h.1, List.length_map, List.length_range]; omega, by omega, by omega⟩
theorem st82 {p b o c : Int} (hp : 1 ≤ p ∧ p ≤ 8) (hc : 0 ≤ c ∧ c ≤ 1000) : ((m_server_table p b o c).length : Int) = p ∧ 0 ≤ (m_server_table p b o c).sum ∧ (m_server_table p b o c).sum ≤ 8000 := by
  unfold m_server_table
  have h := setf82 (fun y => ((o + (y : Int)) % p).toNat) c hc (m_server_table_l0 p c o) (fun s y => rfl) (List.range ((o + b) - o).toNat) (List.replicate p.toNat 0) (fun x hx => by rw [List.eq_of_mem_replicate hx]; decide)
  have s := tsum82 h.2
  rw [h.1, List.length_replicate] at s
  refine ⟨by rw [h.1, List.length_replicate]; omega, by omega, by omega⟩
set_option hygiene false in
local macro_rules | `(tactic| walk_at "pre") => `(tactic| first | exact ⟨by omega, by omega, by omega, by omega, by omega, by omega, by omega, by omega⟩ | exact ⟨by omega, by omega, by omega, by omega, by omega, by omega⟩ | fail)
theorem sc_law_server : FnScope ["_law_numbers_here", "_law_period", "_law_budget_here", "_law_offset", "_law_capacity", "_law_due", "_law_k", "_law_actual", "_law_plain", "_law_leasts_here", "_law_singles", "_law_length", "_law_told"] ["_law_numbers_here"] (defScope s_law_server) := ⟨rfl, rfl, rfl, by decide +kernel, rfl, by decide +kernel, by decide +kernel⟩
def sp_law_server : SpN := fun zcs zL zKc => ∃ numbers : List Int, zcs = [.fr ((eL D.int) numbers)] ∧ zL = [] ∧ (numbers.length = 90 ∧ ∀ x ∈ numbers, 0 ≤ x ∧ x ≤ 1008) ∧ ∀ zL', zKc (.fr (D.bl (m_law_server numbers))) zL'
theorem ok_law_server (T : TX P K mg) : FnOk P w K mg base CX0 2 T.a_law_server T.d_law_server ["_law_numbers_here"] (SpOf K mg sp_law_server) := by
  have O_law_is_integer := ok_law_is_integer (P := P) (w := w) (base := base) T
  have O_law_leasts := ok_law_leasts (P := P) (w := w) (base := base) T
  have O_server_supply := ok_server_supply (P := P) (w := w) (base := base) T
  have O_server_table := ok_server_table (P := P) (w := w) (base := base) T
  refine T.F_law_server.okN sc_law_server (fun zcs zL zKc zh => by obtain ⟨numbers, rfl, _⟩ := zh; rfl) fun zcdv zA zout zst zH zE zB zcs zL zKc zhr zh => ?_
  obtain ⟨numbers, rfl, rfl, hpre, zk⟩ := zh
  have nd := sc_law_server.nd
  have hSL := sizeLine_eq
  show Exs _ _ _ ⟨[some (.fr ((eL D.int) numbers)), none, none, none, none, none, none, none, none, none, none, none, none], []⟩ _
  refine exs_cons (ex_set 1 (ev_bin o_add ev_int (ev_bin (o_mod (by walk_at "sd")) (ev_ix (ix_L (xs := numbers) (enc := D.int) (by exact rfl) (by walk_at "sd") (by walk_at "sd")) (ev_var 0 rfl (.inl rfl) rfl) ev_int) ev_int)) ?_ nd rfl (.inl rfl))
  show Exs _ _ _ ⟨[some (.fr ((eL D.int) numbers)), some (.fr (D.int ((1 : Int) + ((numbers.getD ((0 : Int)).toNat default) % (8 : Int))))), none, none, none, none, none, none, none, none, none, none, none], []⟩ _
  generalize zg_period : ((1 : Int) + ((numbers.getD ((0 : Int)).toNat default) % (8 : Int))) = period
  show Exs _ _ _ ⟨[some (.fr ((eL D.int) numbers)), some (.fr (D.int period)), none, none, none, none, none, none, none, none, none, none, none], []⟩ _
  have hpd : 1 ≤ period ∧ period ≤ 8 := by rw [← zg_period]; omega
  refine exs_cons (ex_set 2 (ev_bin (o_mod (by walk_at "sd")) (ev_ix (ix_L (xs := numbers) (enc := D.int) (by exact rfl) (by walk_at "sd") (by walk_at "sd")) (ev_var 0 rfl (.inl rfl) rfl) ev_int) (ev_bin o_add (ev_var 1 rfl (.inl rfl) rfl) ev_int)) ?_ nd rfl (.inl rfl))
  show Exs _ _ _ ⟨[some (.fr ((eL D.int) numbers)), some (.fr (D.int period)), some (.fr (D.int ((numbers.getD ((1 : Int)).toNat default) % (period + (1 : Int))))), none, none, none, none, none, none, none, none, none, none], []⟩ _
  generalize zg_budget : ((numbers.getD ((1 : Int)).toNat default) % (period + (1 : Int))) = budget
  show Exs _ _ _ ⟨[some (.fr ((eL D.int) numbers)), some (.fr (D.int period)), some (.fr (D.int budget)), none, none, none, none, none, none, none, none, none, none], []⟩ _
  have hbd : 0 ≤ budget ∧ budget ≤ period := by rw [← zg_budget]; have h1_ := Int.emod_nonneg (numbers.getD ((1 : Int)).toNat default) (show (period + 1) ≠ 0 by omega); have h2_ := Int.emod_lt_of_pos (numbers.getD ((1 : Int)).toNat default) (show 0 < (period + 1) by omega); omega
  refine exs_cons (ex_set 3 (ev_bin (o_mod (by walk_at "sd")) (ev_ix (ix_L (xs := numbers) (enc := D.int) (by exact rfl) (by walk_at "sd") (by walk_at "sd")) (ev_var 0 rfl (.inl rfl) rfl) ev_int) (ev_var 1 rfl (.inl rfl) rfl)) ?_ nd rfl (.inl rfl))
  show Exs _ _ _ ⟨[some (.fr ((eL D.int) numbers)), some (.fr (D.int period)), some (.fr (D.int budget)), some (.fr (D.int ((numbers.getD ((2 : Int)).toNat default) % period))), none, none, none, none, none, none, none, none, none], []⟩ _
  generalize zg_offset : ((numbers.getD ((2 : Int)).toNat default) % period) = offset
  show Exs _ _ _ ⟨[some (.fr ((eL D.int) numbers)), some (.fr (D.int period)), some (.fr (D.int budget)), some (.fr (D.int offset)), none, none, none, none, none, none, none, none, none], []⟩ _
  have hof : 0 ≤ offset ∧ offset < period := by rw [← zg_offset]; have h1_ := Int.emod_nonneg (numbers.getD ((2 : Int)).toNat default) (show period ≠ 0 by omega); have h2_ := Int.emod_lt_of_pos (numbers.getD ((2 : Int)).toNat default) (show 0 < period by omega); omega
  refine exs_cons (ex_set 4 (ev_ix (ix_L (xs := [(0 : Int), (1 : Int), (2 : Int), (3 : Int), (1000 : Int)]) (enc := D.int) (by exact rfl) (by walk_at "sd") (by walk_at "sd")) (ev_lstF (enc := D.int) [(0 : Int), (1 : Int), (2 : Int), (3 : Int), (1000 : Int)] (ea_cons ev_int (ea_cons ev_int (ea_cons ev_int (ea_cons ev_int (ea_cons ev_int ea_nil))))) rfl (by simp only [List.length_cons, List.length_nil]; decide)) (ev_bin (o_mod (by walk_at "sd")) (ev_ix (ix_L (xs := numbers) (enc := D.int) (by exact rfl) (by walk_at "sd") (by walk_at "sd")) (ev_var 0 rfl (.inl rfl) rfl) ev_int) ev_int)) ?_ nd rfl (.inl rfl))
  show Exs _ _ _ ⟨[some (.fr ((eL D.int) numbers)), some (.fr (D.int period)), some (.fr (D.int budget)), some (.fr (D.int offset)), some (.fr (D.int ([(0 : Int), (1 : Int), (2 : Int), (3 : Int), (1000 : Int)].getD (((numbers.getD ((3 : Int)).toNat default) % (5 : Int))).toNat default))), none, none, none, none, none, none, none, none], []⟩ _
  generalize zg_capacity : ([(0 : Int), (1 : Int), (2 : Int), (3 : Int), (1000 : Int)].getD (((numbers.getD ((3 : Int)).toNat default) % (5 : Int))).toNat default) = capacity
  show Exs _ _ _ ⟨[some (.fr ((eL D.int) numbers)), some (.fr (D.int period)), some (.fr (D.int budget)), some (.fr (D.int offset)), some (.fr (D.int capacity)), none, none, none, none, none, none, none, none], []⟩ _
  have hcp := cap82 (numbers.getD ((3 : Int)).toNat default)
  rw [zg_capacity] at hcp
  refine exs_cons (ex_setLcML 5 (enc2 := D.int) 100 (fun zc1 : Nat => (0 : Int)) _ rfl nd rfl rfl (sw_true rfl rfl rfl (by decide +kernel)) (blkOk_by (N := ["_law_numbers_here", "_law_period", "_law_budget_here", "_law_offset", "_law_capacity", "_law_due", "_law_k", "_law_actual", "_law_plain", "_law_leasts_here", "_law_singles", "_law_length", "_law_told"]) (sc := defScope s_law_server) (own := [(("_law_k" : Str), 6)]) (by decide +kernel)) (src_range1 (ea_cons (ev_var 1 rfl (.inl rfl) rfl) ea_nil) (by exact rfl) T.n_range (by walk_at "sd") (by walk_at "sd")) (by simp [names]) (by decide) (by walk_at "sd") (fun _ zc1 _ zhyzc1 _ _ _ _ _ => (eg_nameC 6 nd rfl (.inl rfl) (by decide) (.inr rfl))) (fun _ zc1 _ zhyzc1 _ _ _ _ _ => ev_int) ?_)
  show Exs _ _ _ ⟨[some (.fr ((eL D.int) numbers)), some (.fr (D.int period)), some (.fr (D.int budget)), some (.fr (D.int offset)), some (.fr (D.int capacity)), some (.ad 100), none, none, none, none, none, none, none], [(100, .fl ((((List.range (period).toNat).map (fun zc1 : Nat => (0 : Int)))).map D.int))]⟩ _
  generalize zg_due : ((List.range (period).toNat).map (fun zc1 : Nat => (0 : Int))) = due
  show Exs _ _ _ ⟨[some (.fr ((eL D.int) numbers)), some (.fr (D.int period)), some (.fr (D.int budget)), some (.fr (D.int offset)), some (.fr (D.int capacity)), some (.ad 100), none, none, none, none, none, none, none], [(100, .fl ((due).map D.int))]⟩ _
  have hdu := due82 (o := offset) hpd hcp (List.range budget.toNat)
  rw [zg_due] at hdu
  refine exs_cons (ex_forF (enc := (fun i : Nat => D.int ((0 : Int) + (i : Int)))) (fun (zs0 : (List Int)) => (⟨[some (.fr ((eL D.int) numbers)), some (.fr (D.int period)), some (.fr (D.int budget)), some (.fr (D.int offset)), some (.fr (D.int capacity)), some (.ad 100), none, none, none, none, none, none, none], [(100, .fl ((zs0).map D.int))]⟩ : Nz.S)) (m_law_server_l0 period offset capacity) due (fun (zi0 : Nat) (zs0 : (List Int)) => (zs0.length : Int) = period) (src_range1 (ea_cons (ev_var 2 rfl (.inl rfl) rfl) ea_nil) (by exact rfl) T.n_range (by walk_at "sd") (by walk_at "sd")) ⟨⟨.inr rfl, .inr rfl, .inr rfl, .inr rfl, .inr rfl, .inr rfl, .inl rfl, .inl rfl, .inl rfl, .inl rfl, .inl rfl, .inl rfl, .inl rfl, trivial⟩, rfl⟩ (by rw [← zg_due, List.length_map, List.length_range]; omega) ?_ ?_ PassesOwn.never rfl)
  · intro zi0 zy0 zs0 zhy0 zq0
    skip
    have hy0 := seq_range zhy0
    have hi := (List.getElem?_eq_some_iff.mp zhy0).1
    simp only [List.length_range] at hi
    have hd1 := Int.emod_lt_of_pos (offset + ((0 : Int) + (zy0 : Int))) (show (0 : Int) < period by omega)
    have hd2 := Int.emod_nonneg (offset + ((0 : Int) + (zy0 : Int))) (show period ≠ 0 by omega)
    refine ⟨⟨[some (.fr ((eL D.int) numbers)), some (.fr (D.int period)), some (.fr (D.int budget)), some (.fr (D.int offset)), some (.fr (D.int capacity)), some (.ad 100), some (.fr (D.int ((0 : Int) + (zy0 : Int)))), none, none, none, none, none, none], [(100, .fl ((zs0).map D.int))]⟩, (eg_name 6 nd rfl (.inl rfl)), ?_⟩
    refine exs_one (ex_setIT 100 (enc := D.int) (xs := zs0) capacity rfl (by exact rfl) (by walk_at "sd") (by walk_at "sd") (ev_var 4 rfl (.inl rfl) rfl) (ev_var 5 rfl (.inl rfl) rfl) (ev_bin (o_mod (by walk_at "sd")) (ev_bin o_add (ev_var 3 rfl (.inl rfl) rfl) (ev_var 6 rfl (.inl rfl) rfl)) (ev_var 1 rfl (.inl rfl) rfl)) ?_)
    have est : (m_law_server_l0 period offset capacity) zs0 zy0 = (zs0.set (((offset + ((0 : Int) + (zy0 : Int))) % period)).toNat capacity) := by simp only [m_law_server_l0, not_true_eq_false, not_false_eq_true, ↓reduceIte]
    show Le _ _ ∧ _
    try rw [est]
    exact ⟨⟨⟨.inr rfl, .inr rfl, .inr rfl, .inr rfl, .inr rfl, .inr rfl, .inl rfl, .inl rfl, .inl rfl, .inl rfl, .inl rfl, .inl rfl, .inl rfl, trivial⟩, rfl⟩, (by rw [List.length_set]; exact zq0)⟩
  · intro zq0
    show Exs _ _ _ ⟨[some (.fr ((eL D.int) numbers)), some (.fr (D.int period)), some (.fr (D.int budget)), some (.fr (D.int offset)), some (.fr (D.int capacity)), some (.ad 100), none, none, none, none, none, none, none], [(100, .fl ((((List.range (budget).toNat).foldl (m_law_server_l0 period offset capacity) due)).map D.int))]⟩ _
    refine exs_cons (ex_set 7 (ev_callKw0 (es' := [D.int period, D.int budget, D.int offset, D.int capacity]) (ks := ["period", "budget", "offset", "capacity"]) O_server_table (zhr.mono (by decide)) T.m_server_table T.k_server_table T.kb_server_table_0_period_budget_offset_capacity (ek_cons (ev_var 1 rfl (.inl rfl) rfl) (ek_cons (ev_var 2 rfl (.inl rfl) rfl) (ek_cons (ev_var 3 rfl (.inl rfl) rfl) (ek_cons (ev_var 4 rfl (.inl rfl) rfl) ek_nil)))) rfl (fun _ zkk => ⟨period, budget, offset, capacity, rfl, rfl, (by walk_at "pre"), zkk⟩) (by exact rfl)) ?_ nd rfl (.inl rfl))
    show Exs _ _ _ ⟨[some (.fr ((eL D.int) numbers)), some (.fr (D.int period)), some (.fr (D.int budget)), some (.fr (D.int offset)), some (.fr (D.int capacity)), some (.ad 100), none, some (.fr ((eL D.int) (m_server_table period budget offset capacity))), none, none, none, none, none], [(100, .fl ((((List.range (budget).toNat).foldl (m_law_server_l0 period offset capacity) due)).map D.int))]⟩ _
    generalize zg_actual : (m_server_table period budget offset capacity) = actual
    show Exs _ _ _ ⟨[some (.fr ((eL D.int) numbers)), some (.fr (D.int period)), some (.fr (D.int budget)), some (.fr (D.int offset)), some (.fr (D.int capacity)), some (.ad 100), none, some (.fr ((eL D.int) actual)), none, none, none, none, none], [(100, .fl ((((List.range (budget).toNat).foldl (m_law_server_l0 period offset capacity) due)).map D.int))]⟩ _
    refine exs_freezeT 100 (xs := ((List.range (budget).toNat).foldl (m_law_server_l0 period offset capacity) due)) (enc := D.int) (by exact rfl) ?_
    show Exs _ _ _ ⟨[some (.fr ((eL D.int) numbers)), some (.fr (D.int period)), some (.fr (D.int budget)), some (.fr (D.int offset)), some (.fr (D.int capacity)), some (.fr ((eL D.int) ((List.range (budget).toNat).foldl (m_law_server_l0 period offset capacity) due))), none, some (.fr ((eL D.int) actual)), none, none, none, none, none], []⟩ _
    refine exs_cons (ex_ifP (bd_or (bd_not Iff.rfl) bd_n) (Ew.et (ew_orP (bd_not Iff.rfl) (et_not (et_val (ev_isi (T := "list") (b := true) (ev_var 7 rfl (.inl rfl) rfl) rfl (by decide) (by exact rfl) T.n_isinstance (by exact rfl) T.n_list (by decide +kernel)))) (fun zhp => (ew_or1 (et_cmp (o_neD (e := (eL D.int)) (x := actual) (y := ((List.range (budget).toNat).foldl (m_law_server_l0 period offset capacity) due)) zhr.units (ee_L ee_int)) (ev_var 7 rfl (.inl rfl) rfl) (ev_var 5 rfl (.inl rfl) rfl) (nomark _)))))) (fun (zh1 : ((¬ (true = true)) ∨ (¬ (actual = ((List.range (budget).toNat).foldl (m_law_server_l0 period offset capacity) due))))) => ?_) (fun (zh1 : ¬ ((¬ (true = true)) ∨ (¬ (actual = ((List.range (budget).toNat).foldl (m_law_server_l0 period offset capacity) due))))) => ?_))
    · skip
      refine exs_one (ex_ret ev_bl ?_)
      have efin : m_law_server numbers = false := by subst zg_actual; subst zg_due; subst zg_capacity; subst zg_offset; subst zg_budget; subst zg_period; simp only [m_law_server, not_true_eq_false, not_false_eq_true, ↓reduceIte, ↓if_pos zh1]
      rw [efin] at zk
      exact zk _
    · skip
      refine exs_nil ?_
      show Exs _ _ _ ⟨[some (.fr ((eL D.int) numbers)), some (.fr (D.int period)), some (.fr (D.int budget)), some (.fr (D.int offset)), some (.fr (D.int capacity)), some (.fr ((eL D.int) ((List.range (budget).toNat).foldl (m_law_server_l0 period offset capacity) due))), none, some (.fr ((eL D.int) actual)), none, none, none, none, none], []⟩ _
      refine exs_cons (ex_set 8 (ev_callKwD0 (es' := [D.int period, D.int budget]) (dd := [D.int (0 : Int), D.int (1 : Int)]) (ks := ["period", "budget"]) O_server_table (zhr.mono (by decide)) T.m_server_table T.k_server_table T.kb_server_table_0_period_budget T.rkb_server_table_0_period_budget (ek_cons (ev_var 1 rfl (.inl rfl) rfl) (ek_cons (ev_var 2 rfl (.inl rfl) rfl) ek_nil)) rfl (fun _ zkk => ⟨period, budget, (0 : Int), (1 : Int), rfl, rfl, (by walk_at "pre"), zkk⟩) (by exact rfl)) ?_ nd rfl (.inl rfl))
      show Exs _ _ _ ⟨[some (.fr ((eL D.int) numbers)), some (.fr (D.int period)), some (.fr (D.int budget)), some (.fr (D.int offset)), some (.fr (D.int capacity)), some (.fr ((eL D.int) ((List.range (budget).toNat).foldl (m_law_server_l0 period offset capacity) due))), none, some (.fr ((eL D.int) actual)), some (.fr ((eL D.int) (m_server_table period budget (0 : Int) (1 : Int)))), none, none, none, none], []⟩ _
      generalize zg_plain : (m_server_table period budget (0 : Int) (1 : Int)) = plain
      show Exs _ _ _ ⟨[some (.fr ((eL D.int) numbers)), some (.fr (D.int period)), some (.fr (D.int budget)), some (.fr (D.int offset)), some (.fr (D.int capacity)), some (.fr ((eL D.int) ((List.range (budget).toNat).foldl (m_law_server_l0 period offset capacity) due))), none, some (.fr ((eL D.int) actual)), some (.fr ((eL D.int) plain)), none, none, none, none], []⟩ _
      have hpl := st82 (p := period) (b := budget) (o := 0) (c := 1) hpd (by decide)
      rw [zg_plain] at hpl
      refine exs_cons (ex_ifP bd_n (et_cmp (o_neD (e := (eL D.int)) (x := plain) (y := (((List.range (budget).toNat).map (fun zc2 : Nat => (1 : Int))) ++ ((List.range ((period - budget)).toNat).map (fun zc3 : Nat => (0 : Int))))) zhr.units (ee_L ee_int)) (ev_var 8 rfl (.inl rfl) rfl) (ev_bin (o_catT (enc := D.int) (xs := ((List.range (budget).toNat).map (fun zc2 : Nat => (1 : Int)))) (ys := ((List.range ((period - budget)).toNat).map (fun zc3 : Nat => (0 : Int)))) (by walk_at "sd")) (ev_lcM (enc2 := D.int) 199 (fun zc2 : Nat => (1 : Int)) _ rfl nd (blkOk_by (N := ["_law_numbers_here", "_law_period", "_law_budget_here", "_law_offset", "_law_capacity", "_law_due", "_law_k", "_law_actual", "_law_plain", "_law_leasts_here", "_law_singles", "_law_length", "_law_told"]) (sc := defScope s_law_server) (own := [(("_law_k" : Str), 6)]) (by decide +kernel)) (src_range1 (ea_cons (ev_var 2 rfl (.inl rfl) rfl) ea_nil) (by exact rfl) T.n_range (by walk_at "sd") (by walk_at "sd")) (by simp [names]) (by decide) (by walk_at "sd") (fun _ zc2 _ zhyzc2 _ _ _ _ _ => (eg_nameC 6 nd rfl (.inl rfl) (by decide) (.inr rfl))) (fun _ zc2 _ zhyzc2 _ _ _ _ _ => ev_int)) (ev_lcM (enc2 := D.int) 199 (fun zc3 : Nat => (0 : Int)) _ rfl nd (blkOk_by (N := ["_law_numbers_here", "_law_period", "_law_budget_here", "_law_offset", "_law_capacity", "_law_due", "_law_k", "_law_actual", "_law_plain", "_law_leasts_here", "_law_singles", "_law_length", "_law_told"]) (sc := defScope s_law_server) (own := [(("_law_k" : Str), 6)]) (by decide +kernel)) (src_range1 (ea_cons (ev_bin o_sub (ev_var 1 rfl (.inl rfl) rfl) (ev_var 2 rfl (.inl rfl) rfl)) ea_nil) (by exact rfl) T.n_range (by walk_at "sd") (by walk_at "sd")) (by simp [names]) (by decide) (by walk_at "sd") (fun _ zc3 _ zhyzc3 _ _ _ _ _ => (eg_nameC 6 nd rfl (.inl rfl) (by decide) (.inr rfl))) (fun _ zc3 _ zhyzc3 _ _ _ _ _ => ev_int))) (nomark _)) (fun (zh2 : (¬ (plain = (((List.range (budget).toNat).map (fun zc2 : Nat => (1 : Int))) ++ ((List.range ((period - budget)).toNat).map (fun zc3 : Nat => (0 : Int))))))) => ?_) (fun (zh2 : ¬ (¬ (plain = (((List.range (budget).toNat).map (fun zc2 : Nat => (1 : Int))) ++ ((List.range ((period - budget)).toNat).map (fun zc3 : Nat => (0 : Int))))))) => ?_))
      · skip
        refine exs_one (ex_ret ev_bl ?_)
        have efin : m_law_server numbers = false := by first | (subst zg_plain; subst zg_actual; subst zg_due; subst zg_capacity; subst zg_offset; subst zg_budget; subst zg_period; simp only [m_law_server, not_true_eq_false, not_false_eq_true, ↓reduceIte, ↓if_neg zh1, ↓if_pos zh2]; done) | (subst zg_plain; subst zg_actual; subst zg_due; subst zg_capacity; subst zg_offset; subst zg_budget; subst zg_period; first | exact absurd rfl zh2)
        rw [efin] at zk
        exact zk _
      · skip
        refine exs_nil ?_
        show Exs _ _ _ ⟨[some (.fr ((eL D.int) numbers)), some (.fr (D.int period)), some (.fr (D.int budget)), some (.fr (D.int offset)), some (.fr (D.int capacity)), some (.fr ((eL D.int) ((List.range (budget).toNat).foldl (m_law_server_l0 period offset capacity) due))), none, some (.fr ((eL D.int) actual)), some (.fr ((eL D.int) plain)), none, none, none, none], []⟩ _
        refine exs_cons (ex_set 9 (ev_call (ds := [(eL D.int) ((List.range (budget).toNat).foldl (m_law_server_l0 period offset capacity) due), D.int ((3 : Int) * period)]) (ds' := []) (dvs := []) (dfs := []) O_law_leasts (zhr.mono (by decide)) T.m_law_leasts T.k_law_leasts T.b_law_leasts .nil (fun _ => .nil) (ea_cons (ev_var 5 rfl (.inl rfl) rfl) (ea_cons (ev_bin (o_mul (by walk_at "mul")) ev_int (ev_var 1 rfl (.inl rfl) rfl)) ea_nil)) (fun _ zkk => ⟨((List.range (budget).toNat).foldl (m_law_server_l0 period offset capacity) due), ((3 : Int) * period), rfl, rfl, (by walk_at "pre"), zkk⟩) (by exact rfl)) ?_ nd rfl (.inl rfl))
        show Exs _ _ _ ⟨[some (.fr ((eL D.int) numbers)), some (.fr (D.int period)), some (.fr (D.int budget)), some (.fr (D.int offset)), some (.fr (D.int capacity)), some (.fr ((eL D.int) ((List.range (budget).toNat).foldl (m_law_server_l0 period offset capacity) due))), none, some (.fr ((eL D.int) actual)), some (.fr ((eL D.int) plain)), some (.fr ((eL D.int) (m_law_leasts ((List.range (budget).toNat).foldl (m_law_server_l0 period offset capacity) due) ((3 : Int) * period)))), none, none, none], []⟩ _
        generalize zg_leasts : (m_law_leasts ((List.range (budget).toNat).foldl (m_law_server_l0 period offset capacity) due) ((3 : Int) * period)) = leasts
        show Exs _ _ _ ⟨[some (.fr ((eL D.int) numbers)), some (.fr (D.int period)), some (.fr (D.int budget)), some (.fr (D.int offset)), some (.fr (D.int capacity)), some (.fr ((eL D.int) ((List.range (budget).toNat).foldl (m_law_server_l0 period offset capacity) due))), none, some (.fr ((eL D.int) actual)), some (.fr ((eL D.int) plain)), some (.fr ((eL D.int) leasts)), none, none, none], []⟩ _
        have hll := leasts_len ((List.range budget.toNat).foldl (m_law_server_l0 period offset capacity) due) (m := 3 * period) (by omega)
        rw [zg_leasts] at hll
        refine exs_cons (ex_set 10 (ev_call (ds := [(eL D.int) plain, D.int ((3 : Int) * period)]) (ds' := []) (dvs := []) (dfs := []) O_law_leasts (zhr.mono (by decide)) T.m_law_leasts T.k_law_leasts T.b_law_leasts .nil (fun _ => .nil) (ea_cons (ev_var 8 rfl (.inl rfl) rfl) (ea_cons (ev_bin (o_mul (by walk_at "mul")) ev_int (ev_var 1 rfl (.inl rfl) rfl)) ea_nil)) (fun _ zkk => ⟨plain, ((3 : Int) * period), rfl, rfl, (by walk_at "pre"), zkk⟩) (by exact rfl)) ?_ nd rfl (.inl rfl))
        show Exs _ _ _ ⟨[some (.fr ((eL D.int) numbers)), some (.fr (D.int period)), some (.fr (D.int budget)), some (.fr (D.int offset)), some (.fr (D.int capacity)), some (.fr ((eL D.int) ((List.range (budget).toNat).foldl (m_law_server_l0 period offset capacity) due))), none, some (.fr ((eL D.int) actual)), some (.fr ((eL D.int) plain)), some (.fr ((eL D.int) leasts)), some (.fr ((eL D.int) (m_law_leasts plain ((3 : Int) * period)))), none, none], []⟩ _
        generalize zg_singles : (m_law_leasts plain ((3 : Int) * period)) = singles
        show Exs _ _ _ ⟨[some (.fr ((eL D.int) numbers)), some (.fr (D.int period)), some (.fr (D.int budget)), some (.fr (D.int offset)), some (.fr (D.int capacity)), some (.fr ((eL D.int) ((List.range (budget).toNat).foldl (m_law_server_l0 period offset capacity) due))), none, some (.fr ((eL D.int) actual)), some (.fr ((eL D.int) plain)), some (.fr ((eL D.int) leasts)), some (.fr ((eL D.int) singles)), none, none], []⟩ _
        have hls := leasts_len plain (m := 3 * period) (by omega)
        rw [zg_singles] at hls
        refine exs_cons (ex_forE (enc := (fun i : Nat => D.int ((0 : Int) + (i : Int)))) (fun (zs0 : Unit) => (⟨[some (.fr ((eL D.int) numbers)), some (.fr (D.int period)), some (.fr (D.int budget)), some (.fr (D.int offset)), some (.fr (D.int capacity)), some (.fr ((eL D.int) ((List.range (budget).toNat).foldl (m_law_server_l0 period offset capacity) due))), none, some (.fr ((eL D.int) actual)), some (.fr ((eL D.int) plain)), some (.fr ((eL D.int) leasts)), some (.fr ((eL D.int) singles)), none, none], []⟩ : Nz.S)) (m_law_server_l1 period budget capacity leasts singles) () (fun (zi0 : Nat) (zs0 : Unit) => True) (fun r c S' => c = .fr (D.bl r) ∧ True) (src_range1 (ea_cons (ev_bin o_add (ev_bin (o_mul (by walk_at "mul")) ev_int (ev_var 1 rfl (.inl rfl) rfl)) ev_int) ea_nil) (by exact rfl) T.n_range (by walk_at "sd") (by walk_at "sd")) ⟨⟨.inr rfl, .inr rfl, .inr rfl, .inr rfl, .inr rfl, .inr rfl, .inl rfl, .inr rfl, .inr rfl, .inr rfl, .inr rfl, .inl rfl, .inl rfl, trivial⟩, rfl⟩ trivial ?_ ?_ ?_ PassesOwn.never rfl)
        · intro zi0 zy0 zs0 zhy0 zrun0 zq0
          skip
          have hy0 := seq_range zhy0
          have hi := (List.getElem?_eq_some_iff.mp zhy0).1
          simp only [List.length_range] at hi
          refine ⟨⟨[some (.fr ((eL D.int) numbers)), some (.fr (D.int period)), some (.fr (D.int budget)), some (.fr (D.int offset)), some (.fr (D.int capacity)), some (.fr ((eL D.int) ((List.range (budget).toNat).foldl (m_law_server_l0 period offset capacity) due))), none, some (.fr ((eL D.int) actual)), some (.fr ((eL D.int) plain)), some (.fr ((eL D.int) leasts)), some (.fr ((eL D.int) singles)), some (.fr (D.int ((0 : Int) + (zy0 : Int)))), none], []⟩, (eg_name 11 nd rfl (.inl rfl)), ?_⟩
          refine exs_cons (ex_set 12 (ev_callKw0 (es' := [D.int period, D.int budget, D.int ((0 : Int) + (zy0 : Int)), D.int capacity]) (ks := ["period", "budget", "length", "capacity"]) O_server_supply (zhr.mono (by decide)) T.m_server_supply T.k_server_supply T.kb_server_supply_0_period_budget_length_capacity (ek_cons (ev_var 1 rfl (.inl rfl) rfl) (ek_cons (ev_var 2 rfl (.inl rfl) rfl) (ek_cons (ev_var 11 rfl (.inl rfl) rfl) (ek_cons (ev_var 4 rfl (.inl rfl) rfl) ek_nil)))) rfl (fun _ zkk => ⟨period, budget, ((0 : Int) + (zy0 : Int)), capacity, rfl, rfl, (by walk_at "pre"), zkk⟩) (by exact rfl)) ?_ nd rfl (.inl rfl))
          show Exs _ _ _ ⟨[some (.fr ((eL D.int) numbers)), some (.fr (D.int period)), some (.fr (D.int budget)), some (.fr (D.int offset)), some (.fr (D.int capacity)), some (.fr ((eL D.int) ((List.range (budget).toNat).foldl (m_law_server_l0 period offset capacity) due))), none, some (.fr ((eL D.int) actual)), some (.fr ((eL D.int) plain)), some (.fr ((eL D.int) leasts)), some (.fr ((eL D.int) singles)), some (.fr (D.int ((0 : Int) + (zy0 : Int)))), some (.fr (D.int (m_server_supply period budget ((0 : Int) + (zy0 : Int)) capacity)))], []⟩ _
          generalize zg_told : (m_server_supply period budget ((0 : Int) + (zy0 : Int)) capacity) = told
          show Exs _ _ _ ⟨[some (.fr ((eL D.int) numbers)), some (.fr (D.int period)), some (.fr (D.int budget)), some (.fr (D.int offset)), some (.fr (D.int capacity)), some (.fr ((eL D.int) ((List.range (budget).toNat).foldl (m_law_server_l0 period offset capacity) due))), none, some (.fr ((eL D.int) actual)), some (.fr ((eL D.int) plain)), some (.fr ((eL D.int) leasts)), some (.fr ((eL D.int) singles)), some (.fr (D.int ((0 : Int) + (zy0 : Int)))), some (.fr (D.int told))], []⟩ _
          refine exs_cons (ex_ifP (bd_or (bd_not Iff.rfl) bd_n) (Ew.et (ew_orP (bd_not Iff.rfl) (et_not (et_val (ev_call (ds := [D.int told]) (ds' := []) (dvs := []) (dfs := []) O_law_is_integer (zhr.mono (by decide)) T.m_law_is_integer T.k_law_is_integer T.b_law_is_integer .nil (fun _ => .nil) (ea_cons (ev_var 12 rfl (.inl rfl) rfl) ea_nil) (fun _ zkk => ⟨told, rfl, rfl, trivial, zkk⟩) (by exact rfl)))) (fun zhp => (ew_or1 (et_cmp o_nei (ev_var 12 rfl (.inl rfl) rfl) (ev_ix (ix_L (xs := leasts) (enc := D.int) (by exact rfl) (by walk_at "sd") (by walk_at "sd")) (ev_var 9 rfl (.inl rfl) rfl) (ev_var 11 rfl (.inl rfl) rfl)) (nomark _)))))) (fun (zh3 : ((¬ ((m_law_is_integer told) = true)) ∨ (¬ (told = (leasts.getD (((0 : Int) + (zy0 : Int))).toNat default))))) => ?_) (fun (zh3 : ¬ ((¬ ((m_law_is_integer told) = true)) ∨ (¬ (told = (leasts.getD (((0 : Int) + (zy0 : Int))).toNat default))))) => ?_))
          · skip
            refine exs_one (ex_ret ev_bl ?_)
            have est : (m_law_server_l1 period budget capacity leasts singles) zs0 zy0 = .error false := by subst zg_told; simp only [m_law_server_l1, not_true_eq_false, not_false_eq_true, ↓reduceIte, ↓if_pos zh3]
            exact ⟨_, est, rfl, trivial⟩
          · skip
            refine exs_nil ?_
            show Exs _ _ _ ⟨[some (.fr ((eL D.int) numbers)), some (.fr (D.int period)), some (.fr (D.int budget)), some (.fr (D.int offset)), some (.fr (D.int capacity)), some (.fr ((eL D.int) ((List.range (budget).toNat).foldl (m_law_server_l0 period offset capacity) due))), none, some (.fr ((eL D.int) actual)), some (.fr ((eL D.int) plain)), some (.fr ((eL D.int) leasts)), some (.fr ((eL D.int) singles)), some (.fr (D.int ((0 : Int) + (zy0 : Int)))), some (.fr (D.int told))], []⟩ _
            refine exs_one (ex_ifP bd_n (et_cmp o_nei (ev_callKwD0 (es' := [D.int period, D.int budget, D.int ((0 : Int) + (zy0 : Int))]) (dd := [D.int (1 : Int)]) (ks := ["period", "budget", "length"]) O_server_supply (zhr.mono (by decide)) T.m_server_supply T.k_server_supply T.kb_server_supply_0_period_budget_length T.rkb_server_supply_0_period_budget_length (ek_cons (ev_var 1 rfl (.inl rfl) rfl) (ek_cons (ev_var 2 rfl (.inl rfl) rfl) (ek_cons (ev_var 11 rfl (.inl rfl) rfl) ek_nil))) rfl (fun _ zkk => ⟨period, budget, ((0 : Int) + (zy0 : Int)), (1 : Int), rfl, rfl, (by walk_at "pre"), zkk⟩) (by exact rfl)) (ev_ix (ix_L (xs := singles) (enc := D.int) (by exact rfl) (by walk_at "sd") (by walk_at "sd")) (ev_var 10 rfl (.inl rfl) rfl) (ev_var 11 rfl (.inl rfl) rfl)) (nomark _)) (fun (zh4 : (¬ ((m_server_supply period budget ((0 : Int) + (zy0 : Int)) (1 : Int)) = (singles.getD (((0 : Int) + (zy0 : Int))).toNat default)))) => ?_) (fun (zh4 : ¬ (¬ ((m_server_supply period budget ((0 : Int) + (zy0 : Int)) (1 : Int)) = (singles.getD (((0 : Int) + (zy0 : Int))).toNat default)))) => ?_))
            · skip
              refine exs_one (ex_ret ev_bl ?_)
              have est : (m_law_server_l1 period budget capacity leasts singles) zs0 zy0 = .error false := by subst zg_told; simp only [m_law_server_l1, not_true_eq_false, not_false_eq_true, ↓reduceIte, ↓if_neg zh3, ↓if_pos zh4]
              exact ⟨_, est, rfl, trivial⟩
            · skip
              refine exs_nil ?_
              have est : (m_law_server_l1 period budget capacity leasts singles) zs0 zy0 = .ok () := by subst zg_told; simp only [m_law_server_l1, not_true_eq_false, not_false_eq_true, ↓reduceIte, ↓if_neg zh3, ↓if_neg zh4]
              exact ⟨_, est, ⟨⟨.inr rfl, .inr rfl, .inr rfl, .inr rfl, .inr rfl, .inr rfl, .inl rfl, .inr rfl, .inr rfl, .inr rfl, .inr rfl, .inl rfl, .inl rfl, trivial⟩, rfl⟩, trivial⟩
        · rintro zr zc zS zrun0 ⟨rfl, zhL⟩
          skip
          have zh5 := zrun0
          have efin : m_law_server numbers = zr := by subst zg_singles; subst zg_leasts; subst zg_plain; subst zg_actual; subst zg_due; subst zg_capacity; subst zg_offset; subst zg_budget; subst zg_period; simp only [m_law_server, not_true_eq_false, not_false_eq_true, ↓reduceIte, ↓if_neg zh1, ↓if_neg zh2, ↓zh5]
          rw [efin] at zk
          exact zk _
        · intro zs0 zrun0 zq0
          have zh6 := zrun0
          show Exs _ _ _ ⟨[some (.fr ((eL D.int) numbers)), some (.fr (D.int period)), some (.fr (D.int budget)), some (.fr (D.int offset)), some (.fr (D.int capacity)), some (.fr ((eL D.int) ((List.range (budget).toNat).foldl (m_law_server_l0 period offset capacity) due))), none, some (.fr ((eL D.int) actual)), some (.fr ((eL D.int) plain)), some (.fr ((eL D.int) leasts)), some (.fr ((eL D.int) singles)), none, none], []⟩ _
          refine exs_one (ex_ret ev_bl ?_)
          have efin : m_law_server numbers = true := by subst zg_singles; subst zg_leasts; subst zg_plain; subst zg_actual; subst zg_due; subst zg_capacity; subst zg_offset; subst zg_budget; subst zg_period; simp only [m_law_server, not_true_eq_false, not_false_eq_true, ↓reduceIte, ↓if_neg zh1, ↓if_neg zh2, ↓zh6]
          rw [efin] at zk
          exact zk _
def m_law_enough_l0 (works : List Int) (leasts : List Int) (zs0 : Unit) (zy0 : Nat) : Except Bool (Unit) :=
  if ((leasts.getD (((0 : Int) + (zy0 : Int))).toNat default) < (works.getD (((0 : Int) + (zy0 : Int))).toNat default)) then .error false else .ok ()
def m_law_enough (works : List Int) (table : List Int) : Bool :=
  let leasts1 : List Int := (m_law_leasts table ((works.length : Int) - (1 : Int)))
  match (runE (m_law_enough_l0 works leasts1) (List.range ((works.length : Int)).toNat) ()) with | .error r => r | .ok zs0 => true
theorem sc_law_enough : FnScope ["_law_works", "_law_table", "_law_leasts_here", "_law_length"] ["_law_works", "_law_table"] (defScope s_law_enough) := ⟨rfl, rfl, rfl, by decide +kernel, rfl, by decide +kernel, by decide +kernel⟩
def sp_law_enough : SpN := fun zcs zL zKc => ∃ works : List Int, ∃ table : List Int, zcs = [.fr ((eL D.int) works), .fr ((eL D.int) table)] ∧ zL = [] ∧ (0 < works.length ∧ works.length ≤ 1001 ∧ 0 < table.length ∧ table.length ≤ 1001 ∧ 0 ≤ table.sum ∧ table.sum < 2 ^ 29) ∧ ∀ zL', zKc (.fr (D.bl (m_law_enough works table))) zL'
theorem ok_law_enough (T : TX P K mg) : FnOk P w K mg base CX0 2 T.a_law_enough T.d_law_enough ["_law_works", "_law_table"] (SpOf K mg sp_law_enough) := by
  have O_law_leasts := ok_law_leasts (P := P) (w := w) (base := base) T
  refine T.F_law_enough.okN sc_law_enough (fun zcs zL zKc zh => by obtain ⟨works, table, rfl, _⟩ := zh; rfl) fun zcdv zA zout zst zH zE zB zcs zL zKc zhr zh => ?_
  obtain ⟨works, table, rfl, rfl, hpre, zk⟩ := zh
  have nd := sc_law_enough.nd
  have hSL := sizeLine_eq
  show Exs _ _ _ ⟨[some (.fr ((eL D.int) works)), some (.fr ((eL D.int) table)), none, none], []⟩ _
  refine exs_cons (ex_set 2 (ev_call (ds := [(eL D.int) table, D.int ((works.length : Int) - (1 : Int))]) (ds' := []) (dvs := []) (dfs := []) O_law_leasts (zhr.mono (by decide)) T.m_law_leasts T.k_law_leasts T.b_law_leasts .nil (fun _ => .nil) (ea_cons (ev_var 1 rfl (.inl rfl) rfl) (ea_cons (ev_bin o_sub (ev_len (ln_L (xs := works) (enc := D.int) (by exact rfl)) (ev_var 0 rfl (.inl rfl) rfl) (by exact rfl) T.n_len) ev_int) ea_nil)) (fun _ zkk => ⟨table, ((works.length : Int) - (1 : Int)), rfl, rfl, (by walk_at "pre"), zkk⟩) (by exact rfl)) ?_ nd rfl (.inl rfl))
  show Exs _ _ _ ⟨[some (.fr ((eL D.int) works)), some (.fr ((eL D.int) table)), some (.fr ((eL D.int) (m_law_leasts table ((works.length : Int) - (1 : Int))))), none], []⟩ _
  generalize zg_leasts : (m_law_leasts table ((works.length : Int) - (1 : Int))) = leasts
  show Exs _ _ _ ⟨[some (.fr ((eL D.int) works)), some (.fr ((eL D.int) table)), some (.fr ((eL D.int) leasts)), none], []⟩ _
  have hll := leasts_len table (m := (works.length : Int) - 1) (by omega)
  rw [zg_leasts] at hll
  refine exs_cons (ex_forE (enc := (fun i : Nat => D.int ((0 : Int) + (i : Int)))) (fun (zs0 : Unit) => (⟨[some (.fr ((eL D.int) works)), some (.fr ((eL D.int) table)), some (.fr ((eL D.int) leasts)), none], []⟩ : Nz.S)) (m_law_enough_l0 works leasts) () (fun (zi0 : Nat) (zs0 : Unit) => True) (fun r c S' => c = .fr (D.bl r) ∧ True) (src_range1 (ea_cons (ev_len (ln_L (xs := works) (enc := D.int) (by exact rfl)) (ev_var 0 rfl (.inl rfl) rfl) (by exact rfl) T.n_len) ea_nil) (by exact rfl) T.n_range (by walk_at "sd") (by walk_at "sd")) ⟨⟨.inr rfl, .inr rfl, .inr rfl, .inl rfl, trivial⟩, rfl⟩ trivial ?_ ?_ ?_ PassesOwn.never rfl)
  · intro zi0 zy0 zs0 zhy0 zrun0 zq0
    skip
    have hy0 := seq_range zhy0
    have hi := (List.getElem?_eq_some_iff.mp zhy0).1
    simp only [List.length_range] at hi
    refine ⟨⟨[some (.fr ((eL D.int) works)), some (.fr ((eL D.int) table)), some (.fr ((eL D.int) leasts)), some (.fr (D.int ((0 : Int) + (zy0 : Int))))], []⟩, (eg_name 3 nd rfl (.inl rfl)), ?_⟩
    refine exs_one (ex_ifP bd_d (et_cmp o_gt (ev_ix (ix_L (xs := works) (enc := D.int) (by exact rfl) (by walk_at "sd") (by walk_at "sd")) (ev_var 0 rfl (.inl rfl) rfl) (ev_var 3 rfl (.inl rfl) rfl)) (ev_ix (ix_L (xs := leasts) (enc := D.int) (by exact rfl) (by walk_at "sd") (by walk_at "sd")) (ev_var 2 rfl (.inl rfl) rfl) (ev_var 3 rfl (.inl rfl) rfl)) (nomark _)) (fun (zh1 : ((leasts.getD (((0 : Int) + (zy0 : Int))).toNat default) < (works.getD (((0 : Int) + (zy0 : Int))).toNat default))) => ?_) (fun (zh1 : ¬ ((leasts.getD (((0 : Int) + (zy0 : Int))).toNat default) < (works.getD (((0 : Int) + (zy0 : Int))).toNat default))) => ?_))
    · skip
      refine exs_one (ex_ret ev_bl ?_)
      have est : (m_law_enough_l0 works leasts) zs0 zy0 = .error false := by simp only [m_law_enough_l0, not_true_eq_false, not_false_eq_true, ↓reduceIte, ↓if_pos zh1]
      exact ⟨_, est, rfl, trivial⟩
    · skip
      refine exs_nil ?_
      have est : (m_law_enough_l0 works leasts) zs0 zy0 = .ok () := by simp only [m_law_enough_l0, not_true_eq_false, not_false_eq_true, ↓reduceIte, ↓if_neg zh1]
      exact ⟨_, est, ⟨⟨.inr rfl, .inr rfl, .inr rfl, .inl rfl, trivial⟩, rfl⟩, trivial⟩
  · rintro zr zc zS zrun0 ⟨rfl, zhL⟩
    skip
    have zh2 := zrun0
    have efin : m_law_enough works table = zr := by subst zg_leasts; simp only [m_law_enough, not_true_eq_false, not_false_eq_true, ↓reduceIte, ↓zh2]
    rw [efin] at zk
    exact zk _
  · intro zs0 zrun0 zq0
    have zh3 := zrun0
    show Exs _ _ _ ⟨[some (.fr ((eL D.int) works)), some (.fr ((eL D.int) table)), some (.fr ((eL D.int) leasts)), none], []⟩ _
    refine exs_one (ex_ret ev_bl ?_)
    have efin : m_law_enough works table = true := by subst zg_leasts; simp only [m_law_enough, not_true_eq_false, not_false_eq_true, ↓reduceIte, ↓zh3]
    rw [efin] at zk
    exact zk _
def m_law_reserved (period : Int) (budget : Int) (capacity : Int) : List Int :=
  (((List.range (budget).toNat).map (fun zc3 : Nat => capacity)) ++ ((List.range ((period - budget)).toNat).map (fun zc4 : Nat => (0 : Int))))
theorem res82 {p b c : Int} (hp : 1 ≤ p ∧ p ≤ 8) (hb : b ≤ 8) (hc : 0 ≤ c ∧ c ≤ 1000) : 0 < (m_law_reserved p b c).length ∧ (m_law_reserved p b c).length ≤ 1001 ∧ 0 ≤ (m_law_reserved p b c).sum ∧ (m_law_reserved p b c).sum < 2 ^ 29 ∨ b < -900 := by
  by_cases hb0 : b < -900
  · exact .inr hb0
  left
  have hl : (m_law_reserved p b c).length = b.toNat + (p - b).toNat := by unfold m_law_reserved; rw [List.length_append, List.length_map, List.length_map, List.length_range, List.length_range]
  have h : ∀ x ∈ m_law_reserved p b c, 0 ≤ x ∧ x ≤ 1000 := fun x hx => by
    unfold m_law_reserved at hx
    rcases List.mem_append.mp hx with q | q
    · obtain ⟨_, _, rfl⟩ := List.mem_map.mp q; exact hc
    · obtain ⟨_, _, rfl⟩ := List.mem_map.mp q; decide
  have s := tsum82 h
  rw [hl] at s ⊢
  refine ⟨by omega, by omega, by omega, by omega⟩
theorem sc_law_reserved : FnScope ["_law_period", "_law_budget_here", "_law_capacity", "_law_k"] ["_law_period", "_law_budget_here", "_law_capacity"] (defScope s_law_reserved) := ⟨rfl, rfl, rfl, by decide +kernel, rfl, by decide +kernel, by decide +kernel⟩
def sp_law_reserved : SpN := fun zcs zL zKc => ∃ period : Int, ∃ budget : Int, ∃ capacity : Int, zcs = [.fr (D.int period), .fr (D.int budget), .fr (D.int capacity)] ∧ zL = [] ∧ (-900 ≤ period ∧ period ≤ 8 ∧ -900 ≤ budget ∧ budget ≤ 8) ∧ ∀ zL', zKc (.fr ((eL D.int) (m_law_reserved period budget capacity))) zL'
theorem ok_law_reserved (T : TX P K mg) : FnOk P w K mg base CX0 1 T.a_law_reserved T.d_law_reserved ["_law_period", "_law_budget_here", "_law_capacity"] (SpOf K mg sp_law_reserved) := by
  refine T.F_law_reserved.okN sc_law_reserved (fun zcs zL zKc zh => by obtain ⟨period, budget, capacity, rfl, _⟩ := zh; rfl) fun zcdv zA zout zst zH zE zB zcs zL zKc zhr zh => ?_
  obtain ⟨period, budget, capacity, rfl, rfl, hpre, zk⟩ := zh
  have nd := sc_law_reserved.nd
  have hSL := sizeLine_eq
  show Exs _ _ _ ⟨[some (.fr (D.int period)), some (.fr (D.int budget)), some (.fr (D.int capacity)), none], []⟩ _
  refine exs_one (ex_ret (ev_bin (o_catT (enc := D.int) (xs := ((List.range (budget).toNat).map (fun zc1 : Nat => capacity))) (ys := ((List.range ((period - budget)).toNat).map (fun zc2 : Nat => (0 : Int)))) (by walk_at "sd")) (ev_lcM (enc2 := D.int) 199 (fun zc1 : Nat => capacity) _ rfl nd (blkOk_by (N := ["_law_period", "_law_budget_here", "_law_capacity", "_law_k"]) (sc := defScope s_law_reserved) (own := [(("_law_k" : Str), 3)]) (by decide +kernel)) (src_range1 (ea_cons (ev_var 1 rfl (.inl rfl) rfl) ea_nil) (by exact rfl) T.n_range (by walk_at "sd") (by walk_at "sd")) (by simp [names]) (by decide) (by walk_at "sd") (fun _ zc1 _ zhyzc1 _ _ _ _ _ => (eg_nameC 3 nd rfl (.inl rfl) (by decide) (.inr rfl))) (fun _ zc1 _ zhyzc1 _ _ _ _ _ => (ev_var 2 rfl (.inr (.inl rfl)) rfl))) (ev_lcM (enc2 := D.int) 199 (fun zc2 : Nat => (0 : Int)) _ rfl nd (blkOk_by (N := ["_law_period", "_law_budget_here", "_law_capacity", "_law_k"]) (sc := defScope s_law_reserved) (own := [(("_law_k" : Str), 3)]) (by decide +kernel)) (src_range1 (ea_cons (ev_bin o_sub (ev_var 0 rfl (.inl rfl) rfl) (ev_var 1 rfl (.inl rfl) rfl)) ea_nil) (by exact rfl) T.n_range (by walk_at "sd") (by walk_at "sd")) (by simp [names]) (by decide) (by walk_at "sd") (fun _ zc2 _ zhyzc2 _ _ _ _ _ => (eg_nameC 3 nd rfl (.inl rfl) (by decide) (.inr rfl))) (fun _ zc2 _ zhyzc2 _ _ _ _ _ => ev_int))) ?_)
  have efin : m_law_reserved period budget capacity = (((List.range (budget).toNat).map (fun zc1 : Nat => capacity)) ++ ((List.range ((period - budget)).toNat).map (fun zc2 : Nat => (0 : Int)))) := by simp only [m_law_reserved, not_true_eq_false, not_false_eq_true, ↓reduceIte]
  rw [efin] at zk
  exact zk _
def m_law_budget_l0 (works : List Int) (period : Int) (capacity : Int) (zs0 : Unit) (zy0 : Nat) : Except (Option Int) (Unit) :=
  if ((m_law_enough works (m_law_reserved period ((0 : Int) + (zy0 : Int)) capacity)) = true) then .error (some ((0 : Int) + (zy0 : Int))) else .ok ()
def m_law_budget (works : List Int) (period : Int) (capacity : Int) : Option Int :=
  match (runE (m_law_budget_l0 works period capacity) (List.range ((period + (1 : Int))).toNat) ()) with | .error r => r | .ok zs0 => (none : Option Int)
set_option hygiene false in
local macro_rules | `(tactic| walk_at "pre") => `(tactic| first | exact ⟨by omega, by omega, by omega, by omega⟩ | exact ⟨by omega, by omega, hrs.1, hrs.2.1, hrs.2.2.1, hrs.2.2.2⟩ | fail)
theorem sc_law_budget : FnScope ["_law_works", "_law_period", "_law_capacity", "_law_budget_here"] ["_law_works", "_law_period", "_law_capacity"] (defScope s_law_budget) := ⟨rfl, rfl, rfl, by decide +kernel, rfl, by decide +kernel, by decide +kernel⟩
def sp_law_budget : SpN := fun zcs zL zKc => ∃ works : List Int, ∃ period : Int, ∃ capacity : Int, zcs = [.fr ((eL D.int) works), .fr (D.int period), .fr (D.int capacity)] ∧ zL = [] ∧ (0 < works.length ∧ works.length ≤ 1001 ∧ 1 ≤ period ∧ period ≤ 8 ∧ 0 ≤ capacity ∧ capacity ≤ 1000) ∧ ∀ zL', zKc (.fr ((eO D.int) (m_law_budget works period capacity))) zL'
theorem ok_law_budget (T : TX P K mg) : FnOk P w K mg base CX0 3 T.a_law_budget T.d_law_budget ["_law_works", "_law_period", "_law_capacity"] (SpOf K mg sp_law_budget) := by
  have O_law_enough := ok_law_enough (P := P) (w := w) (base := base) T
  have O_law_reserved := ok_law_reserved (P := P) (w := w) (base := base) T
  refine T.F_law_budget.okN sc_law_budget (fun zcs zL zKc zh => by obtain ⟨works, period, capacity, rfl, _⟩ := zh; rfl) fun zcdv zA zout zst zH zE zB zcs zL zKc zhr zh => ?_
  obtain ⟨works, period, capacity, rfl, rfl, hpre, zk⟩ := zh
  have nd := sc_law_budget.nd
  have hSL := sizeLine_eq
  show Exs _ _ _ ⟨[some (.fr ((eL D.int) works)), some (.fr (D.int period)), some (.fr (D.int capacity)), none], []⟩ _
  refine exs_cons (ex_forE (enc := (fun i : Nat => D.int ((0 : Int) + (i : Int)))) (fun (zs0 : Unit) => (⟨[some (.fr ((eL D.int) works)), some (.fr (D.int period)), some (.fr (D.int capacity)), none], []⟩ : Nz.S)) (m_law_budget_l0 works period capacity) () (fun (zi0 : Nat) (zs0 : Unit) => True) (fun r c S' => c = .fr ((eO D.int) r) ∧ True) (src_range1 (ea_cons (ev_bin o_add (ev_var 1 rfl (.inl rfl) rfl) ev_int) ea_nil) (by exact rfl) T.n_range (by walk_at "sd") (by walk_at "sd")) ⟨⟨.inr rfl, .inr rfl, .inr rfl, .inl rfl, trivial⟩, rfl⟩ trivial ?_ ?_ ?_ PassesOwn.never rfl)
  · intro zi0 zy0 zs0 zhy0 zrun0 zq0
    skip
    have hy0 := seq_range zhy0
    have hi := (List.getElem?_eq_some_iff.mp zhy0).1
    simp only [List.length_range] at hi
    have hrs := (res82 (p := period) (b := (0 : Int) + (zy0 : Int)) (c := capacity) ⟨by omega, by omega⟩ (by omega) ⟨by omega, by omega⟩).resolve_right (by omega)
    refine ⟨⟨[some (.fr ((eL D.int) works)), some (.fr (D.int period)), some (.fr (D.int capacity)), some (.fr (D.int ((0 : Int) + (zy0 : Int))))], []⟩, (eg_name 3 nd rfl (.inl rfl)), ?_⟩
    refine exs_one (ex_ifP Iff.rfl (et_val (ev_call (ds := [(eL D.int) works, (eL D.int) (m_law_reserved period ((0 : Int) + (zy0 : Int)) capacity)]) (ds' := []) (dvs := []) (dfs := []) O_law_enough (zhr.mono (by decide)) T.m_law_enough T.k_law_enough T.b_law_enough .nil (fun _ => .nil) (ea_cons (ev_var 0 rfl (.inl rfl) rfl) (ea_cons (ev_call (ds := [D.int period, D.int ((0 : Int) + (zy0 : Int)), D.int capacity]) (ds' := []) (dvs := []) (dfs := []) O_law_reserved (zhr.mono (by decide)) T.m_law_reserved T.k_law_reserved T.b_law_reserved .nil (fun _ => .nil) (ea_cons (ev_var 1 rfl (.inl rfl) rfl) (ea_cons (ev_var 3 rfl (.inl rfl) rfl) (ea_cons (ev_var 2 rfl (.inl rfl) rfl) ea_nil))) (fun _ zkk => ⟨period, ((0 : Int) + (zy0 : Int)), capacity, rfl, rfl, (by walk_at "pre"), zkk⟩) (by exact rfl)) ea_nil)) (fun _ zkk => ⟨works, (m_law_reserved period ((0 : Int) + (zy0 : Int)) capacity), rfl, rfl, (by walk_at "pre"), zkk⟩) (by exact rfl))) (fun (zh1 : ((m_law_enough works (m_law_reserved period ((0 : Int) + (zy0 : Int)) capacity)) = true)) => ?_) (fun (zh1 : ¬ ((m_law_enough works (m_law_reserved period ((0 : Int) + (zy0 : Int)) capacity)) = true)) => ?_))
    · skip
      refine exs_one (ex_ret (ev_var 3 rfl (.inl rfl) rfl) ?_)
      have est : (m_law_budget_l0 works period capacity) zs0 zy0 = .error (some ((0 : Int) + (zy0 : Int))) := by simp only [m_law_budget_l0, not_true_eq_false, not_false_eq_true, ↓reduceIte, ↓if_pos zh1]
      exact ⟨_, est, rfl, trivial⟩
    · skip
      refine exs_nil ?_
      have est : (m_law_budget_l0 works period capacity) zs0 zy0 = .ok () := by simp only [m_law_budget_l0, not_true_eq_false, not_false_eq_true, ↓reduceIte, ↓if_neg zh1]
      exact ⟨_, est, ⟨⟨.inr rfl, .inr rfl, .inr rfl, .inl rfl, trivial⟩, rfl⟩, trivial⟩
  · rintro zr zc zS zrun0 ⟨rfl, zhL⟩
    skip
    have zh2 := zrun0
    have efin : m_law_budget works period capacity = zr := by simp only [m_law_budget, not_true_eq_false, not_false_eq_true, ↓reduceIte, ↓zh2]
    rw [efin] at zk
    exact zk _
  · intro zs0 zrun0 zq0
    have zh3 := zrun0
    show Exs _ _ _ ⟨[some (.fr ((eL D.int) works)), some (.fr (D.int period)), some (.fr (D.int capacity)), none], []⟩ _
    refine exs_one (ex_ret ev_non ?_)
    have efin : m_law_budget works period capacity = (none : Option Int) := by simp only [m_law_budget, not_true_eq_false, not_false_eq_true, ↓reduceIte, ↓zh3]
    rw [efin] at zk
    exact zk _
def m_law_is (actual : Option Int) (due : Option Int) : Bool :=
  if (due.isNone = true) then (actual.isNone) else ((m_law_is_integero actual) && (decide (actual = due)))
theorem sc_law_is : FnScope ["_law_actual", "_law_due"] ["_law_actual", "_law_due"] (defScope s_law_is) := ⟨rfl, rfl, rfl, by decide +kernel, rfl, by decide +kernel, by decide +kernel⟩
def sp_law_is : SpN := fun zcs zL zKc => ∃ actual : Option Int, ∃ due : Option Int, zcs = [.fr ((eO D.int) actual), .fr ((eO D.int) due)] ∧ zL = [] ∧ (True) ∧ ∀ zL', zKc (.fr (D.bl (m_law_is actual due))) zL'
theorem ok_law_is (T : TX P K mg) : FnOk P w K mg base CX0 2 T.a_law_is T.d_law_is ["_law_actual", "_law_due"] (SpOf K mg sp_law_is) := by
  have O_law_is_integero := ok_law_is_integero (P := P) (w := w) (base := base) T
  refine T.F_law_is.okN sc_law_is (fun zcs zL zKc zh => by obtain ⟨actual, due, rfl, _⟩ := zh; rfl) fun zcdv zA zout zst zH zE zB zcs zL zKc zhr zh => ?_
  obtain ⟨actual, due, rfl, rfl, hpre, zk⟩ := zh
  have nd := sc_law_is.nd
  have hSL := sizeLine_eq
  show Exs _ _ _ ⟨[some (.fr ((eO D.int) actual)), some (.fr ((eO D.int) due))], []⟩ _
  refine exs_cons (ex_ifP Iff.rfl (et_cmp (o_isO (enc := D.int) (y := due) (fun _ => rfl)) (ev_var 1 rfl (.inl rfl) rfl) ev_non (by rfl)) (fun (zh1 : (due.isNone = true)) => ?_) (fun (zh1 : ¬ (due.isNone = true)) => ?_))
  · skip
    refine exs_one (ex_ret (ev_cmp (o_isO (enc := D.int) (y := actual) (fun _ => rfl)) (ev_var 0 rfl (.inl rfl) rfl) ev_non (by rfl)) ?_)
    have efin : m_law_is actual due = (actual.isNone) := by simp only [m_law_is, not_true_eq_false, not_false_eq_true, ↓reduceIte, ↓if_pos zh1]
    rw [efin] at zk
    exact zk _
  · skip
    refine exs_nil ?_
    show Exs _ _ _ ⟨[some (.fr ((eO D.int) actual)), some (.fr ((eO D.int) due))], []⟩ _
    refine exs_one (ex_ret (ev_andP Iff.rfl (ev_call (ds := [(eO D.int) actual]) (ds' := []) (dvs := []) (dfs := []) O_law_is_integero (zhr.mono (by decide)) T.m_law_is_integero T.k_law_is_integero T.b_law_is_integero .nil (fun _ => .nil) (ea_cons (ev_var 0 rfl (.inl rfl) rfl) ea_nil) (fun _ zkk => ⟨actual, rfl, rfl, trivial, zkk⟩) (by exact rfl)) (fun zhp => (ev_one (ev_cmp (o_eqD (e := (eO D.int)) (x := actual) (y := due) zhr.units (ee_O ee_int nn_int)) (ev_var 0 rfl (.inl rfl) rfl) (ev_var 1 rfl (.inl rfl) rfl) (nomark _))))) ?_)
    have efin : m_law_is actual due = ((m_law_is_integero actual) && (decide (actual = due))) := by simp only [m_law_is, not_true_eq_false, not_false_eq_true, ↓reduceIte, ↓if_neg zh1]
    rw [efin] at zk
    exact zk _
def m_law_needs_l0 (works : List Int) (bottom : Int) (top : Int) (lo0 : Int) (zs0 : (Option Int)) (zy0 : Nat) : (Option Int) :=
  if ((m_law_enough works (m_law_reserved (lo0 + (zy0 : Int)) (((((lo0 + (zy0 : Int)) * top) + bottom) - (1 : Int)) / bottom) (1 : Int))) = true) then (some (lo0 + (zy0 : Int))) else zs0
def m_law_needs (tasks : List Task) (works : List Int) (numbers : List Int) : Bool :=
  let horizon1 : Int := ((works.length : Int) - (1 : Int))
  let least1 : Int := (m_needed_capacity tasks horizon1)
  if ((¬ ((m_law_is_integer least1) = true)) ∨ ((least1 < (0 : Int)) ∨ (¬ ((m_law_enough works [least1]) = true)))) then false else if (((0 : Int) < least1) ∧ ((m_law_enough works [(least1 - (1 : Int))]) = true)) then false else let period1 : Int := ((1 : Int) + ((numbers.getD ((0 : Int)).toNat default) % (8 : Int)))
  let capacity1 : Int := ([(0 : Int), (1 : Int), (2 : Int), (3 : Int), (1000 : Int)].getD (((numbers.getD ((3 : Int)).toNat default) % (5 : Int))).toNat default)
  let budget1 : Option Int := (m_needed_budget tasks period1 horizon1 capacity1)
  let plain1 : Option Int := (m_needed_budget tasks period1 horizon1 (1 : Int))
  if ((¬ ((m_law_is budget1 (m_law_budget works period1 capacity1)) = true)) ∨ (¬ ((m_law_is plain1 (m_law_budget works period1 (1 : Int))) = true))) then false else let bottom1 : Int := ((1 : Int) + ((numbers.getD ((4 : Int)).toNat default) % (6 : Int)))
  let top1 : Int := ((numbers.getD ((5 : Int)).toNat default) % (bottom1 + (1 : Int)))
  let divisor1 : Int := (maxL (((List.range ((bottom1 + (1 : Int)) - (1 : Int)).toNat).filter (fun zc2 : Nat => ((decide ((top1 % ((1 : Int) + (zc2 : Int))) = (0 : Int))) && (decide ((bottom1 % ((1 : Int) + (zc2 : Int))) = (0 : Int)))))).map (fun zc2 : Nat => ((1 : Int) + (zc2 : Int)))))
  let share1 : Int × Int := ((top1 / divisor1), (bottom1 / divisor1))
  let longest1 : Option Int := (m_longest_period tasks share1 horizon1 period1)
  (m_law_is longest1 ((List.range ((period1 + (1 : Int)) - (1 : Int)).toNat).foldl (m_law_needs_l0 works bottom1 top1 (1 : Int)) (none : Option Int)))
theorem dv_mem {T b : Int} (hb : 1 ≤ b) : (1 : Int) ∈ ((List.range ((b + 1) - 1).toNat).filter (fun y : Nat => (decide ((T % ((1 : Int) + (y : Int))) = (0 : Int))) && (decide ((b % ((1 : Int) + (y : Int))) = (0 : Int))))).map (fun y : Nat => (1 : Int) + (y : Int)) :=
  List.mem_map.mpr ⟨0, List.mem_filter.mpr ⟨List.mem_range.mpr (by omega), by
    rw [Bool.and_eq_true]
    refine ⟨decide_eq_true ?_, decide_eq_true ?_⟩ <;> (rw [show (1 : Int) + ((0 : Nat) : Int) = 1 from rfl]; exact Int.emod_one _)⟩, rfl⟩
theorem dv_spec {T b : Int} (hb : 1 ≤ b) : let g := maxL (((List.range ((b + 1) - 1).toNat).filter (fun y : Nat => (decide ((T % ((1 : Int) + (y : Int))) = (0 : Int))) && (decide ((b % ((1 : Int) + (y : Int))) = (0 : Int))))).map (fun y : Nat => (1 : Int) + (y : Int))); 1 ≤ g ∧ g ≤ b ∧ T % g = 0 ∧ b % g = 0 := by
  intro g
  obtain ⟨y, hy, e⟩ := List.mem_map.mp (maxL_mem (List.ne_nil_of_mem (dv_mem (T := T) hb)))
  obtain ⟨h1, h2⟩ := List.mem_filter.mp hy
  have h1 := List.mem_range.mp h1
  rw [Bool.and_eq_true] at h2
  have a := of_decide_eq_true h2.1
  have c := of_decide_eq_true h2.2
  have e : (1 : Int) + (y : Int) = g := e
  rw [e] at a c
  exact ⟨by omega, by omega, a, c⟩
theorem sh82 {T b g : Int} (hT : 0 ≤ T ∧ T ≤ b) (hb : 1 ≤ b ∧ b ≤ 6) (hg : 1 ≤ g ∧ g ≤ b) (hbg : b % g = 0) : let s : Int × Int := ((T / g), (b / g)); 0 ≤ s.1 ∧ s.1 ≤ s.2 ∧ 1 ≤ s.2 ∧ s.2 ≤ 6 := by
  refine ⟨Int.ediv_nonneg hT.1 (by omega), Int.ediv_le_ediv (by omega) hT.2, Int.le_ediv_of_mul_le (by omega) (by omega), ?_⟩
  have := Int.ediv_le_self g (show 0 ≤ b by omega)
  show b / g ≤ 6
  omega
theorem cb82 {k T b : Int} (hk : 1 ≤ k ∧ k ≤ 8) (hT : 0 ≤ T ∧ T ≤ b) (hb : 1 ≤ b) : 0 ≤ (k * T + b - 1) / b ∧ (k * T + b - 1) / b ≤ k := by
  have h1 : 0 ≤ k * T := Int.mul_nonneg (by omega) hT.1
  have h2 : k * T ≤ k * b := Int.mul_le_mul_of_nonneg_left hT.2 (by omega)
  refine ⟨Int.ediv_nonneg (by omega) (by omega), ?_⟩
  have h3 : (k * T + b - 1) / b < k + 1 := Int.ediv_lt_of_lt_mul (by omega) (by rw [Int.add_mul, Int.one_mul]; omega)
  omega
set_option hygiene false in
local macro_rules | `(tactic| walk_at "pre") => `(tactic| first | exact ⟨hpre.1, by omega, by omega⟩ | exact ⟨by omega, by omega, by simp, by simp, by simp; omega, by simp; omega⟩ | exact ⟨hpre.1, by omega, by omega, by omega, by omega, by omega, by omega⟩ | exact ⟨hpre.1, by omega, by omega, by omega, by omega, by omega, by omega, by omega, by omega⟩ | exact ⟨by omega, by omega, by omega, by omega, by omega, by omega⟩ | exact ⟨by omega, by omega, by omega, by omega⟩ | exact ⟨by omega, by omega, hrs.1, hrs.2.1, hrs.2.2.1, hrs.2.2.2⟩ | fail)
set_option hygiene false in
local macro_rules | `(tactic| walk_at "ne") => `(tactic| first | exact hdm | fail)
theorem sc_law_needs : FnScope ["_law_tasks", "_law_works", "_law_numbers_here", "_law_horizon", "_law_least", "_law_period", "_law_capacity", "_law_budget_here", "_law_plain", "_law_bottom", "_law_top", "_law_divisor", "_law_share", "_law_longest", "_law_due", "_law_k"] ["_law_tasks", "_law_works", "_law_numbers_here"] (defScope s_law_needs) := ⟨rfl, rfl, rfl, by decide +kernel, rfl, by decide +kernel, by decide +kernel⟩
def sp_law_needs : SpN := fun zcs zL zKc => ∃ tasks : List Task, ∃ works : List Int, ∃ numbers : List Int, zcs = [.fr ((eL eTask) tasks), .fr ((eL D.int) works), .fr ((eL D.int) numbers)] ∧ zL = [] ∧ ((∀ t ∈ tasks, t.ok) ∧ 2 ≤ works.length ∧ works.length ≤ 25 ∧ (∀ x ∈ m_joint_demands tasks ((works.length : Int) - (1 : Int)), 0 ≤ x ∧ x ≤ 100000) ∧ numbers.length = 90 ∧ ∀ x ∈ numbers, 0 ≤ x ∧ x ≤ 1008) ∧ ∀ zL', zKc (.fr (D.bl (m_law_needs tasks works numbers))) zL'
theorem ok_law_needs (T : TX P K mg) : FnOk P w K mg base CX0 9 T.a_law_needs T.d_law_needs ["_law_tasks", "_law_works", "_law_numbers_here"] (SpOf K mg sp_law_needs) := by
  have O_law_budget := ok_law_budget (P := P) (w := w) (base := base) T
  have O_law_enough := ok_law_enough (P := P) (w := w) (base := base) T
  have O_law_is := ok_law_is (P := P) (w := w) (base := base) T
  have O_law_is_integer := ok_law_is_integer (P := P) (w := w) (base := base) T
  have O_law_reserved := ok_law_reserved (P := P) (w := w) (base := base) T
  have O_longest_period := ok_longest_period (P := P) (w := w) (base := base) T
  have O_needed_budget := ok_needed_budget (P := P) (w := w) (base := base) T
  have O_needed_capacity := ok_needed_capacity (P := P) (w := w) (base := base) T
  refine T.F_law_needs.okN sc_law_needs (fun zcs zL zKc zh => by obtain ⟨tasks, works, numbers, rfl, _⟩ := zh; rfl) fun zcdv zA zout zst zH zE zB zcs zL zKc zhr zh => ?_
  obtain ⟨tasks, works, numbers, rfl, rfl, hpre, zk⟩ := zh
  have nd := sc_law_needs.nd
  have hSL := sizeLine_eq
  show Exs _ _ _ ⟨[some (.fr ((eL eTask) tasks)), some (.fr ((eL D.int) works)), some (.fr ((eL D.int) numbers)), none, none, none, none, none, none, none, none, none, none, none, none, none], []⟩ _
  refine exs_cons (ex_set 3 (ev_bin o_sub (ev_len (ln_L (xs := works) (enc := D.int) (by exact rfl)) (ev_var 1 rfl (.inl rfl) rfl) (by exact rfl) T.n_len) ev_int) ?_ nd rfl (.inl rfl))
  show Exs _ _ _ ⟨[some (.fr ((eL eTask) tasks)), some (.fr ((eL D.int) works)), some (.fr ((eL D.int) numbers)), some (.fr (D.int ((works.length : Int) - (1 : Int)))), none, none, none, none, none, none, none, none, none, none, none, none], []⟩ _
  generalize zg_horizon : ((works.length : Int) - (1 : Int)) = horizon
  show Exs _ _ _ ⟨[some (.fr ((eL eTask) tasks)), some (.fr ((eL D.int) works)), some (.fr ((eL D.int) numbers)), some (.fr (D.int horizon)), none, none, none, none, none, none, none, none, none, none, none, none], []⟩ _
  have hhz : 1 ≤ horizon ∧ horizon ≤ 24 := by rw [← zg_horizon]; omega
  have hjt := hpre.2.2.2.1
  rw [zg_horizon] at hjt
  refine exs_cons (ex_set 4 (ev_callKw (ds := [(eL eTask) tasks]) (es' := [D.int horizon]) (n := 1) (ks := ["horizon"]) O_needed_capacity (zhr.mono (by decide)) T.m_needed_capacity T.k_needed_capacity T.kb_needed_capacity_1_horizon (ea_cons (ev_callTy (ds := [(eL eTask) tasks]) c_listL (ea_cons (ev_var 0 rfl (.inl rfl) rfl) ea_nil) (by exact rfl) T.n_list (by decide +kernel)) ea_nil) (ek_cons (ev_var 3 rfl (.inl rfl) rfl) ek_nil) rfl rfl (fun _ zkk => ⟨tasks, horizon, rfl, rfl, (by walk_at "pre"), zkk⟩) (by exact rfl)) ?_ nd rfl (.inl rfl))
  show Exs _ _ _ ⟨[some (.fr ((eL eTask) tasks)), some (.fr ((eL D.int) works)), some (.fr ((eL D.int) numbers)), some (.fr (D.int horizon)), some (.fr (D.int (m_needed_capacity tasks horizon))), none, none, none, none, none, none, none, none, none, none, none], []⟩ _
  generalize zg_least : (m_needed_capacity tasks horizon) = least
  show Exs _ _ _ ⟨[some (.fr ((eL eTask) tasks)), some (.fr ((eL D.int) works)), some (.fr ((eL D.int) numbers)), some (.fr (D.int horizon)), some (.fr (D.int least)), none, none, none, none, none, none, none, none, none, none, none], []⟩ _
  have hnc := nc_in hpre.1 hhz.1 hjt
  rw [zg_least] at hnc
  refine exs_cons (ex_ifP (bd_or (bd_not Iff.rfl) (bd_or bd_d (bd_not Iff.rfl))) (Ew.et (ew_orP (bd_not Iff.rfl) (et_not (et_val (ev_call (ds := [D.int least]) (ds' := []) (dvs := []) (dfs := []) O_law_is_integer (zhr.mono (by decide)) T.m_law_is_integer T.k_law_is_integer T.b_law_is_integer .nil (fun _ => .nil) (ea_cons (ev_var 4 rfl (.inl rfl) rfl) ea_nil) (fun _ zkk => ⟨least, rfl, rfl, trivial, zkk⟩) (by exact rfl)))) (fun zhp => (ew_orP bd_d (et_cmp o_lt (ev_var 4 rfl (.inl rfl) rfl) ev_int (nomark _)) (fun zhp => (ew_or1 (et_not (et_val (ev_call (ds := [(eL D.int) works, (eL D.int) [least]]) (ds' := []) (dvs := []) (dfs := []) O_law_enough (zhr.mono (by decide)) T.m_law_enough T.k_law_enough T.b_law_enough .nil (fun _ => .nil) (ea_cons (ev_var 1 rfl (.inl rfl) rfl) (ea_cons (ev_lstF (enc := D.int) [least] (ea_cons (ev_var 4 rfl (.inl rfl) rfl) ea_nil) rfl (by simp only [List.length_cons, List.length_nil]; decide)) ea_nil)) (fun _ zkk => ⟨works, [least], rfl, rfl, (by walk_at "pre"), zkk⟩) (by exact rfl)))))))))) (fun (zh1 : ((¬ ((m_law_is_integer least) = true)) ∨ ((least < (0 : Int)) ∨ (¬ ((m_law_enough works [least]) = true))))) => ?_) (fun (zh1 : ¬ ((¬ ((m_law_is_integer least) = true)) ∨ ((least < (0 : Int)) ∨ (¬ ((m_law_enough works [least]) = true))))) => ?_))
  · skip
    refine exs_one (ex_ret ev_bl ?_)
    have efin : m_law_needs tasks works numbers = false := by subst zg_least; subst zg_horizon; unfold m_law_needs; dsimp only; simp only [not_true_eq_false, not_false_eq_true, ↓reduceIte, ↓if_pos zh1]
    rw [efin] at zk
    exact zk _
  · skip
    refine exs_nil ?_
    show Exs _ _ _ ⟨[some (.fr ((eL eTask) tasks)), some (.fr ((eL D.int) works)), some (.fr ((eL D.int) numbers)), some (.fr (D.int horizon)), some (.fr (D.int least)), none, none, none, none, none, none, none, none, none, none, none], []⟩ _
    refine exs_cons (ex_ifP (bd_and bd_d Iff.rfl) (Ew.et (ew_andP bd_d (et_cmp o_gt (ev_var 4 rfl (.inl rfl) rfl) ev_int (nomark _)) (fun zhp => (ew_and1 (et_val (ev_call (ds := [(eL D.int) works, (eL D.int) [(least - (1 : Int))]]) (ds' := []) (dvs := []) (dfs := []) O_law_enough (zhr.mono (by decide)) T.m_law_enough T.k_law_enough T.b_law_enough .nil (fun _ => .nil) (ea_cons (ev_var 1 rfl (.inl rfl) rfl) (ea_cons (ev_lstF (enc := D.int) [(least - (1 : Int))] (ea_cons (ev_bin o_sub (ev_var 4 rfl (.inl rfl) rfl) ev_int) ea_nil) rfl (by simp only [List.length_cons, List.length_nil]; decide)) ea_nil)) (fun _ zkk => ⟨works, [(least - (1 : Int))], rfl, rfl, (by walk_at "pre"), zkk⟩) (by exact rfl))))))) (fun (zh2 : (((0 : Int) < least) ∧ ((m_law_enough works [(least - (1 : Int))]) = true))) => ?_) (fun (zh2 : ¬ (((0 : Int) < least) ∧ ((m_law_enough works [(least - (1 : Int))]) = true))) => ?_))
    · skip
      refine exs_one (ex_ret ev_bl ?_)
      have efin : m_law_needs tasks works numbers = false := by subst zg_least; subst zg_horizon; unfold m_law_needs; dsimp only; simp only [not_true_eq_false, not_false_eq_true, ↓reduceIte, ↓if_neg zh1, ↓if_pos zh2]
      rw [efin] at zk
      exact zk _
    · skip
      refine exs_nil ?_
      show Exs _ _ _ ⟨[some (.fr ((eL eTask) tasks)), some (.fr ((eL D.int) works)), some (.fr ((eL D.int) numbers)), some (.fr (D.int horizon)), some (.fr (D.int least)), none, none, none, none, none, none, none, none, none, none, none], []⟩ _
      refine exs_cons (ex_set 5 (ev_bin o_add ev_int (ev_bin (o_mod (by walk_at "sd")) (ev_ix (ix_L (xs := numbers) (enc := D.int) (by exact rfl) (by walk_at "sd") (by walk_at "sd")) (ev_var 2 rfl (.inl rfl) rfl) ev_int) ev_int)) ?_ nd rfl (.inl rfl))
      show Exs _ _ _ ⟨[some (.fr ((eL eTask) tasks)), some (.fr ((eL D.int) works)), some (.fr ((eL D.int) numbers)), some (.fr (D.int horizon)), some (.fr (D.int least)), some (.fr (D.int ((1 : Int) + ((numbers.getD ((0 : Int)).toNat default) % (8 : Int))))), none, none, none, none, none, none, none, none, none, none], []⟩ _
      generalize zg_period : ((1 : Int) + ((numbers.getD ((0 : Int)).toNat default) % (8 : Int))) = period
      show Exs _ _ _ ⟨[some (.fr ((eL eTask) tasks)), some (.fr ((eL D.int) works)), some (.fr ((eL D.int) numbers)), some (.fr (D.int horizon)), some (.fr (D.int least)), some (.fr (D.int period)), none, none, none, none, none, none, none, none, none, none], []⟩ _
      have hpd : 1 ≤ period ∧ period ≤ 8 := by rw [← zg_period]; omega
      refine exs_cons (ex_set 6 (ev_ix (ix_L (xs := [(0 : Int), (1 : Int), (2 : Int), (3 : Int), (1000 : Int)]) (enc := D.int) (by exact rfl) (by walk_at "sd") (by walk_at "sd")) (ev_lstF (enc := D.int) [(0 : Int), (1 : Int), (2 : Int), (3 : Int), (1000 : Int)] (ea_cons ev_int (ea_cons ev_int (ea_cons ev_int (ea_cons ev_int (ea_cons ev_int ea_nil))))) rfl (by simp only [List.length_cons, List.length_nil]; decide)) (ev_bin (o_mod (by walk_at "sd")) (ev_ix (ix_L (xs := numbers) (enc := D.int) (by exact rfl) (by walk_at "sd") (by walk_at "sd")) (ev_var 2 rfl (.inl rfl) rfl) ev_int) ev_int)) ?_ nd rfl (.inl rfl))
      show Exs _ _ _ ⟨[some (.fr ((eL eTask) tasks)), some (.fr ((eL D.int) works)), some (.fr ((eL D.int) numbers)), some (.fr (D.int horizon)), some (.fr (D.int least)), some (.fr (D.int period)), some (.fr (D.int ([(0 : Int), (1 : Int), (2 : Int), (3 : Int), (1000 : Int)].getD (((numbers.getD ((3 : Int)).toNat default) % (5 : Int))).toNat default))), none, none, none, none, none, none, none, none, none], []⟩ _
      generalize zg_capacity : ([(0 : Int), (1 : Int), (2 : Int), (3 : Int), (1000 : Int)].getD (((numbers.getD ((3 : Int)).toNat default) % (5 : Int))).toNat default) = capacity
      show Exs _ _ _ ⟨[some (.fr ((eL eTask) tasks)), some (.fr ((eL D.int) works)), some (.fr ((eL D.int) numbers)), some (.fr (D.int horizon)), some (.fr (D.int least)), some (.fr (D.int period)), some (.fr (D.int capacity)), none, none, none, none, none, none, none, none, none], []⟩ _
      have hcp := cap82 (numbers.getD ((3 : Int)).toNat default)
      rw [zg_capacity] at hcp
      refine exs_cons (ex_set 7 (ev_callKw (ds := [(eL eTask) tasks]) (es' := [D.int period, D.int horizon, D.int capacity]) (n := 1) (ks := ["period", "horizon", "capacity"]) O_needed_budget (zhr.mono (by decide)) T.m_needed_budget T.k_needed_budget T.kb_needed_budget_1_period_horizon_capacity (ea_cons (ev_callTy (ds := [(eL eTask) tasks]) c_listL (ea_cons (ev_var 0 rfl (.inl rfl) rfl) ea_nil) (by exact rfl) T.n_list (by decide +kernel)) ea_nil) (ek_cons (ev_var 5 rfl (.inl rfl) rfl) (ek_cons (ev_var 3 rfl (.inl rfl) rfl) (ek_cons (ev_var 6 rfl (.inl rfl) rfl) ek_nil))) rfl rfl (fun _ zkk => ⟨tasks, period, horizon, capacity, rfl, rfl, (by walk_at "pre"), zkk⟩) (by exact rfl)) ?_ nd rfl (.inl rfl))
      show Exs _ _ _ ⟨[some (.fr ((eL eTask) tasks)), some (.fr ((eL D.int) works)), some (.fr ((eL D.int) numbers)), some (.fr (D.int horizon)), some (.fr (D.int least)), some (.fr (D.int period)), some (.fr (D.int capacity)), some (.fr ((eO D.int) (m_needed_budget tasks period horizon capacity))), none, none, none, none, none, none, none, none], []⟩ _
      generalize zg_budget : (m_needed_budget tasks period horizon capacity) = budget
      show Exs _ _ _ ⟨[some (.fr ((eL eTask) tasks)), some (.fr ((eL D.int) works)), some (.fr ((eL D.int) numbers)), some (.fr (D.int horizon)), some (.fr (D.int least)), some (.fr (D.int period)), some (.fr (D.int capacity)), some (.fr ((eO D.int) budget)), none, none, none, none, none, none, none, none], []⟩ _
      refine exs_cons (ex_set 8 (ev_callKwD (ds := [(eL eTask) tasks]) (es' := [D.int period, D.int horizon]) (dd := [D.int (1 : Int)]) (n := 1) (ks := ["period", "horizon"]) O_needed_budget (zhr.mono (by decide)) T.m_needed_budget T.k_needed_budget T.kb_needed_budget_1_period_horizon T.rkb_needed_budget_1_period_horizon (ea_cons (ev_callTy (ds := [(eL eTask) tasks]) c_listL (ea_cons (ev_var 0 rfl (.inl rfl) rfl) ea_nil) (by exact rfl) T.n_list (by decide +kernel)) ea_nil) (ek_cons (ev_var 5 rfl (.inl rfl) rfl) (ek_cons (ev_var 3 rfl (.inl rfl) rfl) ek_nil)) rfl rfl (fun _ zkk => ⟨tasks, period, horizon, (1 : Int), rfl, rfl, (by walk_at "pre"), zkk⟩) (by exact rfl)) ?_ nd rfl (.inl rfl))
      show Exs _ _ _ ⟨[some (.fr ((eL eTask) tasks)), some (.fr ((eL D.int) works)), some (.fr ((eL D.int) numbers)), some (.fr (D.int horizon)), some (.fr (D.int least)), some (.fr (D.int period)), some (.fr (D.int capacity)), some (.fr ((eO D.int) budget)), some (.fr ((eO D.int) (m_needed_budget tasks period horizon (1 : Int)))), none, none, none, none, none, none, none], []⟩ _
      generalize zg_plain : (m_needed_budget tasks period horizon (1 : Int)) = plain
      show Exs _ _ _ ⟨[some (.fr ((eL eTask) tasks)), some (.fr ((eL D.int) works)), some (.fr ((eL D.int) numbers)), some (.fr (D.int horizon)), some (.fr (D.int least)), some (.fr (D.int period)), some (.fr (D.int capacity)), some (.fr ((eO D.int) budget)), some (.fr ((eO D.int) plain)), none, none, none, none, none, none, none], []⟩ _
      refine exs_cons (ex_ifP (bd_or (bd_not Iff.rfl) (bd_not Iff.rfl)) (Ew.et (ew_orP (bd_not Iff.rfl) (et_not (et_val (ev_call (ds := [(eO D.int) budget, (eO D.int) (m_law_budget works period capacity)]) (ds' := []) (dvs := []) (dfs := []) O_law_is (zhr.mono (by decide)) T.m_law_is T.k_law_is T.b_law_is .nil (fun _ => .nil) (ea_cons (ev_var 7 rfl (.inl rfl) rfl) (ea_cons (ev_call (ds := [(eL D.int) works, D.int period, D.int capacity]) (ds' := []) (dvs := []) (dfs := []) O_law_budget (zhr.mono (by decide)) T.m_law_budget T.k_law_budget T.b_law_budget .nil (fun _ => .nil) (ea_cons (ev_var 1 rfl (.inl rfl) rfl) (ea_cons (ev_var 5 rfl (.inl rfl) rfl) (ea_cons (ev_var 6 rfl (.inl rfl) rfl) ea_nil))) (fun _ zkk => ⟨works, period, capacity, rfl, rfl, (by walk_at "pre"), zkk⟩) (by exact rfl)) ea_nil)) (fun _ zkk => ⟨budget, (m_law_budget works period capacity), rfl, rfl, trivial, zkk⟩) (by exact rfl)))) (fun zhp => (ew_or1 (et_not (et_val (ev_call (ds := [(eO D.int) plain, (eO D.int) (m_law_budget works period (1 : Int))]) (ds' := []) (dvs := []) (dfs := []) O_law_is (zhr.mono (by decide)) T.m_law_is T.k_law_is T.b_law_is .nil (fun _ => .nil) (ea_cons (ev_var 8 rfl (.inl rfl) rfl) (ea_cons (ev_call (ds := [(eL D.int) works, D.int period, D.int (1 : Int)]) (ds' := []) (dvs := []) (dfs := []) O_law_budget (zhr.mono (by decide)) T.m_law_budget T.k_law_budget T.b_law_budget .nil (fun _ => .nil) (ea_cons (ev_var 1 rfl (.inl rfl) rfl) (ea_cons (ev_var 5 rfl (.inl rfl) rfl) (ea_cons ev_int ea_nil))) (fun _ zkk => ⟨works, period, (1 : Int), rfl, rfl, (by walk_at "pre"), zkk⟩) (by exact rfl)) ea_nil)) (fun _ zkk => ⟨plain, (m_law_budget works period (1 : Int)), rfl, rfl, trivial, zkk⟩) (by exact rfl)))))))) (fun (zh3 : ((¬ ((m_law_is budget (m_law_budget works period capacity)) = true)) ∨ (¬ ((m_law_is plain (m_law_budget works period (1 : Int))) = true)))) => ?_) (fun (zh3 : ¬ ((¬ ((m_law_is budget (m_law_budget works period capacity)) = true)) ∨ (¬ ((m_law_is plain (m_law_budget works period (1 : Int))) = true)))) => ?_))
      · skip
        refine exs_one (ex_ret ev_bl ?_)
        have efin : m_law_needs tasks works numbers = false := by subst zg_plain; subst zg_budget; subst zg_capacity; subst zg_period; subst zg_least; subst zg_horizon; unfold m_law_needs; dsimp only; simp only [not_true_eq_false, not_false_eq_true, ↓reduceIte, ↓if_neg zh1, ↓if_neg zh2, ↓if_pos zh3]
        rw [efin] at zk
        exact zk _
      · skip
        refine exs_nil ?_
        show Exs _ _ _ ⟨[some (.fr ((eL eTask) tasks)), some (.fr ((eL D.int) works)), some (.fr ((eL D.int) numbers)), some (.fr (D.int horizon)), some (.fr (D.int least)), some (.fr (D.int period)), some (.fr (D.int capacity)), some (.fr ((eO D.int) budget)), some (.fr ((eO D.int) plain)), none, none, none, none, none, none, none], []⟩ _
        refine exs_cons (ex_set 9 (ev_bin o_add ev_int (ev_bin (o_mod (by walk_at "sd")) (ev_ix (ix_L (xs := numbers) (enc := D.int) (by exact rfl) (by walk_at "sd") (by walk_at "sd")) (ev_var 2 rfl (.inl rfl) rfl) ev_int) ev_int)) ?_ nd rfl (.inr rfl))
        show Exs _ _ _ ⟨[some (.fr ((eL eTask) tasks)), some (.fr ((eL D.int) works)), some (.fr ((eL D.int) numbers)), some (.fr (D.int horizon)), some (.fr (D.int least)), some (.fr (D.int period)), some (.fr (D.int capacity)), some (.fr ((eO D.int) budget)), some (.fr ((eO D.int) plain)), some (.fr (D.int ((1 : Int) + ((numbers.getD ((4 : Int)).toNat default) % (6 : Int))))), none, none, none, none, none, none], []⟩ _
        generalize zg_bottom : ((1 : Int) + ((numbers.getD ((4 : Int)).toNat default) % (6 : Int))) = bottom
        show Exs _ _ _ ⟨[some (.fr ((eL eTask) tasks)), some (.fr ((eL D.int) works)), some (.fr ((eL D.int) numbers)), some (.fr (D.int horizon)), some (.fr (D.int least)), some (.fr (D.int period)), some (.fr (D.int capacity)), some (.fr ((eO D.int) budget)), some (.fr ((eO D.int) plain)), some (.fr (D.int bottom)), none, none, none, none, none, none], []⟩ _
        have hbt : 1 ≤ bottom ∧ bottom ≤ 6 := by rw [← zg_bottom]; omega
        refine exs_cons (ex_set 10 (ev_bin (o_mod (by walk_at "sd")) (ev_ix (ix_L (xs := numbers) (enc := D.int) (by exact rfl) (by walk_at "sd") (by walk_at "sd")) (ev_var 2 rfl (.inl rfl) rfl) ev_int) (ev_bin o_add (ev_var 9 rfl (.inr (.inl rfl)) rfl) ev_int)) ?_ nd rfl (.inr rfl))
        show Exs _ _ _ ⟨[some (.fr ((eL eTask) tasks)), some (.fr ((eL D.int) works)), some (.fr ((eL D.int) numbers)), some (.fr (D.int horizon)), some (.fr (D.int least)), some (.fr (D.int period)), some (.fr (D.int capacity)), some (.fr ((eO D.int) budget)), some (.fr ((eO D.int) plain)), some (.fr (D.int bottom)), some (.fr (D.int ((numbers.getD ((5 : Int)).toNat default) % (bottom + (1 : Int))))), none, none, none, none, none], []⟩ _
        generalize zg_top : ((numbers.getD ((5 : Int)).toNat default) % (bottom + (1 : Int))) = top
        show Exs _ _ _ ⟨[some (.fr ((eL eTask) tasks)), some (.fr ((eL D.int) works)), some (.fr ((eL D.int) numbers)), some (.fr (D.int horizon)), some (.fr (D.int least)), some (.fr (D.int period)), some (.fr (D.int capacity)), some (.fr ((eO D.int) budget)), some (.fr ((eO D.int) plain)), some (.fr (D.int bottom)), some (.fr (D.int top)), none, none, none, none, none], []⟩ _
        have htp : 0 ≤ top ∧ top ≤ bottom := by rw [← zg_top]; have h1_ := Int.emod_nonneg (numbers.getD ((5 : Int)).toNat default) (show (bottom + 1) ≠ 0 by omega); have h2_ := Int.emod_lt_of_pos (numbers.getD ((5 : Int)).toNat default) (show 0 < (bottom + 1) by omega); omega
        have hdm := List.ne_nil_of_mem (dv_mem (T := top) hbt.1)
        refine exs_cons (ex_set 11 (ev_callB (ds := [(eL D.int) (((List.range ((bottom + (1 : Int)) - (1 : Int)).toNat).filter (fun zc1 : Nat => ((decide ((top % ((1 : Int) + (zc1 : Int))) = (0 : Int))) && (decide ((bottom % ((1 : Int) + (zc1 : Int))) = (0 : Int)))))).map (fun zc1 : Nat => ((1 : Int) + (zc1 : Int))))]) (c_maxL (ns := (((List.range ((bottom + (1 : Int)) - (1 : Int)).toNat).filter (fun zc1 : Nat => ((decide ((top % ((1 : Int) + (zc1 : Int))) = (0 : Int))) && (decide ((bottom % ((1 : Int) + (zc1 : Int))) = (0 : Int)))))).map (fun zc1 : Nat => ((1 : Int) + (zc1 : Int))))) rfl (by walk_at "ne")) (ea_cons (ev_lcF (enc2 := D.int) 199 (fun zc1 : Nat => ((1 : Int) + (zc1 : Int))) (fun zc1 : Nat => ((decide ((top % ((1 : Int) + (zc1 : Int))) = (0 : Int))) && (decide ((bottom % ((1 : Int) + (zc1 : Int))) = (0 : Int))))) _ rfl nd (blkOk_by (N := ["_law_tasks", "_law_works", "_law_numbers_here", "_law_horizon", "_law_least", "_law_period", "_law_capacity", "_law_budget_here", "_law_plain", "_law_bottom", "_law_top", "_law_divisor", "_law_share", "_law_longest", "_law_due", "_law_k"]) (sc := defScope s_law_needs) (own := [(("_law_k" : Str), 15)]) (by decide +kernel)) (src_range2 (ea_cons ev_int (ea_cons (ev_bin o_add (ev_var 9 rfl (.inr (.inl rfl)) rfl) ev_int) ea_nil)) (by exact rfl) T.n_range (by walk_at "sd") (by walk_at "sd") (by walk_at "sd") (by walk_at "sd")) (by simp [names]) (by decide) (by walk_at "sd") (fun _ zc1 _ zhyzc1 _ _ _ _ _ => (eg_nameC 15 nd rfl (.inl rfl) (by decide) (.inr rfl))) (fun _ zc1 _ zhyzc1 _ _ _ _ _ => (Ew.et (ew_andP bd_d (et_cmp o_eqi (ev_bin (o_mod (by walk_at "sd")) (ev_var 10 rfl (.inr (.inl rfl)) rfl) (ev_var 15 rfl (.inl rfl) rfl)) ev_int (nomark _)) (fun zhp => (ew_and1 (et_cmp o_eqi (ev_bin (o_mod (by walk_at "sd")) (ev_var 9 rfl (.inr (.inl rfl)) rfl) (ev_var 15 rfl (.inl rfl) rfl)) ev_int (nomark _))))))) (fun _ zc1 _ zhyzc1 zhpzc1 _ _ _ _ _ => (ev_var 15 rfl (.inl rfl) rfl))) ea_nil) (by exact rfl) T.n_max (by decide +kernel)) ?_ nd rfl (.inl rfl))
        show Exs _ _ _ ⟨[some (.fr ((eL eTask) tasks)), some (.fr ((eL D.int) works)), some (.fr ((eL D.int) numbers)), some (.fr (D.int horizon)), some (.fr (D.int least)), some (.fr (D.int period)), some (.fr (D.int capacity)), some (.fr ((eO D.int) budget)), some (.fr ((eO D.int) plain)), some (.fr (D.int bottom)), some (.fr (D.int top)), some (.fr (D.int (maxL (((List.range ((bottom + (1 : Int)) - (1 : Int)).toNat).filter (fun zc1 : Nat => ((decide ((top % ((1 : Int) + (zc1 : Int))) = (0 : Int))) && (decide ((bottom % ((1 : Int) + (zc1 : Int))) = (0 : Int)))))).map (fun zc1 : Nat => ((1 : Int) + (zc1 : Int))))))), none, none, none, none], []⟩ _
        generalize zg_divisor : (maxL (((List.range ((bottom + (1 : Int)) - (1 : Int)).toNat).filter (fun zc1 : Nat => ((decide ((top % ((1 : Int) + (zc1 : Int))) = (0 : Int))) && (decide ((bottom % ((1 : Int) + (zc1 : Int))) = (0 : Int)))))).map (fun zc1 : Nat => ((1 : Int) + (zc1 : Int))))) = divisor
        show Exs _ _ _ ⟨[some (.fr ((eL eTask) tasks)), some (.fr ((eL D.int) works)), some (.fr ((eL D.int) numbers)), some (.fr (D.int horizon)), some (.fr (D.int least)), some (.fr (D.int period)), some (.fr (D.int capacity)), some (.fr ((eO D.int) budget)), some (.fr ((eO D.int) plain)), some (.fr (D.int bottom)), some (.fr (D.int top)), some (.fr (D.int divisor)), none, none, none, none], []⟩ _
        have hdv := dv_spec (T := top) hbt.1
        dsimp only at hdv
        rw [zg_divisor] at hdv
        refine exs_cons (ex_set 12 (ev_tup (ds := [D.int (top / divisor), D.int (bottom / divisor)]) (ea_cons (ev_bin (o_div (by walk_at "sd") (by walk_at "sd")) (ev_var 10 rfl (.inr (.inl rfl)) rfl) (ev_var 11 rfl (.inl rfl) rfl)) (ea_cons (ev_bin (o_div (by walk_at "sd") (by walk_at "sd")) (ev_var 9 rfl (.inr (.inl rfl)) rfl) (ev_var 11 rfl (.inl rfl) rfl)) ea_nil)) (by simp only [List.length_cons, List.length_nil]; decide)) ?_ nd rfl (.inl rfl))
        show Exs _ _ _ ⟨[some (.fr ((eL eTask) tasks)), some (.fr ((eL D.int) works)), some (.fr ((eL D.int) numbers)), some (.fr (D.int horizon)), some (.fr (D.int least)), some (.fr (D.int period)), some (.fr (D.int capacity)), some (.fr ((eO D.int) budget)), some (.fr ((eO D.int) plain)), some (.fr (D.int bottom)), some (.fr (D.int top)), some (.fr (D.int divisor)), some (.fr ((eT2 D.int D.int) ((top / divisor), (bottom / divisor)))), none, none, none], []⟩ _
        generalize zg_share : ((top / divisor), (bottom / divisor)) = share
        show Exs _ _ _ ⟨[some (.fr ((eL eTask) tasks)), some (.fr ((eL D.int) works)), some (.fr ((eL D.int) numbers)), some (.fr (D.int horizon)), some (.fr (D.int least)), some (.fr (D.int period)), some (.fr (D.int capacity)), some (.fr ((eO D.int) budget)), some (.fr ((eO D.int) plain)), some (.fr (D.int bottom)), some (.fr (D.int top)), some (.fr (D.int divisor)), some (.fr ((eT2 D.int D.int) share)), none, none, none], []⟩ _
        have hsh := sh82 htp hbt ⟨hdv.1, hdv.2.1⟩ hdv.2.2.2
        dsimp only at hsh
        rw [show top / divisor = share.1 by rw [← zg_share], show bottom / divisor = share.2 by rw [← zg_share]] at hsh
        refine exs_cons (ex_set 13 (ev_callKw (ds := [(eL eTask) tasks]) (es' := [(eT2 D.int D.int) share, D.int horizon, D.int period]) (n := 1) (ks := ["share", "horizon", "longest"]) O_longest_period (zhr.mono (by decide)) T.m_longest_period T.k_longest_period T.kb_longest_period_1_share_horizon_longest (ea_cons (ev_callTy (ds := [(eL eTask) tasks]) c_listL (ea_cons (ev_var 0 rfl (.inl rfl) rfl) ea_nil) (by exact rfl) T.n_list (by decide +kernel)) ea_nil) (ek_cons (ev_var 12 rfl (.inl rfl) rfl) (ek_cons (ev_var 3 rfl (.inl rfl) rfl) (ek_cons (ev_var 5 rfl (.inl rfl) rfl) ek_nil))) rfl rfl (fun _ zkk => ⟨tasks, share, horizon, period, rfl, rfl, (by walk_at "pre"), zkk⟩) (by exact rfl)) ?_ nd rfl (.inl rfl))
        show Exs _ _ _ ⟨[some (.fr ((eL eTask) tasks)), some (.fr ((eL D.int) works)), some (.fr ((eL D.int) numbers)), some (.fr (D.int horizon)), some (.fr (D.int least)), some (.fr (D.int period)), some (.fr (D.int capacity)), some (.fr ((eO D.int) budget)), some (.fr ((eO D.int) plain)), some (.fr (D.int bottom)), some (.fr (D.int top)), some (.fr (D.int divisor)), some (.fr ((eT2 D.int D.int) share)), some (.fr ((eO D.int) (m_longest_period tasks share horizon period))), none, none], []⟩ _
        generalize zg_longest : (m_longest_period tasks share horizon period) = longest
        show Exs _ _ _ ⟨[some (.fr ((eL eTask) tasks)), some (.fr ((eL D.int) works)), some (.fr ((eL D.int) numbers)), some (.fr (D.int horizon)), some (.fr (D.int least)), some (.fr (D.int period)), some (.fr (D.int capacity)), some (.fr ((eO D.int) budget)), some (.fr ((eO D.int) plain)), some (.fr (D.int bottom)), some (.fr (D.int top)), some (.fr (D.int divisor)), some (.fr ((eT2 D.int D.int) share)), some (.fr ((eO D.int) longest)), none, none], []⟩ _
        refine exs_cons (ex_set 14 ev_non ?_ nd rfl (.inl rfl))
        show Exs _ _ _ ⟨[some (.fr ((eL eTask) tasks)), some (.fr ((eL D.int) works)), some (.fr ((eL D.int) numbers)), some (.fr (D.int horizon)), some (.fr (D.int least)), some (.fr (D.int period)), some (.fr (D.int capacity)), some (.fr ((eO D.int) budget)), some (.fr ((eO D.int) plain)), some (.fr (D.int bottom)), some (.fr (D.int top)), some (.fr (D.int divisor)), some (.fr ((eT2 D.int D.int) share)), some (.fr ((eO D.int) longest)), some (.fr ((eO D.int) (none : Option Int))), none], []⟩ _
        refine exs_cons (ex_forF (enc := (fun i : Nat => D.int ((1 : Int) + (i : Int)))) (fun (zs0 : (Option Int)) => (⟨[some (.fr ((eL eTask) tasks)), some (.fr ((eL D.int) works)), some (.fr ((eL D.int) numbers)), some (.fr (D.int horizon)), some (.fr (D.int least)), some (.fr (D.int period)), some (.fr (D.int capacity)), some (.fr ((eO D.int) budget)), some (.fr ((eO D.int) plain)), some (.fr (D.int bottom)), some (.fr (D.int top)), some (.fr (D.int divisor)), some (.fr ((eT2 D.int D.int) share)), some (.fr ((eO D.int) longest)), some (.fr ((eO D.int) zs0)), none], []⟩ : Nz.S)) (m_law_needs_l0 works bottom top (1 : Int)) (none : Option Int) (fun (zi0 : Nat) (zs0 : (Option Int)) => True) (src_range2 (ea_cons ev_int (ea_cons (ev_bin o_add (ev_var 5 rfl (.inl rfl) rfl) ev_int) ea_nil)) (by exact rfl) T.n_range (by walk_at "sd") (by walk_at "sd") (by walk_at "sd") (by walk_at "sd")) ⟨⟨.inr rfl, .inr rfl, .inr rfl, .inr rfl, .inr rfl, .inr rfl, .inr rfl, .inr rfl, .inr rfl, .inr rfl, .inr rfl, .inr rfl, .inr rfl, .inr rfl, .inr rfl, .inl rfl, trivial⟩, rfl⟩ trivial ?_ ?_ PassesOwn.never rfl)
        · intro zi0 zy0 zs0 zhy0 zq0
          skip
          have hy0 := seq_range zhy0
          have hi := (List.getElem?_eq_some_iff.mp zhy0).1
          simp only [List.length_range] at hi
          have hcb := cb82 (k := (1 : Int) + (zy0 : Int)) (b := bottom) ⟨by omega, by omega⟩ htp hbt.1
          have hrs := (res82 (p := (1 : Int) + (zy0 : Int)) (c := 1) ⟨by omega, by omega⟩ (show ((((1 : Int) + (zy0 : Int)) * top) + bottom - 1) / bottom ≤ 8 by omega) (by decide)).resolve_right (by omega)
          refine ⟨⟨[some (.fr ((eL eTask) tasks)), some (.fr ((eL D.int) works)), some (.fr ((eL D.int) numbers)), some (.fr (D.int horizon)), some (.fr (D.int least)), some (.fr (D.int period)), some (.fr (D.int capacity)), some (.fr ((eO D.int) budget)), some (.fr ((eO D.int) plain)), some (.fr (D.int bottom)), some (.fr (D.int top)), some (.fr (D.int divisor)), some (.fr ((eT2 D.int D.int) share)), some (.fr ((eO D.int) longest)), some (.fr ((eO D.int) zs0)), some (.fr (D.int ((1 : Int) + (zy0 : Int))))], []⟩, (eg_name 15 nd rfl (.inl rfl)), ?_⟩
          refine exs_one (ex_ifP Iff.rfl (et_val (ev_call (ds := [(eL D.int) works, (eL D.int) (m_law_reserved ((1 : Int) + (zy0 : Int)) ((((((1 : Int) + (zy0 : Int)) * top) + bottom) - (1 : Int)) / bottom) (1 : Int))]) (ds' := []) (dvs := []) (dfs := []) O_law_enough (zhr.mono (by decide)) T.m_law_enough T.k_law_enough T.b_law_enough .nil (fun _ => .nil) (ea_cons (ev_var 1 rfl (.inl rfl) rfl) (ea_cons (ev_call (ds := [D.int ((1 : Int) + (zy0 : Int)), D.int ((((((1 : Int) + (zy0 : Int)) * top) + bottom) - (1 : Int)) / bottom), D.int (1 : Int)]) (ds' := []) (dvs := []) (dfs := []) O_law_reserved (zhr.mono (by decide)) T.m_law_reserved T.k_law_reserved T.b_law_reserved .nil (fun _ => .nil) (ea_cons (ev_var 15 rfl (.inl rfl) rfl) (ea_cons (ev_bin (o_div (by walk_at "sd") (by walk_at "sd")) (ev_bin o_sub (ev_bin o_add (ev_bin (o_mul (by walk_at "mul")) (ev_var 15 rfl (.inl rfl) rfl) (ev_var 10 rfl (.inr (.inl rfl)) rfl)) (ev_var 9 rfl (.inr (.inl rfl)) rfl)) ev_int) (ev_var 9 rfl (.inr (.inl rfl)) rfl)) (ea_cons ev_int ea_nil))) (fun _ zkk => ⟨((1 : Int) + (zy0 : Int)), ((((((1 : Int) + (zy0 : Int)) * top) + bottom) - (1 : Int)) / bottom), (1 : Int), rfl, rfl, (by walk_at "pre"), zkk⟩) (by exact rfl)) ea_nil)) (fun _ zkk => ⟨works, (m_law_reserved ((1 : Int) + (zy0 : Int)) ((((((1 : Int) + (zy0 : Int)) * top) + bottom) - (1 : Int)) / bottom) (1 : Int)), rfl, rfl, (by walk_at "pre"), zkk⟩) (by exact rfl))) (fun (zh4 : ((m_law_enough works (m_law_reserved ((1 : Int) + (zy0 : Int)) ((((((1 : Int) + (zy0 : Int)) * top) + bottom) - (1 : Int)) / bottom) (1 : Int))) = true)) => ?_) (fun (zh4 : ¬ ((m_law_enough works (m_law_reserved ((1 : Int) + (zy0 : Int)) ((((((1 : Int) + (zy0 : Int)) * top) + bottom) - (1 : Int)) / bottom) (1 : Int))) = true)) => ?_))
          · skip
            refine exs_one (ex_set 14 (ev_var 15 rfl (.inl rfl) rfl) ?_ nd rfl (.inl rfl))
            have est : (m_law_needs_l0 works bottom top (1 : Int)) zs0 zy0 = (some ((1 : Int) + (zy0 : Int))) := by simp only [m_law_needs_l0, not_true_eq_false, not_false_eq_true, ↓reduceIte, ↓if_pos zh4]
            show Le _ _ ∧ _
            try rw [est]
            exact ⟨⟨⟨.inr rfl, .inr rfl, .inr rfl, .inr rfl, .inr rfl, .inr rfl, .inr rfl, .inr rfl, .inr rfl, .inr rfl, .inr rfl, .inr rfl, .inr rfl, .inr rfl, .inr rfl, .inl rfl, trivial⟩, rfl⟩, trivial⟩
          · skip
            refine exs_nil ?_
            have est : (m_law_needs_l0 works bottom top (1 : Int)) zs0 zy0 = zs0 := by simp only [m_law_needs_l0, not_true_eq_false, not_false_eq_true, ↓reduceIte, ↓if_neg zh4]
            show Le _ _ ∧ _
            try rw [est]
            exact ⟨⟨⟨.inr rfl, .inr rfl, .inr rfl, .inr rfl, .inr rfl, .inr rfl, .inr rfl, .inr rfl, .inr rfl, .inr rfl, .inr rfl, .inr rfl, .inr rfl, .inr rfl, .inr rfl, .inl rfl, trivial⟩, rfl⟩, trivial⟩
        · intro zq0
          show Exs _ _ _ ⟨[some (.fr ((eL eTask) tasks)), some (.fr ((eL D.int) works)), some (.fr ((eL D.int) numbers)), some (.fr (D.int horizon)), some (.fr (D.int least)), some (.fr (D.int period)), some (.fr (D.int capacity)), some (.fr ((eO D.int) budget)), some (.fr ((eO D.int) plain)), some (.fr (D.int bottom)), some (.fr (D.int top)), some (.fr (D.int divisor)), some (.fr ((eT2 D.int D.int) share)), some (.fr ((eO D.int) longest)), some (.fr ((eO D.int) ((List.range ((period + (1 : Int)) - (1 : Int)).toNat).foldl (m_law_needs_l0 works bottom top (1 : Int)) (none : Option Int)))), none], []⟩ _
          refine exs_one (ex_ret (ev_call (ds := [(eO D.int) longest, (eO D.int) ((List.range ((period + (1 : Int)) - (1 : Int)).toNat).foldl (m_law_needs_l0 works bottom top (1 : Int)) (none : Option Int))]) (ds' := []) (dvs := []) (dfs := []) O_law_is (zhr.mono (by decide)) T.m_law_is T.k_law_is T.b_law_is .nil (fun _ => .nil) (ea_cons (ev_var 13 rfl (.inl rfl) rfl) (ea_cons (ev_var 14 rfl (.inl rfl) rfl) ea_nil)) (fun _ zkk => ⟨longest, ((List.range ((period + (1 : Int)) - (1 : Int)).toNat).foldl (m_law_needs_l0 works bottom top (1 : Int)) (none : Option Int)), rfl, rfl, trivial, zkk⟩) (by exact rfl)) ?_)
          have efin : m_law_needs tasks works numbers = (m_law_is longest ((List.range ((period + (1 : Int)) - (1 : Int)).toNat).foldl (m_law_needs_l0 works bottom top (1 : Int)) (none : Option Int))) := by subst zg_longest; subst zg_share; subst zg_divisor; subst zg_top; subst zg_bottom; subst zg_plain; subst zg_budget; subst zg_capacity; subst zg_period; subst zg_least; subst zg_horizon; unfold m_law_needs; dsimp only; simp only [not_true_eq_false, not_false_eq_true, ↓reduceIte, ↓if_neg zh1, ↓if_neg zh2, ↓if_neg zh3]
          rw [efin] at zk
          exact zk _
def m_law_l0 (numbers : List Int) (horizon : Int) (zs0 : (List Task) × (List Int)) (zy0 : Nat) : (List Task) × (List Int) :=
  let factor : Int := ([(1 : Int), (17 : Int), (240 : Int)].getD (((numbers.getD ((8 : Int)).toNat default) % (3 : Int))).toNat default)
  let kinds : List (Str × Int × Int) := ((m_law_kinds numbers ((10 : Int) + ((24 : Int) * ((0 : Int) + (zy0 : Int))))).map (fun zc2 : Str × Int × Int => (zc2.1, (zc2.2.1 * factor), zc2.2.2)))
  let ways : List (Str × Str × Int) := (m_law_ways numbers ((17 : Int) + ((24 : Int) * ((0 : Int) + (zy0 : Int)))) kinds)
  let demands : List Int := (m_law_demands kinds ways horizon)
  ((zs0.1 ++ [(m_Task_init__ (([(Str.ofString ""), (Str.ofString "t"), (Str.ofString "task")].getD (((numbers.getD ((9 : Int)).toNat default) % (3 : Int))).toNat default) ++ (chA (Str.ofString "xyz") ((0 : Int) + (zy0 : Int)))) kinds ways)]), ((List.range ((horizon + (1 : Int))).toNat).map (fun zc3 : Nat => ((zs0.2.getD (((0 : Int) + (zc3 : Int))).toNat default) + (demands.getD (((0 : Int) + (zc3 : Int))).toNat default)))))
def m_law (script : List Int) : Bool :=
  let numbers1 : List Int := (m_law_numbers script (90 : Int))
  let horizon1 : Int := ((1 : Int) + ((numbers1.getD ((6 : Int)).toNat default) % (24 : Int)))
  let works1 : List Int := ((List.range ((horizon1 + (1 : Int))).toNat).map (fun zc6 : Nat => (0 : Int)))
  ((m_law_server numbers1) && (m_law_needs (((List.range (((numbers1.getD ((7 : Int)).toNat default) % (4 : Int))).toNat).foldl (m_law_l0 numbers1 horizon1) (([] : List Task), works1)).1) (((List.range (((numbers1.getD ((7 : Int)).toNat default) % (4 : Int))).toNat).foldl (m_law_l0 numbers1 horizon1) (([] : List Task), works1)).2) numbers1))
theorem dlen82 (ks : List (Str × Int × Int)) (ws : List (Str × Str × Int)) : ∀ (ys : List Nat) (s : List (List (Str × Int))), (ys.foldl (m_law_demands_l0 ks ws) s).length = s.length + ys.length
  | [], s => rfl
  | y :: ys, s => by
    rw [List.foldl_cons, dlen82 ks ws ys]
    unfold m_law_demands_l0
    rw [List.length_append, List.length_singleton, List.length_cons]; omega
theorem dem_len82 (ks : List (Str × Int × Int)) (ws : List (Str × Str × Int)) {n : Int} (h : 0 ≤ n) : ((m_law_demands ks ws n).length : Int) = n + 1 := by
  unfold m_law_demands
  rw [List.length_map, dlen82, List.length_range, List.length_nil]; omega
/-- the work of releases within a window, by the kinds -/
theorem are_kinds_of {kinds : List (Str × Int × Int)} (h1 : 1 ≤ kinds.length) (h8 : kinds.length ≤ 8) (hn : ∀ k ∈ kinds, m_is_name k.1 = true) (hc : ∀ k ∈ kinds, 1 ≤ k.2.1 ∧ k.2.1 ≤ 1000) (hd : ∀ k ∈ kinds, 1 ≤ k.2.2 ∧ k.2.2 ≤ 1000) (nd : (kinds.map fun z : Str × Int × Int => z.1).Nodup) : m_are_kinds kinds = true := by
  unfold m_are_kinds
  rw [if_neg (fun q => q ⟨by omega, by omega⟩), Bool.and_eq_true]
  constructor
  · rw [List.all_eq_true]
    intro b hb
    obtain ⟨k, hk, rfl⟩ := List.mem_map.mp hb
    have h1 := hc k hk
    have h2 := hd k hk
    unfold m_is_kind m_is_integer
    rw [if_neg (by rintro (q | q) <;> exact q rfl), hn k hk, decide_eq_true h1.1, decide_eq_true h1.2, decide_eq_true h2.1, decide_eq_true h2.2]; rfl
  · unfold m_are_different
    exact decide_eq_true (by rw [(cntS_nodup _).mpr nd])
theorem abc_ok : ∀ y : Nat, y < 3 → m_is_name (chA (Str.ofString "abc") ((0 : Int) + (y : Int))) = true ∧ (chA (Str.ofString "abc") ((0 : Int) + (y : Int))).length ≤ 1000 := by decide +kernel
theorem abc_nd : ∀ n : Nat, n < 4 → ((List.range n).map fun y : Nat => chA (Str.ofString "abc") ((0 : Int) + (y : Int))).Nodup := by decide +kernel
def kd84 (numbers : List Int) (at_ : Int) (y : Nat) : Str × Int × Int :=
  (chA (Str.ofString "abc") ((0 : Int) + (y : Int)), (1 : Int) + numbers.getD ((at_ + 1) + 2 * ((0 : Int) + (y : Int))).toNat default % 4, (1 : Int) + numbers.getD ((at_ + 2) + 2 * ((0 : Int) + (y : Int))).toNat default % 9)
theorem kinds_shape84 (numbers : List Int) (at_ : Int) : m_law_kinds numbers at_ = (List.range (1 + numbers.getD at_.toNat default % 3).toNat).map (kd84 numbers at_) := by
  unfold m_law_kinds
  rw [fold_snoc (kd84 numbers at_) (m_law_kinds_l0 numbers at_) (fun s y => rfl), List.nil_append]
theorem fac84 (k : Int) : (([(1 : Int), (17 : Int), (240 : Int)].getD (k % (3 : Int)).toNat default) = 1) ∨ (([(1 : Int), (17 : Int), (240 : Int)].getD (k % (3 : Int)).toNat default) = 17) ∨ (([(1 : Int), (17 : Int), (240 : Int)].getD (k % (3 : Int)).toNat default) = 240) := by
  have h : (k % 3).toNat = 0 ∨ (k % 3).toNat = 1 ∨ (k % 3).toNat = 2 := by omega
  rcases h with h | h | h <;> rw [h]
  · exact .inl rfl
  · exact .inr (.inl rfl)
  · exact .inr (.inr rfl)
theorem kinds84 (numbers : List Int) (at_ : Int) {f : Int} (hf : f = 1 ∨ f = 17 ∨ f = 240) : KindsOk ((m_law_kinds numbers at_).map fun z : Str × Int × Int => (z.1, (z.2.1 * f), z.2.2)) := by
  rw [kinds_shape84]
  generalize hn : (1 + numbers.getD at_.toNat default % 3).toNat = n
  have hc : ∀ k ∈ ((List.range n).map (kd84 numbers at_)).map (fun z : Str × Int × Int => (z.1, (z.2.1 * f), z.2.2)), (m_is_name k.1 = true ∧ k.1.length ≤ 1000) ∧ (1 ≤ k.2.1 ∧ k.2.1 ≤ 1000) ∧ (1 ≤ k.2.2 ∧ k.2.2 ≤ 1000) := fun k hk => by
    obtain ⟨z, hz, rfl⟩ := List.mem_map.mp hk
    obtain ⟨y, hy, rfl⟩ := List.mem_map.mp hz
    have hy := List.mem_range.mp hy
    refine ⟨abc_ok y (by omega), ?_, ?_⟩
    · show 1 ≤ ((1 : Int) + numbers.getD ((at_ + 1) + 2 * ((0 : Int) + (y : Int))).toNat default % 4) * f ∧ ((1 : Int) + numbers.getD ((at_ + 1) + 2 * ((0 : Int) + (y : Int))).toNat default % 4) * f ≤ 1000
      rcases hf with rfl | rfl | rfl <;> omega
    · show 1 ≤ (1 : Int) + numbers.getD ((at_ + 2) + 2 * ((0 : Int) + (y : Int))).toNat default % 9 ∧ (1 : Int) + numbers.getD ((at_ + 2) + 2 * ((0 : Int) + (y : Int))).toNat default % 9 ≤ 1000
      omega
  have nd : ((((List.range n).map (kd84 numbers at_)).map (fun z : Str × Int × Int => (z.1, (z.2.1 * f), z.2.2))).map fun z : Str × Int × Int => z.1).Nodup := by
    rw [List.map_map, List.map_map]
    exact abc_nd n (by omega)
  have hl : (((List.range n).map (kd84 numbers at_)).map (fun z : Str × Int × Int => (z.1, (z.2.1 * f), z.2.2))).length = n := by rw [List.length_map, List.length_map, List.length_range]
  exact ⟨are_kinds_of (by omega) (by omega) (fun k h => (hc k h).1.1) (fun k h => (hc k h).2.1) (fun k h => (hc k h).2.2) nd, by omega, by omega, fun k h => (hc k h).1.2, fun k h => (hc k h).2.1, fun k h => (hc k h).2.2⟩
def wd84 (numbers : List Int) (at_ : Int) (kinds : List (Str × Int × Int)) (y : Nat) : Str × Str × Int :=
  ((kinds.getD (numbers.getD ((at_ + 1) + 3 * ((0 : Int) + (y : Int))).toNat default % (kinds.length : Int)).toNat default).1, (kinds.getD (numbers.getD ((at_ + 2) + 3 * ((0 : Int) + (y : Int))).toNat default % (kinds.length : Int)).toNat default).1, (1 : Int) + numbers.getD ((at_ + 3) + 3 * ((0 : Int) + (y : Int))).toNat default % 6)
theorem ways_shape84 (numbers : List Int) (at_ : Int) (kinds : List (Str × Int × Int)) : m_law_ways numbers at_ kinds = (List.range (numbers.getD at_.toNat default % 5).toNat).map (wd84 numbers at_ kinds) := by
  unfold m_law_ways
  rw [fold_snoc (wd84 numbers at_ kinds) (m_law_ways_l0 numbers at_ kinds) (fun s y => rfl), List.nil_append]
theorem ways84 (numbers : List Int) (at_ : Int) {kinds : List (Str × Int × Int)} (hk : 0 < kinds.length) : WaysOk (m_law_ways numbers at_ kinds) kinds := by
  rw [ways_shape84]
  have hm : ∀ x : Int, (kinds.getD (x % (kinds.length : Int)).toNat default).1 ∈ kinds.map fun z : Str × Int × Int => z.1 := fun x => by
    have h1 := Int.emod_nonneg x (show (kinds.length : Int) ≠ 0 by omega)
    have h2 := Int.emod_lt_of_pos x (show (0 : Int) < (kinds.length : Int) by omega)
    exact List.mem_map.mpr ⟨_, getD_mem (by omega), rfl⟩
  refine ways_ok_of (by rw [List.length_map, List.length_range]; omega) (fun w hw => ?_) fun w hw => ?_
  · obtain ⟨y, _, rfl⟩ := List.mem_map.mp hw
    show 1 ≤ (1 : Int) + numbers.getD ((at_ + 3) + 3 * ((0 : Int) + (y : Int))).toNat default % 6 ∧ (1 : Int) + numbers.getD ((at_ + 3) + 3 * ((0 : Int) + (y : Int))).toNat default % 6 ≤ 1000
    omega
  · obtain ⟨y, _, rfl⟩ := List.mem_map.mp hw
    exact ⟨hm _, hm _⟩
theorem xyz_len (i : Nat) : ([(Str.ofString ""), (Str.ofString "t"), (Str.ofString "task")].getD i default).length ≤ 4 := by
  rcases i with _ | _ | _ | i
  · decide +kernel
  · decide +kernel
  · decide +kernel
  · show (default : Str).length ≤ 4
    decide +kernel
theorem xyz_ok : ∀ i : Nat, i < 3 → ∀ k : Nat, k < 3 → m_is_name ([(Str.ofString ""), (Str.ofString "t"), (Str.ofString "task")].getD i default ++ chA (Str.ofString "xyz") ((0 : Int) + (k : Int))) = true ∧ ([(Str.ofString ""), (Str.ofString "t"), (Str.ofString "task")].getD i default ++ chA (Str.ofString "xyz") ((0 : Int) + (k : Int))).length ≤ 1000 := by decide +kernel
set_option hygiene false in
local macro_rules | `(tactic| walk_at "pre") => `(tactic| first | exact ⟨by omega, hnf.2⟩ | exact ⟨by omega, by omega⟩ | exact ⟨by omega, by omega, by omega, by omega⟩ | exact ⟨hxo.2, hxo.1, hko.short, by omega, hko.are, by omega, hwo.are⟩ | exact ⟨by omega, by omega, by omega, by omega, fun k hk => by have := hko.cost k hk; omega, fun w hw => ⟨(hwo.dist w hw).1, (hwo.ends w hw).2⟩⟩ | exact ⟨hqb, by omega, by omega, joint_top hqb (by rw [hqa]; simp; omega) (by omega) (by omega), by omega, hnf.2⟩ | fail)
set_option hygiene false in
local macro_rules | `(tactic| walk_at "sd") => `(tactic| first | omega | (simp only [List.length_range]; omega) | (rw [chA_len]; omega) | (rw [kinds_shape84, List.length_map, List.length_range]; omega) | fail)
theorem sc_law : FnScope ["_law_script", "_law_numbers_here", "_law_horizon", "_law_tasks", "_law_works", "_law_k", "_law_factor", "_law_kinds_here", "_law_ways_here", "_law_demands_here", "_law_kind", "_law_size"] ["_law_script"] (defScope s_law) := ⟨rfl, rfl, rfl, by decide +kernel, rfl, by decide +kernel, by decide +kernel⟩
def sp_law : SpN := fun zcs zL zKc => ∃ script : List Int, zcs = [.fr ((eL D.int) script)] ∧ zL = [] ∧ (script.length ≤ 63) ∧ ∀ zL', zKc (.fr (D.bl (m_law script))) zL'
theorem ok_law (T : TX P K mg) : FnOk P w K mg base CX0 10 T.a_law T.d_law ["_law_script"] (SpOf K mg sp_law) := by
  have O_Task_init__ := ok_Task_init__ (P := P) (w := w) (base := base) T
  have O_law_demands := ok_law_demands (P := P) (w := w) (base := base) T
  have O_law_kinds := ok_law_kinds (P := P) (w := w) (base := base) T
  have O_law_needs := ok_law_needs (P := P) (w := w) (base := base) T
  have O_law_numbers := ok_law_numbers (P := P) (w := w) (base := base) T
  have O_law_server := ok_law_server (P := P) (w := w) (base := base) T
  have O_law_ways := ok_law_ways (P := P) (w := w) (base := base) T
  refine T.F_law.okN sc_law (fun zcs zL zKc zh => by obtain ⟨script, rfl, _⟩ := zh; rfl) fun zcdv zA zout zst zH zE zB zcs zL zKc zhr zh => ?_
  obtain ⟨script, rfl, rfl, hpre, zk⟩ := zh
  have nd := sc_law.nd
  have hSL := sizeLine_eq
  have hxyz : (Str.ofString "xyz").length = 3 := by decide +kernel
  show Exs _ _ _ ⟨[some (.fr ((eL D.int) script)), none, none, none, none, none, none, none, none, none, none, none], []⟩ _
  refine exs_cons (ex_set 1 (ev_call (ds := [(eL D.int) script, D.int (90 : Int)]) (ds' := []) (dvs := []) (dfs := []) O_law_numbers (zhr.mono (by decide)) T.m_law_numbers T.k_law_numbers T.b_law_numbers .nil (fun _ => .nil) (ea_cons (ev_var 0 rfl (.inl rfl) rfl) (ea_cons ev_int ea_nil)) (fun _ zkk => ⟨script, (90 : Int), rfl, rfl, (by walk_at "pre"), zkk⟩) (by exact rfl)) ?_ nd rfl (.inl rfl))
  show Exs _ _ _ ⟨[some (.fr ((eL D.int) script)), some (.fr ((eL D.int) (m_law_numbers script (90 : Int)))), none, none, none, none, none, none, none, none, none, none], []⟩ _
  generalize zg_numbers : (m_law_numbers script (90 : Int)) = numbers
  show Exs _ _ _ ⟨[some (.fr ((eL D.int) script)), some (.fr ((eL D.int) numbers)), none, none, none, none, none, none, none, none, none, none], []⟩ _
  have hnf := numbers_facts script (90 : Int) (by decide)
  rw [zg_numbers] at hnf
  refine exs_cons (ex_set 2 (ev_bin o_add ev_int (ev_bin (o_mod (by walk_at "sd")) (ev_ix (ix_L (xs := numbers) (enc := D.int) (by exact rfl) (by walk_at "sd") (by walk_at "sd")) (ev_var 1 rfl (.inl rfl) rfl) ev_int) ev_int)) ?_ nd rfl (.inl rfl))
  show Exs _ _ _ ⟨[some (.fr ((eL D.int) script)), some (.fr ((eL D.int) numbers)), some (.fr (D.int ((1 : Int) + ((numbers.getD ((6 : Int)).toNat default) % (24 : Int))))), none, none, none, none, none, none, none, none, none], []⟩ _
  generalize zg_horizon : ((1 : Int) + ((numbers.getD ((6 : Int)).toNat default) % (24 : Int))) = horizon
  show Exs _ _ _ ⟨[some (.fr ((eL D.int) script)), some (.fr ((eL D.int) numbers)), some (.fr (D.int horizon)), none, none, none, none, none, none, none, none, none], []⟩ _
  have hhz : 1 ≤ horizon ∧ horizon ≤ 24 := by rw [← zg_horizon]; omega
  refine exs_cons (ex_set 3 (ev_lstN 100 (enc := eTask) ([] : List Task) ea_nil rfl (by simp only [List.length_cons, List.length_nil]; decide) (by simp [names]) (by decide)) ?_ nd rfl (.inl rfl))
  show Exs _ _ _ ⟨[some (.fr ((eL D.int) script)), some (.fr ((eL D.int) numbers)), some (.fr (D.int horizon)), some (.ad 100), none, none, none, none, none, none, none, none], [(100, .fl ((([] : List Task)).map eTask))]⟩ _
  refine exs_cons (ex_set 4 (ev_lcM (enc2 := D.int) 199 (fun zc1 : Nat => (0 : Int)) _ rfl nd (blkOk_by (N := ["_law_script", "_law_numbers_here", "_law_horizon", "_law_tasks", "_law_works", "_law_k", "_law_factor", "_law_kinds_here", "_law_ways_here", "_law_demands_here", "_law_kind", "_law_size"]) (sc := defScope s_law) (own := [(("_law_k" : Str), 5)]) (by decide +kernel)) (src_range1 (ea_cons (ev_bin o_add (ev_var 2 rfl (.inl rfl) rfl) ev_int) ea_nil) (by exact rfl) T.n_range (by walk_at "sd") (by walk_at "sd")) (by simp [names]) (by decide) (by walk_at "sd") (fun _ zc1 _ zhyzc1 _ _ _ _ _ => (eg_nameC 5 nd rfl (.inl rfl) (by decide) (.inr rfl))) (fun _ zc1 _ zhyzc1 _ _ _ _ _ => ev_int)) ?_ nd rfl (.inr rfl))
  show Exs _ _ _ ⟨[some (.fr ((eL D.int) script)), some (.fr ((eL D.int) numbers)), some (.fr (D.int horizon)), some (.ad 100), some (.fr ((eL D.int) ((List.range ((horizon + (1 : Int))).toNat).map (fun zc1 : Nat => (0 : Int))))), none, none, none, none, none, none, none], [(100, .fl ((([] : List Task)).map eTask))]⟩ _
  generalize zg_works : ((List.range ((horizon + (1 : Int))).toNat).map (fun zc1 : Nat => (0 : Int))) = works
  show Exs _ _ _ ⟨[some (.fr ((eL D.int) script)), some (.fr ((eL D.int) numbers)), some (.fr (D.int horizon)), some (.ad 100), some (.fr ((eL D.int) works)), none, none, none, none, none, none, none], [(100, .fl ((([] : List Task)).map eTask))]⟩ _
  have hw0 : (works.length : Int) = horizon + 1 := by rw [← zg_works, List.length_map, List.length_range]; omega
  refine exs_cons (ex_forF (enc := (fun i : Nat => D.int ((0 : Int) + (i : Int)))) (fun (zs0 : (List Task) × (List Int)) => (⟨[some (.fr ((eL D.int) script)), some (.fr ((eL D.int) numbers)), some (.fr (D.int horizon)), some (.ad 100), some (.fr ((eL D.int) zs0.2)), none, none, none, none, none, none, none], [(100, .fl ((zs0.1).map eTask))]⟩ : Nz.S)) (m_law_l0 numbers horizon) (([] : List Task), works) (fun (zi0 : Nat) (zs0 : (List Task) × (List Int)) => zs0.1.length = zi0 ∧ (∀ t ∈ zs0.1, t.ok) ∧ (zs0.2.length : Int) = horizon + 1) (src_range1 (ea_cons (ev_bin (o_mod (by walk_at "sd")) (ev_ix (ix_L (xs := numbers) (enc := D.int) (by exact rfl) (by walk_at "sd") (by walk_at "sd")) (ev_var 1 rfl (.inl rfl) rfl) ev_int) ev_int) ea_nil) (by exact rfl) T.n_range (by walk_at "sd") (by walk_at "sd")) ⟨⟨.inr rfl, .inr rfl, .inr rfl, .inr rfl, .inr rfl, .inl rfl, .inl rfl, .inl rfl, .inl rfl, .inl rfl, .inl rfl, .inl rfl, trivial⟩, rfl⟩ ⟨by simp, fun _ h => absurd h (by simp), hw0⟩ ?_ ?_ PassesOwn.never rfl)
  · intro zi0 zy0 zs0 zhy0 zq0
    skip
    have hy0 := seq_range zhy0
    have hi := (List.getElem?_eq_some_iff.mp zhy0).1
    simp only [List.length_range] at hi
    obtain ⟨zqa, zqb, zqc⟩ := zq0
    refine ⟨⟨[some (.fr ((eL D.int) script)), some (.fr ((eL D.int) numbers)), some (.fr (D.int horizon)), some (.ad 100), some (.fr ((eL D.int) zs0.2)), some (.fr (D.int ((0 : Int) + (zy0 : Int)))), none, none, none, none, none, none], [(100, .fl ((zs0.1).map eTask))]⟩, (eg_name 5 nd rfl (.inl rfl)), ?_⟩
    refine exs_cons (ex_set 6 (ev_ix (ix_L (xs := [(1 : Int), (17 : Int), (240 : Int)]) (enc := D.int) (by exact rfl) (by walk_at "sd") (by walk_at "sd")) (ev_lstF (enc := D.int) [(1 : Int), (17 : Int), (240 : Int)] (ea_cons ev_int (ea_cons ev_int (ea_cons ev_int ea_nil))) rfl (by simp only [List.length_cons, List.length_nil]; decide)) (ev_bin (o_mod (by walk_at "sd")) (ev_ix (ix_L (xs := numbers) (enc := D.int) (by exact rfl) (by walk_at "sd") (by walk_at "sd")) (ev_var 1 rfl (.inl rfl) rfl) ev_int) ev_int)) ?_ nd rfl (.inr rfl))
    show Exs _ _ _ ⟨[some (.fr ((eL D.int) script)), some (.fr ((eL D.int) numbers)), some (.fr (D.int horizon)), some (.ad 100), some (.fr ((eL D.int) zs0.2)), some (.fr (D.int ((0 : Int) + (zy0 : Int)))), some (.fr (D.int ([(1 : Int), (17 : Int), (240 : Int)].getD (((numbers.getD ((8 : Int)).toNat default) % (3 : Int))).toNat default))), none, none, none, none, none], [(100, .fl ((zs0.1).map eTask))]⟩ _
    generalize zg_factor : ([(1 : Int), (17 : Int), (240 : Int)].getD (((numbers.getD ((8 : Int)).toNat default) % (3 : Int))).toNat default) = factor
    show Exs _ _ _ ⟨[some (.fr ((eL D.int) script)), some (.fr ((eL D.int) numbers)), some (.fr (D.int horizon)), some (.ad 100), some (.fr ((eL D.int) zs0.2)), some (.fr (D.int ((0 : Int) + (zy0 : Int)))), some (.fr (D.int factor)), none, none, none, none, none], [(100, .fl ((zs0.1).map eTask))]⟩ _
    have hfa := fac84 (numbers.getD ((8 : Int)).toNat default)
    rw [zg_factor] at hfa
    refine exs_cons (ex_setLcM 7 (enc2 := (eT3 D.str D.int D.int)) 199 (fun zc4 : Str × Int × Int => (zc4.1, (zc4.2.1 * factor), zc4.2.2)) _ rfl nd rfl rfl (sw_true rfl rfl rfl (by decide +kernel)) (blkOk_by (N := ["_law_script", "_law_numbers_here", "_law_horizon", "_law_tasks", "_law_works", "_law_k", "_law_factor", "_law_kinds_here", "_law_ways_here", "_law_demands_here", "_law_kind", "_law_size"]) (sc := defScope s_law) (own := [(("_law_kind" : Str), 10)]) (by decide +kernel)) (src_listT (ev_call (ds := [(eL D.int) numbers, D.int ((10 : Int) + ((24 : Int) * ((0 : Int) + (zy0 : Int))))]) (ds' := []) (dvs := []) (dfs := []) O_law_kinds (zhr.mono (by decide)) T.m_law_kinds T.k_law_kinds T.b_law_kinds .nil (fun _ => .nil) (ea_cons (ev_var 1 rfl (.inl rfl) rfl) (ea_cons (ev_bin o_add ev_int (ev_bin (o_mul (by walk_at "mul")) ev_int (ev_var 5 rfl (.inl rfl) rfl))) ea_nil)) (fun _ zkk => ⟨numbers, ((10 : Int) + ((24 : Int) * ((0 : Int) + (zy0 : Int)))), rfl, rfl, (by walk_at "pre"), zkk⟩) (by exact rfl))) (by simp [names]) (by decide) (by walk_at "sd") (fun _ zc4 _ zhyzc4 _ _ _ _ _ => (eg_nameC 10 nd rfl (.inl rfl) (by decide) (.inr rfl))) (fun _ zc4 _ zhyzc4 _ _ _ _ _ => (ev_tup (ds := [D.str zc4.1, D.int (zc4.2.1 * factor), D.int zc4.2.2]) (ea_cons (ev_ix (.t (d := D.str zc4.1) rfl) (ev_var 10 rfl (.inl rfl) rfl) ev_int) (ea_cons (ev_bin (o_mul (by walk_at "mul")) (ev_ix (.t (d := D.int zc4.2.1) rfl) (ev_var 10 rfl (.inl rfl) rfl) ev_int) (ev_var 6 rfl (.inr (.inl rfl)) rfl)) (ea_cons (ev_ix (.t (d := D.int zc4.2.2) rfl) (ev_var 10 rfl (.inl rfl) rfl) ev_int) ea_nil))) (by simp only [List.length_cons, List.length_nil]; decide))) ?_)
    show Exs _ _ _ ⟨[some (.fr ((eL D.int) script)), some (.fr ((eL D.int) numbers)), some (.fr (D.int horizon)), some (.ad 100), some (.fr ((eL D.int) zs0.2)), some (.fr (D.int ((0 : Int) + (zy0 : Int)))), some (.fr (D.int factor)), some (.fr ((eL (eT3 D.str D.int D.int)) ((m_law_kinds numbers ((10 : Int) + ((24 : Int) * ((0 : Int) + (zy0 : Int))))).map (fun zc4 : Str × Int × Int => (zc4.1, (zc4.2.1 * factor), zc4.2.2))))), none, none, none, none], [(100, .fl ((zs0.1).map eTask))]⟩ _
    generalize zg_kinds : ((m_law_kinds numbers ((10 : Int) + ((24 : Int) * ((0 : Int) + (zy0 : Int))))).map (fun zc4 : Str × Int × Int => (zc4.1, (zc4.2.1 * factor), zc4.2.2))) = kinds
    show Exs _ _ _ ⟨[some (.fr ((eL D.int) script)), some (.fr ((eL D.int) numbers)), some (.fr (D.int horizon)), some (.ad 100), some (.fr ((eL D.int) zs0.2)), some (.fr (D.int ((0 : Int) + (zy0 : Int)))), some (.fr (D.int factor)), some (.fr ((eL (eT3 D.str D.int D.int)) kinds)), none, none, none, none], [(100, .fl ((zs0.1).map eTask))]⟩ _
    have hko : KindsOk kinds := by rw [← zg_kinds]; exact kinds84 numbers _ hfa
    have hkp := hko.pos
    have hk8 := hko.le
    refine exs_cons (ex_set 8 (ev_call (ds := [(eL D.int) numbers, D.int ((17 : Int) + ((24 : Int) * ((0 : Int) + (zy0 : Int)))), (eL (eT3 D.str D.int D.int)) kinds]) (ds' := []) (dvs := []) (dfs := []) O_law_ways (zhr.mono (by decide)) T.m_law_ways T.k_law_ways T.b_law_ways .nil (fun _ => .nil) (ea_cons (ev_var 1 rfl (.inl rfl) rfl) (ea_cons (ev_bin o_add ev_int (ev_bin (o_mul (by walk_at "mul")) ev_int (ev_var 5 rfl (.inl rfl) rfl))) (ea_cons (ev_var 7 rfl (.inl rfl) rfl) ea_nil))) (fun _ zkk => ⟨numbers, ((17 : Int) + ((24 : Int) * ((0 : Int) + (zy0 : Int)))), kinds, rfl, rfl, (by walk_at "pre"), zkk⟩) (by exact rfl)) ?_ nd rfl (.inl rfl))
    show Exs _ _ _ ⟨[some (.fr ((eL D.int) script)), some (.fr ((eL D.int) numbers)), some (.fr (D.int horizon)), some (.ad 100), some (.fr ((eL D.int) zs0.2)), some (.fr (D.int ((0 : Int) + (zy0 : Int)))), some (.fr (D.int factor)), some (.fr ((eL (eT3 D.str D.int D.int)) kinds)), some (.fr ((eL (eT3 D.str D.str D.int)) (m_law_ways numbers ((17 : Int) + ((24 : Int) * ((0 : Int) + (zy0 : Int)))) kinds))), none, none, none], [(100, .fl ((zs0.1).map eTask))]⟩ _
    generalize zg_ways : (m_law_ways numbers ((17 : Int) + ((24 : Int) * ((0 : Int) + (zy0 : Int)))) kinds) = ways
    show Exs _ _ _ ⟨[some (.fr ((eL D.int) script)), some (.fr ((eL D.int) numbers)), some (.fr (D.int horizon)), some (.ad 100), some (.fr ((eL D.int) zs0.2)), some (.fr (D.int ((0 : Int) + (zy0 : Int)))), some (.fr (D.int factor)), some (.fr ((eL (eT3 D.str D.int D.int)) kinds)), some (.fr ((eL (eT3 D.str D.str D.int)) ways)), none, none, none], [(100, .fl ((zs0.1).map eTask))]⟩ _
    have hwo : WaysOk ways kinds := by rw [← zg_ways]; exact ways84 numbers _ hko.pos
    have hw16 := hwo.le
    have hxo := xyz_ok ((numbers.getD ((9 : Int)).toNat default) % (3 : Int)).toNat (by omega) zy0 (by omega)
    have hxl := xyz_len ((numbers.getD ((9 : Int)).toNat default) % (3 : Int)).toNat
    refine exs_cons (ex_expr (ev_appendT (n := 100) (enc := eTask) (xs := zs0.1) (xs0 := zs0.1) (m_Task_init__ (([(Str.ofString ""), (Str.ofString "t"), (Str.ofString "task")].getD (((numbers.getD ((9 : Int)).toNat default) % (3 : Int))).toNat default) ++ (chA (Str.ofString "xyz") ((0 : Int) + (zy0 : Int)))) kinds ways) rfl rfl rfl (by walk_at "sd") (ev_var 3 rfl (.inl rfl) rfl) (ev_makeK (c := "Task") (fs := fTask (m_Task_init__ (([(Str.ofString ""), (Str.ofString "t"), (Str.ofString "task")].getD (((numbers.getD ((9 : Int)).toNat default) % (3 : Int))).toNat default) ++ (chA (Str.ofString "xyz") ((0 : Int) + (zy0 : Int)))) kinds ways)) (ds := [D.str (([(Str.ofString ""), (Str.ofString "t"), (Str.ofString "task")].getD (((numbers.getD ((9 : Int)).toNat default) % (3 : Int))).toNat default) ++ (chA (Str.ofString "xyz") ((0 : Int) + (zy0 : Int))))]) (es' := [(eL (eT3 D.str D.int D.int)) kinds, (eL (eT3 D.str D.str D.int)) ways]) (n := 1) (ks := ["kinds", "ways"]) T.q_Task T.mk_Task_init__ O_Task_init__ (zhr.mono (by decide)) T.kb_Task_init___1_kinds_ways (ea_cons (ev_bin (o_adds (by walk_at "sd")) (ev_ix (ix_L (xs := [(Str.ofString ""), (Str.ofString "t"), (Str.ofString "task")]) (enc := D.str) (by exact rfl) (by walk_at "sd") (by walk_at "sd")) (ev_lstF (enc := D.str) [(Str.ofString ""), (Str.ofString "t"), (Str.ofString "task")] (ea_cons ev_str (ea_cons ev_str (ea_cons ev_str ea_nil))) rfl (by simp only [List.length_cons, List.length_nil]; decide)) (ev_bin (o_mod (by walk_at "sd")) (ev_ix (ix_L (xs := numbers) (enc := D.int) (by exact rfl) (by walk_at "sd") (by walk_at "sd")) (ev_var 1 rfl (.inl rfl) rfl) ev_int) ev_int)) (ev_ixS ev_str (ev_var 5 rfl (.inl rfl) rfl) (by walk_at "sd") (by walk_at "sd") (by walk_at "sd"))) ea_nil) (ek_cons (ev_var 7 rfl (.inl rfl) rfl) (ek_cons (ev_var 8 rfl (.inl rfl) rfl) ek_nil)) rfl rfl (fun _ zkk => ⟨(([(Str.ofString ""), (Str.ofString "t"), (Str.ofString "task")].getD (((numbers.getD ((9 : Int)).toNat default) % (3 : Int))).toNat default) ++ (chA (Str.ofString "xyz") ((0 : Int) + (zy0 : Int)))), kinds, ways, rfl, rfl, (by walk_at "pre"), zkk⟩) (by exact rfl))) ?_)
    show Exs _ _ _ ⟨[some (.fr ((eL D.int) script)), some (.fr ((eL D.int) numbers)), some (.fr (D.int horizon)), some (.ad 100), some (.fr ((eL D.int) zs0.2)), some (.fr (D.int ((0 : Int) + (zy0 : Int)))), some (.fr (D.int factor)), some (.fr ((eL (eT3 D.str D.int D.int)) kinds)), some (.fr ((eL (eT3 D.str D.str D.int)) ways)), none, none, none], [(100, .fl (((zs0.1 ++ [(m_Task_init__ (([(Str.ofString ""), (Str.ofString "t"), (Str.ofString "task")].getD (((numbers.getD ((9 : Int)).toNat default) % (3 : Int))).toNat default) ++ (chA (Str.ofString "xyz") ((0 : Int) + (zy0 : Int)))) kinds ways)])).map eTask))]⟩ _
    refine exs_cons (ex_set 9 (ev_call (ds := [(eL (eT3 D.str D.int D.int)) kinds, (eL (eT3 D.str D.str D.int)) ways, D.int horizon]) (ds' := []) (dvs := []) (dfs := []) O_law_demands (zhr.mono (by decide)) T.m_law_demands T.k_law_demands T.b_law_demands .nil (fun _ => .nil) (ea_cons (ev_var 7 rfl (.inl rfl) rfl) (ea_cons (ev_var 8 rfl (.inl rfl) rfl) (ea_cons (ev_var 2 rfl (.inl rfl) rfl) ea_nil))) (fun _ zkk => ⟨kinds, ways, horizon, rfl, rfl, (by walk_at "pre"), zkk⟩) (by exact rfl)) ?_ nd rfl (.inr rfl))
    show Exs _ _ _ ⟨[some (.fr ((eL D.int) script)), some (.fr ((eL D.int) numbers)), some (.fr (D.int horizon)), some (.ad 100), some (.fr ((eL D.int) zs0.2)), some (.fr (D.int ((0 : Int) + (zy0 : Int)))), some (.fr (D.int factor)), some (.fr ((eL (eT3 D.str D.int D.int)) kinds)), some (.fr ((eL (eT3 D.str D.str D.int)) ways)), some (.fr ((eL D.int) (m_law_demands kinds ways horizon))), none, none], [(100, .fl (((zs0.1 ++ [(m_Task_init__ (([(Str.ofString ""), (Str.ofString "t"), (Str.ofString "task")].getD (((numbers.getD ((9 : Int)).toNat default) % (3 : Int))).toNat default) ++ (chA (Str.ofString "xyz") ((0 : Int) + (zy0 : Int)))) kinds ways)])).map eTask))]⟩ _
    generalize zg_demands : (m_law_demands kinds ways horizon) = demands
    show Exs _ _ _ ⟨[some (.fr ((eL D.int) script)), some (.fr ((eL D.int) numbers)), some (.fr (D.int horizon)), some (.ad 100), some (.fr ((eL D.int) zs0.2)), some (.fr (D.int ((0 : Int) + (zy0 : Int)))), some (.fr (D.int factor)), some (.fr ((eL (eT3 D.str D.int D.int)) kinds)), some (.fr ((eL (eT3 D.str D.str D.int)) ways)), some (.fr ((eL D.int) demands)), none, none], [(100, .fl (((zs0.1 ++ [(m_Task_init__ (([(Str.ofString ""), (Str.ofString "t"), (Str.ofString "task")].getD (((numbers.getD ((9 : Int)).toNat default) % (3 : Int))).toNat default) ++ (chA (Str.ofString "xyz") ((0 : Int) + (zy0 : Int)))) kinds ways)])).map eTask))]⟩ _
    have hdl := dem_len82 kinds ways (n := horizon) (by omega)
    rw [zg_demands] at hdl
    refine exs_one (ex_set 4 (ev_lcM (enc2 := D.int) 199 (fun zc5 : Nat => ((zs0.2.getD (((0 : Int) + (zc5 : Int))).toNat default) + (demands.getD (((0 : Int) + (zc5 : Int))).toNat default))) _ rfl nd (blkOk_by (N := ["_law_script", "_law_numbers_here", "_law_horizon", "_law_tasks", "_law_works", "_law_k", "_law_factor", "_law_kinds_here", "_law_ways_here", "_law_demands_here", "_law_kind", "_law_size"]) (sc := defScope s_law) (own := [(("_law_size" : Str), 11)]) (by decide +kernel)) (src_range1 (ea_cons (ev_bin o_add (ev_var 2 rfl (.inl rfl) rfl) ev_int) ea_nil) (by exact rfl) T.n_range (by walk_at "sd") (by walk_at "sd")) (by simp [names]) (by decide) (by walk_at "sd") (fun _ zc5 _ zhyzc5 _ _ _ _ _ => (eg_nameC 11 nd rfl (.inl rfl) (by decide) (.inr rfl))) (fun _ zc5 _ zhyzc5 _ _ _ _ _ => (ev_bin o_add (ev_ix (ix_L (xs := zs0.2) (enc := D.int) (by exact rfl) (by walk_at "sd") (by walk_at "sd")) (ev_var 4 rfl (.inr (.inl rfl)) rfl) (ev_var 11 rfl (.inl rfl) rfl)) (ev_ix (ix_L (xs := demands) (enc := D.int) (by exact rfl) (by walk_at "sd") (by walk_at "sd")) (ev_var 9 rfl (.inr (.inl rfl)) rfl) (ev_var 11 rfl (.inl rfl) rfl))))) ?_ nd rfl (.inr rfl))
    have est : (m_law_l0 numbers horizon) zs0 zy0 = ((zs0.1 ++ [(m_Task_init__ (([(Str.ofString ""), (Str.ofString "t"), (Str.ofString "task")].getD (((numbers.getD ((9 : Int)).toNat default) % (3 : Int))).toNat default) ++ (chA (Str.ofString "xyz") ((0 : Int) + (zy0 : Int)))) kinds ways)]), ((List.range ((horizon + (1 : Int))).toNat).map (fun zc5 : Nat => ((zs0.2.getD (((0 : Int) + (zc5 : Int))).toNat default) + (demands.getD (((0 : Int) + (zc5 : Int))).toNat default))))) := by subst zg_demands; subst zg_ways; subst zg_kinds; subst zg_factor; simp only [m_law_l0, not_true_eq_false, not_false_eq_true, ↓reduceIte]
    show Le _ _ ∧ _
    try rw [est]
    exact ⟨⟨⟨.inr rfl, .inr rfl, .inr rfl, .inr rfl, .inr rfl, .inl rfl, .inl rfl, .inl rfl, .inl rfl, .inl rfl, .inl rfl, .inl rfl, trivial⟩, rfl⟩, ⟨by rw [List.length_append, List.length_singleton]; omega, fun t ht => by rcases List.mem_append.mp ht with q | q; exact zqb t q; rw [List.mem_singleton.mp q]; unfold m_Task_init__; rw [if_neg (fun q => q hxo.1), if_neg (fun q => q hko.are), if_neg (fun q => q hwo.are)]; exact ⟨hko.are, hwo.are⟩, by rw [List.length_map, List.length_range]; omega⟩⟩
  · intro zq0
    obtain ⟨hqa, hqb, hqc⟩ := zq0
    show Exs _ _ _ ⟨[some (.fr ((eL D.int) script)), some (.fr ((eL D.int) numbers)), some (.fr (D.int horizon)), some (.ad 100), some (.fr ((eL D.int) (((List.range (((numbers.getD ((7 : Int)).toNat default) % (4 : Int))).toNat).foldl (m_law_l0 numbers horizon) (([] : List Task), works)).2))), none, none, none, none, none, none, none], [(100, .fl ((((List.range (((numbers.getD ((7 : Int)).toNat default) % (4 : Int))).toNat).foldl (m_law_l0 numbers horizon) (([] : List Task), works)).1).map eTask))]⟩ _
    refine exs_freezeT 100 (xs := ((List.range (((numbers.getD ((7 : Int)).toNat default) % (4 : Int))).toNat).foldl (m_law_l0 numbers horizon) (([] : List Task), works)).1) (enc := eTask) (by exact rfl) ?_
    show Exs _ _ _ ⟨[some (.fr ((eL D.int) script)), some (.fr ((eL D.int) numbers)), some (.fr (D.int horizon)), some (.fr ((eL eTask) (((List.range (((numbers.getD ((7 : Int)).toNat default) % (4 : Int))).toNat).foldl (m_law_l0 numbers horizon) (([] : List Task), works)).1))), some (.fr ((eL D.int) (((List.range (((numbers.getD ((7 : Int)).toNat default) % (4 : Int))).toNat).foldl (m_law_l0 numbers horizon) (([] : List Task), works)).2))), none, none, none, none, none, none, none], []⟩ _
    refine exs_one (ex_ret (ev_andP Iff.rfl (ev_call (ds := [(eL D.int) numbers]) (ds' := []) (dvs := []) (dfs := []) O_law_server (zhr.mono (by decide)) T.m_law_server T.k_law_server T.b_law_server .nil (fun _ => .nil) (ea_cons (ev_var 1 rfl (.inl rfl) rfl) ea_nil) (fun _ zkk => ⟨numbers, rfl, rfl, (by walk_at "pre"), zkk⟩) (by exact rfl)) (fun zhp => (ev_one (ev_call (ds := [(eL eTask) (((List.range (((numbers.getD ((7 : Int)).toNat default) % (4 : Int))).toNat).foldl (m_law_l0 numbers horizon) (([] : List Task), works)).1), (eL D.int) (((List.range (((numbers.getD ((7 : Int)).toNat default) % (4 : Int))).toNat).foldl (m_law_l0 numbers horizon) (([] : List Task), works)).2), (eL D.int) numbers]) (ds' := []) (dvs := []) (dfs := []) O_law_needs (zhr.mono (by decide)) T.m_law_needs T.k_law_needs T.b_law_needs .nil (fun _ => .nil) (ea_cons (ev_var 3 rfl (.inl rfl) rfl) (ea_cons (ev_var 4 rfl (.inr (.inl rfl)) rfl) (ea_cons (ev_var 1 rfl (.inl rfl) rfl) ea_nil))) (fun _ zkk => ⟨((List.range (((numbers.getD ((7 : Int)).toNat default) % (4 : Int))).toNat).foldl (m_law_l0 numbers horizon) (([] : List Task), works)).1, ((List.range (((numbers.getD ((7 : Int)).toNat default) % (4 : Int))).toNat).foldl (m_law_l0 numbers horizon) (([] : List Task), works)).2, numbers, rfl, rfl, (by walk_at "pre"), zkk⟩) (by exact rfl))))) ?_)
    have efin : m_law script = ((m_law_server numbers) && (m_law_needs (((List.range (((numbers.getD ((7 : Int)).toNat default) % (4 : Int))).toNat).foldl (m_law_l0 numbers horizon) (([] : List Task), works)).1) (((List.range (((numbers.getD ((7 : Int)).toNat default) % (4 : Int))).toNat).foldl (m_law_l0 numbers horizon) (([] : List Task), works)).2) numbers)) := by subst zg_works; subst zg_horizon; subst zg_numbers; simp only [m_law, not_true_eq_false, not_false_eq_true, ↓reduceIte]
    rw [efin] at zk
    exact zk _
theorem fold_dput {v : Str × Int × Int → Int} {f : List (Str × Int) → Str × Int × Int → List (Str × Int)} (hf : ∀ s k, f s k = dput s k.1 (v k)) : ∀ (ks : List (Str × Int × Int)) (s : List (Str × Int)) (n : Str),
    (n ∉ ks.map (fun z : Str × Int × Int => z.1) → dget (ks.foldl f s) n = dget s n) ∧ ((ks.map fun z : Str × Int × Int => z.1).Nodup → ∀ k ∈ ks, dget (ks.foldl f s) k.1 = some (v k))
  | [], s, n => ⟨fun _ => rfl, fun _ k h => absurd h (by simp)⟩
  | k :: ks, s, n => by
    rw [List.foldl_cons, hf]
    refine ⟨fun h => ?_, fun nd x hx => ?_⟩
    · rw [List.map_cons, List.mem_cons, not_or] at h
      rw [(fold_dput hf ks _ n).1 h.2, dget_put, if_neg (fun q => h.1 q.symm)]
    · rw [List.map_cons, List.nodup_cons] at nd
      rcases List.mem_cons.mp hx with q | q
      · subst q
        rw [(fold_dput hf ks _ x.1).1 nd.1, dget_put, if_pos rfl]
      · exact (fold_dput hf ks _ n).2 nd.2 x q
theorem fold_way {c : Str × Str × Int → Prop} [DecidablePred c] {g : Str × Str × Int → Int} {f : Int → Str × Str × Int → Int} (hf : ∀ s w, f s w = if c w then (if g w > s then g w else s) else s) : ∀ (ws : List (Str × Str × Int)) (s : Int),
    s ≤ ws.foldl f s ∧ (∀ w ∈ ws, c w → g w ≤ ws.foldl f s) ∧ (ws.foldl f s = s ∨ ∃ w ∈ ws, c w ∧ ws.foldl f s = g w)
  | [], s => ⟨Int.le_refl _, fun _ h => absurd h (by simp), .inl rfl⟩
  | w :: ws, s => by
    rw [List.foldl_cons]
    obtain ⟨h1, h2, h3⟩ := fold_way hf ws (f s w)
    have e := hf s w
    have hs : s ≤ f s w := by rw [e]; split <;> (try split) <;> omega
    have hg : c w → g w ≤ f s w := fun hc => by rw [e, if_pos hc]; split <;> omega
    refine ⟨Int.le_trans hs h1, fun x hx hc => ?_, ?_⟩
    · rcases List.mem_cons.mp hx with q | q
      · subst q; exact Int.le_trans (hg hc) h1
      · exact h2 x q hc
    · rcases h3 with h3 | ⟨x, hx, hc, h3⟩
      · rw [h3, e]
        by_cases hc : c w
        · rw [if_pos hc]
          by_cases hz : g w > s
          · rw [if_pos hz]; exact .inr ⟨w, List.mem_cons_self, hc, rfl⟩
          · rw [if_neg hz]; exact .inl rfl
        · rw [if_neg hc]; exact .inl rfl
      · exact .inr ⟨x, List.mem_cons_of_mem _ hx, hc, h3⟩
theorem Best.uniq {ks : List KD} {steps : List (Int × Int)} {n : Nat} {a b : Int} (h1 : Best ks steps n a) (h2 : Best ks steps n b) : a = b := by
  have le : ∀ {a b : Int}, Best ks steps n a → Best ks steps n b → a ≤ b := fun {a b} h1 h2 => by
    rcases h1.eq with q | ⟨s, hs, h3, q⟩
    · have := h2.nn; omega
    · have := h2.ge s hs h3; omega
  exact Int.le_antisymm (le h1 h2) (le h2 h1)
/-- the rows of dicts hold the numbers -/
def DR (t : Task) (R : List (List (Str × Int))) : Prop := ∀ i, i < R.length → ∀ k, k < t.kinds.length → (dget (R.getD i default) (t.kinds.getD k default).1).getD default = Nm (kdOf t) i k
theorem dr_step {t : Task} (ok : t.ok) {R : List (List (Str × Int))} (h : DR t R) : DR t (m_law_demands_l0 t.kinds t.ways R R.length) := by
  have hk := kd_ok ok fun k hk => by have := (ok.cost k hk).1.1; omega
  intro i hi k hkl
  unfold m_law_demands_l0 at hi ⊢
  rw [List.length_append, List.length_singleton] at hi
  by_cases hlt : i < R.length
  · rw [List.getD_eq_getElem?_getD, List.getElem?_append_left hlt, ← List.getD_eq_getElem?_getD]
    exact h i hlt k hkl
  · have e : i = R.length := by omega
    subst e
    rw [List.getD_eq_getElem?_getD (l := R ++ _), List.getElem?_append_right (Nat.le_refl _), Nat.sub_self]
    show (dget (t.kinds.foldl (m_law_demands_l1 t.ways R ((0 : Int) + (R.length : Int))) []) _).getD default = _
    have hm : t.kinds.getD k default ∈ t.kinds := getD_mem hkl
    have hkk : t.kinds[k]? = some (t.kinds.getD k default) := by rw [List.getD_eq_getElem?_getD, List.getElem?_eq_getElem hkl]; rfl
    rw [(fold_dput (f := m_law_demands_l1 t.ways R ((0 : Int) + (R.length : Int))) (v := fun z => (z.2.1 * (if (decide (z.2.2 ≤ (0 : Int) + (R.length : Int))) = true then (1 : Int) else 0)) + (t.ways.foldl (m_law_demands_l2 R ((0 : Int) + (R.length : Int)) z) (0 : Int))) (fun s z => rfl) t.kinds [] (t.kinds.getD k default).1).2 (names_nd ok) _ hm]
    generalize hkd : t.kinds.getD k default = kd at hm hkk
    obtain ⟨b, hb, e⟩ := Nm_rec hk (k := k) (d := (kd.2.1, kd.2.2, m_steps t kd.1)) (by show (t.kinds.map _)[k]? = _; rw [List.getElem?_map, hkk]; rfl) R.length
    rw [e]
    have hbest : Best (kdOf t) (m_steps t kd.1) R.length (t.ways.foldl (m_law_demands_l2 R ((0 : Int) + (R.length : Int)) kd) 0) := by
      have hn : kd.1 ∈ t.kinds.map (·.1) := List.mem_map.mpr ⟨kd, hm, rfl⟩
      obtain ⟨g1, g2, g3⟩ := fold_way (c := fun w => w.1 = kd.1 ∧ w.2.2 ≤ (0 : Int) + (R.length : Int)) (g := fun w => (dget (R.getD ((0 : Int) + (R.length : Int) - w.2.2).toNat default) w.2.1).getD default) (f := m_law_demands_l2 R ((0 : Int) + (R.length : Int)) kd) (fun s w => rfl) t.ways 0
      have val : ∀ w ∈ t.ways, w.2.2 ≤ (R.length : Int) → (dget (R.getD ((0 : Int) + (R.length : Int) - w.2.2).toNat default) w.2.1).getD default = Nm (kdOf t) (R.length - w.2.2.toNat) (m_Task_kind_number t w.2.1).toNat := fun w hw hd => by
        have d1 := (ok.dist w hw).1
        obtain ⟨j, ej, hj, c, hc1, hc2⟩ := kind_num (ok.wn w hw).2
        have := h (R.length - w.2.2.toNat) (by omega) j hj
        rw [ej, show ((j : Nat) : Int).toNat = j from Int.toNat_natCast j, show ((0 : Int) + (R.length : Int) - w.2.2).toNat = R.length - w.2.2.toNat by omega, ← this, List.getD_eq_getElem?_getD (l := t.kinds), hc1, ← hc2]; rfl
      refine ⟨g1, fun s hs hd => ?_, ?_⟩
      · obtain ⟨w, hw, hw1, rfl⟩ := (steps_mem hn).mp hs
        rw [← val w hw hd]
        exact g2 w hw ⟨hw1, by have hd : w.2.2 ≤ (R.length : Int) := hd; omega⟩
      · rcases g3 with g3 | ⟨w, hw, ⟨hw1, hw2⟩, g3⟩
        · exact .inl g3
        · refine .inr ⟨_, (steps_mem hn).mpr ⟨w, hw, hw1, rfl⟩, by show w.2.2 ≤ (R.length : Int); omega, ?_⟩
          rw [g3]; exact val w hw (by omega)
    rw [hbest.uniq hb]
    show (kd.2.1 * (if (decide (kd.2.2 ≤ (0 : Int) + (R.length : Int))) = true then (1 : Int) else 0)) + b = b + if kd.2.2 ≤ (R.length : Int) then kd.2.1 else 0
    by_cases hz : kd.2.2 ≤ (R.length : Int)
    · rw [if_pos hz, if_pos (decide_eq_true (by omega))]; omega
    · rw [if_neg hz, if_neg (fun q => hz (by have := of_decide_eq_true q; omega))]; omega
theorem dr_all {t : Task} (ok : t.ok) : ∀ n : Nat, ((List.range n).foldl (m_law_demands_l0 t.kinds t.ways) []).length = n ∧ DR t ((List.range n).foldl (m_law_demands_l0 t.kinds t.ways) [])
  | 0 => ⟨rfl, fun i hi => absurd hi (by simp)⟩
  | n + 1 => by
    obtain ⟨h1, h2⟩ := dr_all ok n
    rw [List.range_succ, List.foldl_append, List.foldl_cons, List.foldl_nil]
    generalize (List.range n).foldl (m_law_demands_l0 t.kinds t.ways) [] = R at h1 h2
    have := dr_step ok h2
    rw [h1] at this
    refine ⟨?_, this⟩
    unfold m_law_demands_l0
    rw [List.length_append, List.length_singleton, h1]
theorem dem82 {t : Task} (ok : t.ok) {n i : Nat} (h : i ≤ n) : (m_law_demands t.kinds t.ways (n : Int)).getD i default = dmd t (i : Int) := by
  unfold m_law_demands
  obtain ⟨h1, h2⟩ := dr_all ok (n + 1)
  rw [show ((n : Int) + 1).toNat = n + 1 by omega]
  generalize (List.range (n + 1)).foldl (m_law_demands_l0 t.kinds t.ways) [] = R at h1 h2
  rw [List.getD_eq_getElem?_getD, List.getElem?_map, List.getElem?_eq_getElem (by omega)]
  show maxL _ = dmd t _
  unfold dmd
  rw [show ((i : Int)).toNat = i by omega, rows_at (Nat.le_refl _)]
  congr 1
  refine List.ext_getElem? fun k => ?_
  by_cases hk : k < t.kinds.length
  · have e := h2 i (by omega) k hk
    have hm : (rowF (kdOf t) (Rw (kdOf t) i) (i : Int)).length = t.kinds.length := by unfold rowF; rw [List.length_map, kdOf_len]
    rw [List.getElem?_map, List.getElem?_eq_getElem hk, List.getElem?_eq_getElem (by omega)]
    rw [List.getD_eq_getElem?_getD (l := R), List.getElem?_eq_getElem (by omega), List.getD_eq_getElem?_getD (l := t.kinds), List.getElem?_eq_getElem hk] at e
    unfold Nm at e
    rw [List.getD_eq_getElem?_getD, List.getElem?_eq_getElem (by omega)] at e
    exact congrArg some e
  · have hm : (rowF (kdOf t) (Rw (kdOf t) i) (i : Int)).length = t.kinds.length := by unfold rowF; rw [List.length_map, kdOf_len]
    rw [List.getElem?_map, List.getElem?_eq_none (by omega), List.getElem?_eq_none (by omega)]; rfl
/-- what a table offers in n slots from slot s on -/
def Wn (t : List Int) (s : Nat) : Nat → Int
  | 0 => 0
  | n + 1 => Wn t s n + t.getD ((s + n) % t.length) default
def lo2 (a b : Int) : Int := if b < a then b else a
/-- the least over the first m starts, from x on -/
def Lm (t : List Int) (n : Nat) (m : Nat) (x : Int) : Int := (List.range m).foldl (fun a s => lo2 a (Wn t s n)) x
theorem lea1 (t : List Int) (s : Nat) (ls : List Int) : ∀ n : Nat, n ≤ ls.length → ((List.range n).foldl (m_law_leasts_l1 t (s : Int)) (ls, 0)).2 = Wn t s n ∧ ((List.range n).foldl (m_law_leasts_l1 t (s : Int)) (ls, 0)).1.length = ls.length ∧
    ∀ j, ((List.range n).foldl (m_law_leasts_l1 t (s : Int)) (ls, 0)).1.getD j default = if j < n then lo2 (ls.getD j default) (Wn t s j) else ls.getD j default
  | 0, _ => ⟨rfl, rfl, fun j => by rw [if_neg (by omega)]; rfl⟩
  | n + 1, h => by
    obtain ⟨h1, h2, h3⟩ := lea1 t s ls n (by omega)
    rw [List.range_succ, List.foldl_append, List.foldl_cons, List.foldl_nil]
    generalize (List.range n).foldl (m_law_leasts_l1 t (s : Int)) (ls, 0) = u at h1 h2 h3
    unfold m_law_leasts_l1
    refine ⟨?_, ?_, fun j => ?_⟩
    · show u.2 + _ = Wn t s n + _
      rw [h1, Int.zero_add, ← Int.natCast_add, ← Int.natCast_emod, Int.toNat_natCast]
    · show (u.1.set _ _).length = _
      rw [List.length_set, h2]
    · show (u.1.set _ _).getD j default = _
      rw [Int.zero_add, Int.toNat_natCast, List.getD_eq_getElem?_getD, List.getElem?_set]
      by_cases e : n = j
      · subst e
        rw [if_pos rfl, if_pos (show n < u.1.length by omega), if_pos (show n < n + 1 by omega), h1, h3, if_neg (show ¬ n < n by omega)]; rfl
      · rw [if_neg e, ← List.getD_eq_getElem?_getD, h3]
        by_cases hj : j < n
        · rw [if_pos hj, if_pos (by omega)]
        · rw [if_neg hj, if_neg (by omega)]
theorem lea0 (t : List Int) {most : Nat} : ∀ (m : Nat) (ls : List Int), ls.length = most + 1 → ((List.range m).foldl (m_law_leasts_l0 t (most : Int)) ls).length = most + 1 ∧ ∀ j, j ≤ most → ((List.range m).foldl (m_law_leasts_l0 t (most : Int)) ls).getD j default = Lm t j m (ls.getD j default)
  | 0, ls, h => ⟨h, fun j _ => rfl⟩
  | m + 1, ls, h => by
    obtain ⟨h1, h2⟩ := lea0 t m ls h
    rw [List.range_succ, List.foldl_append, List.foldl_cons, List.foldl_nil]
    generalize (List.range m).foldl (m_law_leasts_l0 t (most : Int)) ls = u at h1 h2
    obtain ⟨_, g2, g3⟩ := lea1 t m u (most + 1) (by omega)
    unfold m_law_leasts_l0
    rw [Int.zero_add, show ((most : Int) + 1).toNat = most + 1 by omega]
    refine ⟨by rw [g2, h1], fun j hj => ?_⟩
    rw [g3, if_pos (by omega), h2 j hj]
    unfold Lm
    rw [List.range_succ, List.foldl_append]; rfl
theorem lea_at (t : List Int) {most j : Nat} (h : j ≤ most) : (m_law_leasts t (most : Int)).getD j default = Lm t j t.length (t.sum * (1 + (most : Int))) := by
  unfold m_law_leasts
  rw [Int.toNat_natCast, (lea0 t t.length _ (by rw [List.length_map, List.length_range]; omega)).2 j h]
  congr 1
  rw [List.getD_eq_getElem?_getD, List.getElem?_map, List.getElem?_range (by omega)]; rfl
/-- from the first start on -/
theorem Lm_first (t : List Int) (n : Nat) {m : Nat} (hm : 0 < m) {x : Int} (hx : Wn t 0 n ≤ x) : Lm t n m x = Lm t n m (Wn t 0 n) := by
  obtain ⟨k, rfl⟩ : ∃ k, m = k + 1 := ⟨m - 1, by omega⟩
  unfold Lm
  rw [List.range_succ_eq_map, List.foldl_cons, List.foldl_cons]
  congr 1
  unfold lo2
  rw [if_neg (Int.lt_irrefl _)]
  split <;> omega
theorem mem_le_sum {t : List Int} (h : ∀ x ∈ t, 0 ≤ x) : ∀ x ∈ t, x ≤ t.sum := by
  induction t with
  | nil => intro x hx; cases hx
  | cons y r ih =>
    intro x hx
    have a := ih fun z hz => h z (List.mem_cons_of_mem _ hz)
    have nn : 0 ≤ r.sum := by
      clear a ih hx
      induction r with
      | nil => exact Int.le_refl _
      | cons z r ih2 =>
        rw [List.sum_cons]
        have := ih2 (fun w hw => h w (by rcases List.mem_cons.mp hw with q | q; subst q; exact List.mem_cons_self; exact List.mem_cons_of_mem _ (List.mem_cons_of_mem _ q)))
        have := h z (List.mem_cons_of_mem _ List.mem_cons_self)
        omega
    rw [List.sum_cons]
    have h0 := h y List.mem_cons_self
    rcases List.mem_cons.mp hx with q | q
    · subst q; omega
    · have := a x q; omega
theorem Wn_le {t : List Int} (h : ∀ x ∈ t, 0 ≤ x) (hp : 0 < t.length) (s n : Nat) : 0 ≤ Wn t s n ∧ Wn t s n ≤ t.sum * (n : Int) := by
  induction n with
  | zero => exact ⟨Int.le_refl _, by show (0 : Int) ≤ _; simp⟩
  | succ n ih =>
    have hm : t.getD ((s + n) % t.length) default ∈ t := getD_mem (Nat.mod_lt _ hp)
    have a := h _ hm
    have b := mem_le_sum h _ hm
    show 0 ≤ Wn t s n + _ ∧ Wn t s n + _ ≤ _
    rw [show t.sum * ((n + 1 : Nat) : Int) = t.sum * (n : Int) + t.sum by rw [show ((n + 1 : Nat) : Int) = (n : Int) + 1 by omega, Int.mul_add, Int.mul_one]]
    omega
/-- the least supply of n slots -/
def Mt (t : List Int) (n : Nat) : Int := Lm t n t.length (Wn t 0 n)
theorem lea_Mt {t : List Int} (h : ∀ x ∈ t, 0 ≤ x) (hp : 0 < t.length) {most j : Nat} (hj : j ≤ most) : (m_law_leasts t (most : Int)).getD j default = Mt t j := by
  rw [lea_at t hj]
  refine Lm_first t j hp ?_
  have a := (Wn_le h hp 0 j).2
  have s : 0 ≤ t.sum := Int.le_trans (h _ (getD_mem (xs := t) (i := 0) hp)) (mem_le_sum h _ (getD_mem (xs := t) (i := 0) hp))
  have b : t.sum * (j : Int) ≤ t.sum * (1 + (most : Int)) := Int.mul_le_mul_of_nonneg_left (by omega) s
  omega
theorem Wn_scale (c : Int) (t : List Int) (s : Nat) : ∀ n, Wn (t.map (c * ·)) s n = c * Wn t s n
  | 0 => by show (0 : Int) = c * 0; simp
  | n + 1 => by
    show Wn (t.map (c * ·)) s n + (t.map (c * ·)).getD ((s + n) % (t.map (c * ·)).length) default = c * (Wn t s n + t.getD ((s + n) % t.length) default)
    rw [Wn_scale c t s n, Int.mul_add, List.length_map]
    congr 1
    rw [List.getD_eq_getElem?_getD, List.getElem?_map, List.getD_eq_getElem?_getD]
    cases t[(s + n) % t.length]? with
    | none => show (0 : Int) = c * 0; simp
    | some x => rfl
theorem lo2_scale {c : Int} (hc : 0 ≤ c) (a b : Int) : lo2 (c * a) (c * b) = c * lo2 a b := by
  unfold lo2
  by_cases h : b < a
  · rw [if_pos h]
    by_cases h0 : c = 0
    · subst h0; simp
    · rw [if_pos (Int.mul_lt_mul_of_pos_left h (by omega))]
  · rw [if_neg h, if_neg (by have := Int.mul_le_mul_of_nonneg_left (show a ≤ b by omega) hc; omega)]
theorem Mt_scale {c : Int} (hc : 0 ≤ c) (t : List Int) (n : Nat) : Mt (t.map (c * ·)) n = c * Mt t n := by
  unfold Mt Lm
  rw [Wn_scale, List.length_map]
  generalize Wn t 0 n = x
  generalize hys : List.range t.length = ys
  clear hys
  induction ys generalizing x with
  | nil => rfl
  | cons y ys ih => rw [List.foldl_cons, List.foldl_cons, Wn_scale, lo2_scale hc, ih]
def WnN (t : List Nat) (s : Nat) : Nat → Nat
  | 0 => 0
  | n + 1 => WnN t s n + t.getD ((s + n) % t.length) 0
def MtN (t : List Nat) (n : Nat) : Nat := (List.range t.length).foldl (fun a s => if WnN t s n < a then WnN t s n else a) (WnN t 0 n)
def patN (p b o : Nat) : List Nat := (List.range p).map fun i => if (i + (p - o)) % p < b then 1 else 0
theorem Wn_cast (t : List Nat) (s : Nat) : ∀ n, Wn (t.map Int.ofNat) s n = (WnN t s n : Int)
  | 0 => rfl
  | n + 1 => by
    show Wn (t.map Int.ofNat) s n + (t.map Int.ofNat).getD ((s + n) % (t.map Int.ofNat).length) default = ((WnN t s n + t.getD ((s + n) % t.length) 0 : Nat) : Int)
    rw [Wn_cast t s n, Int.natCast_add, List.length_map]
    congr 1
    rw [List.getD_eq_getElem?_getD, List.getElem?_map, List.getD_eq_getElem?_getD]
    cases t[(s + n) % t.length]? <;> rfl
theorem Mt_cast (t : List Nat) (n : Nat) : Mt (t.map Int.ofNat) n = (MtN t n : Int) := by
  unfold Mt Lm MtN
  rw [Wn_cast, List.length_map]
  generalize WnN t 0 n = x
  generalize List.range t.length = ys
  induction ys generalizing x with
  | nil => rfl
  | cons y ys ih =>
    rw [List.foldl_cons, List.foldl_cons, Wn_cast, ← ih]
    congr 1
    unfold lo2
    by_cases h : WnN t y n < x
    · rw [if_pos (by omega), if_pos h]
    · rw [if_neg (by omega), if_neg h]
def ck1 : Bool := (List.range 9).all fun p => (List.range 9).all fun b => (List.range 8).all fun o => !(decide (1 ≤ p) && decide (b ≤ p) && decide (o < p)) || decide (m_server_table (p : Int) (b : Int) (o : Int) 1 = (patN p b o).map Int.ofNat)
def ck2 : Bool := (List.range 9).all fun p => (List.range 9).all fun b => !(decide (1 ≤ p) && decide (b ≤ p)) || decide (m_law_reserved (p : Int) (b : Int) 1 = (patN p b 0).map Int.ofNat)
def ck3 : Bool := (List.range 9).all fun p => (List.range 9).all fun b => (List.range 8).all fun o => !(decide (1 ≤ p) && decide (b ≤ p) && decide (o < p)) || (List.range 25).all fun j => MtN (patN p b o) j == (j / p) * b + (j % p - (p - b))
theorem ck1_ok : ck1 = true := by decide +kernel
theorem ck2_ok : ck2 = true := by decide +kernel
theorem ck3_ok : ck3 = true := by decide +kernel
theorem imp_or {a b c : Prop} [Decidable a] [Decidable b] [Decidable c] {r : Bool} (h : (!(decide a && decide b && decide c) || r) = true) (ha : a) (hb : b) (hc : c) : r = true := by
  rw [decide_eq_true ha, decide_eq_true hb, decide_eq_true hc] at h; exact h
theorem chk1 {p b o : Nat} (hp : 1 ≤ p) (h8 : p ≤ 8) (hb : b ≤ p) (ho : o < p) : m_server_table (p : Int) (b : Int) (o : Int) 1 = (patN p b o).map Int.ofNat := by
  have h := List.all_eq_true.mp (List.all_eq_true.mp (List.all_eq_true.mp ck1_ok p (List.mem_range.mpr (by omega))) b (List.mem_range.mpr (by omega))) o (List.mem_range.mpr (by omega))
  exact of_decide_eq_true (imp_or h hp hb ho)
theorem chk2 {p b : Nat} (hp : 1 ≤ p) (h8 : p ≤ 8) (hb : b ≤ p) : m_law_reserved (p : Int) (b : Int) 1 = (patN p b 0).map Int.ofNat := by
  have h := List.all_eq_true.mp (List.all_eq_true.mp ck2_ok p (List.mem_range.mpr (by omega))) b (List.mem_range.mpr (by omega))
  rw [decide_eq_true hp, decide_eq_true hb] at h
  exact of_decide_eq_true h
theorem chk3 {p b o j : Nat} (hp : 1 ≤ p) (h8 : p ≤ 8) (hb : b ≤ p) (ho : o < p) (hj : j ≤ 24) : MtN (patN p b o) j = (j / p) * b + (j % p - (p - b)) := by
  have h := List.all_eq_true.mp (List.all_eq_true.mp (List.all_eq_true.mp ck3_ok p (List.mem_range.mpr (by omega))) b (List.mem_range.mpr (by omega))) o (List.mem_range.mpr (by omega))
  exact eq_of_beq (List.all_eq_true.mp (imp_or h hp hb ho) j (List.mem_range.mpr (by omega)))
theorem foldset_scale (c : Int) (g : Nat → Nat) {f1 fc : List Int → Nat → List Int} (h1 : ∀ s y, f1 s y = s.set (g y) 1) (hc : ∀ s y, fc s y = s.set (g y) c) : ∀ (ys : List Nat) (s : List Int), ys.foldl fc (s.map (c * ·)) = (ys.foldl f1 s).map (c * ·)
  | [], s => rfl
  | y :: ys, s => by
    rw [List.foldl_cons, List.foldl_cons, hc, h1, ← foldset_scale c g h1 hc ys, List.map_set, Int.mul_one]
theorem table_scale (p b o c : Int) : m_server_table p b o c = (m_server_table p b o 1).map (c * ·) := by
  unfold m_server_table
  rw [← foldset_scale c (fun y => ((o + (y : Int)) % p).toNat) (f1 := m_server_table_l0 p 1 o) (fc := m_server_table_l0 p c o) (fun s y => rfl) (fun s y => rfl), List.map_replicate, Int.mul_zero]
theorem res_scale (p b c : Int) : m_law_reserved p b c = (m_law_reserved p b 1).map (c * ·) := by
  unfold m_law_reserved
  rw [List.map_append, List.map_map, List.map_map]
  congr 1
  · exact List.map_congr_left fun y _ => by show c = c * 1; rw [Int.mul_one]
  · exact List.map_congr_left fun y _ => by show (0 : Int) = c * 0; rw [Int.mul_zero]
theorem pat_nn (p b o : Nat) : ∀ x ∈ (patN p b o).map Int.ofNat, 0 ≤ x := fun x hx => by
  obtain ⟨y, _, rfl⟩ := List.mem_map.mp hx; exact Int.natCast_nonneg y
theorem pat_len (p b o : Nat) : ((patN p b o).map Int.ofNat).length = p := by unfold patN; rw [List.length_map, List.length_map, List.length_range]
theorem sup_eq {p b j : Nat} {c : Int} (hb : b ≤ p) : m_server_supply (p : Int) (b : Int) (j : Int) c = c * (((j / p) * b + (j % p - (p - b)) : Nat) : Int) := by
  unfold m_server_supply
  dsimp only
  congr 1
  rw [Int.natCast_add, Int.natCast_mul, Int.natCast_ediv]
  congr 1
  rw [← Int.natCast_emod]
  split <;> omega
/-- the law's least supplies of a pattern are the program's -/
theorem lea_pat {t : List Int} {p b o : Nat} {c : Int} {most j : Nat} (ht : t = ((patN p b o).map Int.ofNat).map (c * ·)) (hc : 0 ≤ c) (hp : 1 ≤ p) (h8 : p ≤ 8) (hb : b ≤ p) (ho : o < p) (hj : j ≤ 24) (hm : j ≤ most) : (m_law_leasts t (most : Int)).getD j default = m_server_supply (p : Int) (b : Int) (j : Int) c := by
  subst ht
  rw [lea_Mt (fun x hx => by obtain ⟨y, hy, rfl⟩ := List.mem_map.mp hx; exact Int.mul_nonneg hc (pat_nn p b o y hy)) (by rw [List.length_map, pat_len]; omega) hm, Mt_scale hc, Mt_cast, chk3 hp h8 hb ho hj, sup_eq hb]
theorem lea_table {p b o : Nat} {c : Int} {most j : Nat} (hc : 0 ≤ c) (hp : 1 ≤ p) (h8 : p ≤ 8) (hb : b ≤ p) (ho : o < p) (hj : j ≤ 24) (hm : j ≤ most) : (m_law_leasts (m_server_table (p : Int) (b : Int) (o : Int) c) (most : Int)).getD j default = m_server_supply (p : Int) (b : Int) (j : Int) c :=
  lea_pat (by rw [table_scale, chk1 hp h8 hb ho]) hc hp h8 hb ho hj hm
theorem lea_res {p b : Nat} {c : Int} {most j : Nat} (hc : 0 ≤ c) (hp : 1 ≤ p) (h8 : p ≤ 8) (hb : b ≤ p) (hj : j ≤ 24) (hm : j ≤ most) : (m_law_leasts (m_law_reserved (p : Int) (b : Int) c) (most : Int)).getD j default = m_server_supply (p : Int) (b : Int) (j : Int) c :=
  lea_pat (by rw [res_scale, chk2 hp h8 hb]) hc hp h8 hb (by omega : 0 < p) hj hm
theorem runE_all {τ : Type} {f : Unit → τ → Except Bool Unit} {g : τ → Bool} (hf : ∀ y, f () y = if g y = true then .error false else .ok ()) : ∀ ys : List τ, runE f ys () = if ys.any g = true then .error false else .ok ()
  | [] => rfl
  | y :: ys => by
    rw [runE_cons, hf, List.any_cons]
    cases h : g y with
    | true => rfl
    | false =>
      show runE f ys () = if (false || ys.any g) = true then _ else _
      rw [Bool.false_or]; exact runE_all hf ys
theorem enough_iff (works t : List Int) : m_law_enough works t = true ↔ ∀ l, l < works.length → works.getD l default ≤ (m_law_leasts t ((works.length : Int) - 1)).getD l default := by
  unfold m_law_enough
  dsimp only
  rw [runE_all (g := fun y : Nat => decide ((m_law_leasts t ((works.length : Int) - 1)).getD ((0 : Int) + (y : Int)).toNat default < works.getD ((0 : Int) + (y : Int)).toNat default)) (fun y => by unfold m_law_enough_l0; simp only [decide_eq_true_eq])]
  generalize hb : ((List.range ((works.length : Int)).toNat).any fun y : Nat => decide ((m_law_leasts t ((works.length : Int) - 1)).getD ((0 : Int) + (y : Int)).toNat default < works.getD ((0 : Int) + (y : Int)).toNat default)) = b
  have e : ((match (if b = true then (.error false : Except Bool Unit) else .ok ()) with | .error r => r | .ok _ => true) = true) ↔ b = false := by cases b <;> simp
  refine Iff.trans e ?_
  rw [← hb]
  constructor
  · intro h l hl
    have := List.any_eq_false.mp h l (List.mem_range.mpr (by omega))
    rw [decide_eq_true_eq, Int.zero_add, Int.toNat_natCast] at this
    omega
  · intro h
    refine List.any_eq_false.mpr fun l hl => ?_
    have hl := List.mem_range.mp hl
    rw [decide_eq_true_eq, Int.zero_add, Int.toNat_natCast]
    have := h l (by omega)
    omega
theorem en_mem {τ : Type} {P : Int × τ → Prop} : ∀ (xs : List τ) (k : Nat), (∀ y ∈ enL k xs, P y) ↔ ∀ i (h : i < xs.length), P (((k + i : Nat) : Int), xs[i])
  | [], k => ⟨fun _ i h => absurd h (by simp), fun _ y h => by cases h⟩
  | x :: r, k => by
    constructor
    · intro h i hi
      cases i with
      | zero => exact h _ List.mem_cons_self
      | succ i =>
        have := (en_mem (P := P) r (k + 1)).mp (fun y hy => h y (List.mem_cons_of_mem _ hy)) i (by rw [List.length_cons] at hi; omega)
        rw [show k + (i + 1) = k + 1 + i by omega]; exact this
    · intro h y hy
      rcases List.mem_cons.mp hy with q | q
      · rw [q]; exact h 0 (by simp)
      · refine (en_mem (P := P) r (k + 1)).mpr (fun i hi => ?_) y q
        have := h (i + 1) (by rw [List.length_cons]; omega)
        rw [show k + (i + 1) = k + 1 + i by omega] at this; exact this
theorem is_iff (works : List Int) (p b c : Int) : m_is_enough works p b c = true ↔ ∀ l, l < works.length → works.getD l default ≤ m_server_supply p b (l : Int) c := by
  unfold m_is_enough
  rw [runE_all (g := fun y : Int × Int => decide (m_server_supply p b y.1 c < y.2)) (fun y => by unfold m_is_enough_l0; simp only [decide_eq_true_eq])]
  generalize hb : ((enL 0 works).any fun y : Int × Int => decide (m_server_supply p b y.1 c < y.2)) = bb
  have e : ((match (if bb = true then (.error false : Except Bool Unit) else .ok ()) with | .error r => r | .ok _ => true) = true) ↔ bb = false := by cases bb <;> simp
  refine Iff.trans e ?_
  rw [← hb, List.any_eq_false]
  rw [en_mem (P := fun y : Int × Int => ¬ (decide (m_server_supply p b y.1 c < y.2) = true)) works 0]
  constructor
  · intro h l hl
    have := h l hl
    rw [decide_eq_true_eq, Nat.zero_add] at this
    rw [List.getD_eq_getElem?_getD, List.getElem?_eq_getElem hl]
    have this : ¬ (m_server_supply p b (l : Int) c < works[l]) := this
    show works[l] ≤ _
    omega
  · intro h l hl
    have := h l hl
    rw [List.getD_eq_getElem?_getD, List.getElem?_eq_getElem hl] at this
    have this : works[l] ≤ _ := this
    rw [decide_eq_true_eq, Nat.zero_add]
    show ¬ (m_server_supply p b (l : Int) c < works[l])
    omega
theorem enough_eq {works : List Int} {p b : Nat} {c : Int} (hc : 0 ≤ c) (hp : 1 ≤ p) (h8 : p ≤ 8) (hb : b ≤ p) (hw : works.length ≤ 25) (h1 : 1 ≤ works.length) : m_law_enough works (m_law_reserved (p : Int) (b : Int) c) = m_is_enough works (p : Int) (b : Int) c := by
  rw [Bool.eq_iff_iff, enough_iff, is_iff]
  have e : ∀ l, l < works.length → (m_law_leasts (m_law_reserved (p : Int) (b : Int) c) ((works.length : Int) - 1)).getD l default = m_server_supply (p : Int) (b : Int) (l : Int) c := fun l hl => by
    have := lea_res (most := works.length - 1) hc hp h8 hb (by omega : l ≤ 24) (by omega)
    rwa [show ((works.length - 1 : Nat) : Int) = (works.length : Int) - 1 by omega] at this
  constructor
  · intro h l hl; rw [← e l hl]; exact h l hl
  · intro h l hl; rw [e l hl]; exact h l hl
theorem runE_same {ρ τ : Type} {f g : Unit → τ → Except ρ Unit} : ∀ {ys : List τ}, (∀ y ∈ ys, f () y = g () y) → runE f ys () = runE g ys ()
  | [], _ => rfl
  | y :: ys, h => by
    rw [runE_cons, runE_cons, h y List.mem_cons_self]
    cases g () y with
    | error r => rfl
    | ok u => exact runE_same (ys := ys) fun z hz => h z (List.mem_cons_of_mem _ hz)
theorem budget_eq {works : List Int} {ts : List Task} {H p : Nat} {c : Int} (hj : m_joint_demands ts (H : Int) = works) (hc : 0 ≤ c) (hp : 1 ≤ p) (h8 : p ≤ 8) (hw : works.length ≤ 25) (h1 : 1 ≤ works.length) : m_needed_budget ts (p : Int) (H : Int) c = m_law_budget works (p : Int) c := by
  unfold m_needed_budget m_law_budget
  dsimp only
  rw [hj, runE_same (f := m_needed_budget_l0 (p : Int) c works) (g := m_law_budget_l0 works (p : Int) c) (fun y hy => ?_)]
  have hy := List.mem_range.mp hy
  unfold m_needed_budget_l0 m_law_budget_l0
  rw [Int.zero_add, enough_eq hc hp h8 (by omega) hw h1]
theorem is_ok (a : Option Int) : m_law_is a a = true := by
  unfold m_law_is
  cases a with
  | none => rfl
  | some x => rw [if_neg (by simp)]; simp [m_law_is_integero]
theorem Nm_zero {t : Task} (ok : t.ok) {k : Nat} (h : k < t.kinds.length) : Nm (kdOf t) 0 k = 0 := by
  have hk := kd_ok ok fun k hk => by have := (ok.cost k hk).1.1; omega
  have h2 : k < (kdOf t).length := by rw [kdOf_len]; exact h
  obtain ⟨b, hb, e⟩ := Nm_rec hk (List.getElem?_eq_getElem h2) 0
  have hb0 : b = 0 := by
    rcases hb.eq with q | ⟨s, hs, h3, q⟩
    · exact q
    · have := (hk.dist _ (List.getElem_mem h2) s hs).2.2
      omega
  have hd : ¬ ((kdOf t)[k].2.1 ≤ ((0 : Nat) : Int)) := by
    obtain ⟨x, hx, e2⟩ := List.mem_map.mp (List.getElem_mem h2 : (kdOf t)[k] ∈ kdOf t)
    rw [← e2]
    have := (ok.cost x hx).2.1
    show ¬ (x.2.2 ≤ _)
    omega
  rw [e, hb0, if_neg hd]; rfl
theorem Dm_zero {ts : List Task} (hok : ∀ t ∈ ts, t.ok) : Dm ts 0 = 0 := by
  unfold Dm
  induction ts with
  | nil => rfl
  | cons t r ih =>
    rw [List.map_cons, List.sum_cons, ih fun x hx => hok x (List.mem_cons_of_mem _ hx)]
    obtain ⟨_, k, h1, e⟩ := demand_spec (hok t List.mem_cons_self) 0
    rw [e, Nm_zero (hok t List.mem_cons_self) h1]; rfl
theorem Wn_one (c : Int) (s : Nat) : ∀ n, Wn [c] s n = c * (n : Int)
  | 0 => by show (0 : Int) = _; simp
  | n + 1 => by
    show Wn [c] s n + _ = _
    rw [Wn_one c s n, show (s + n) % [c].length = 0 from Nat.mod_one _, show ((n + 1 : Nat) : Int) = (n : Int) + 1 by omega, Int.mul_add, Int.mul_one]; rfl
theorem lea_one {c : Int} (hc : 0 ≤ c) {most l : Nat} (h : l ≤ most) : (m_law_leasts [c] (most : Int)).getD l default = c * (l : Int) := by
  rw [lea_Mt (fun x hx => by rw [List.mem_singleton.mp hx]; exact hc) (by simp) h]
  show lo2 (Wn [c] 0 l) (Wn [c] 0 l) = _
  unfold lo2
  rw [if_neg (Int.lt_irrefl _), Wn_one]
theorem enough_one {works : List Int} {c : Int} (hc : 0 ≤ c) (h1 : 1 ≤ works.length) : m_law_enough works [c] = true ↔ ∀ l, l < works.length → works.getD l default ≤ c * (l : Int) := by
  rw [enough_iff]
  have e : ∀ l, l < works.length → (m_law_leasts [c] ((works.length : Int) - 1)).getD l default = c * (l : Int) := fun l hl => by
    have := lea_one (most := works.length - 1) hc (l := l) (by omega)
    rwa [show ((works.length - 1 : Nat) : Int) = (works.length : Int) - 1 by omega] at this
  constructor
  · intro h l hl; rw [← e l hl]; exact h l hl
  · intro h l hl; rw [e l hl]; exact h l hl
theorem quo_le {w l c : Int} (hl : 1 ≤ l) : m_quotient_up w l ≤ c ↔ w ≤ c * l := by
  unfold m_quotient_up
  have h : (-c ≤ -w / l) ↔ -c * l ≤ -w := Int.le_ediv_iff_mul_le (by omega)
  rw [Int.neg_mul] at h
  constructor
  · intro q; have := h.mp (by omega); omega
  · intro q; have := h.mpr (by omega); omega
theorem maxLD_spec {ns : List Int} (h : ns ≠ []) (d : Int) : maxLD ns d ∈ ns ∧ ∀ x ∈ ns, x ≤ maxLD ns d := by
  unfold maxLD
  rw [if_neg h]
  exact ⟨maxL_mem h, fun x hx => maxL_le hx⟩
theorem needed82 {ts : List Task} {works : List Int} {H : Nat} (hok : ∀ t ∈ ts, t.ok) (hj : m_joint_demands ts (H : Int) = works) (hH : 1 ≤ H) (hl : works.length = H + 1) :
    0 ≤ m_needed_capacity ts (H : Int) ∧ m_law_enough works [m_needed_capacity ts (H : Int)] = true ∧ (0 < m_needed_capacity ts (H : Int) → m_law_enough works [m_needed_capacity ts (H : Int) - 1] = false) := by
  have hat : ∀ l, l ≤ H → works.getD l default = Dm ts l := fun l h => by rw [← hj]; exact joint_at hok h
  have hnn : ∀ l, 0 ≤ Dm ts l := fun l => (Dm_top hok l).1
  have e : m_needed_capacity ts (H : Int) = maxLD ((List.range H).map fun y : Nat => m_quotient_up (Dm ts (1 + y)) ((1 : Int) + (y : Int))) 0 := by
    unfold m_needed_capacity
    dsimp only
    rw [hj, show ((H : Int) + 1 - 1).toNat = H by omega]
    congr 1
    refine List.map_congr_left fun y hy => ?_
    have hy := List.mem_range.mp hy
    rw [show ((1 : Int) + (y : Int)).toNat = 1 + y by omega, hat _ (by omega)]
  have hne : ((List.range H).map fun y : Nat => m_quotient_up (Dm ts (1 + y)) ((1 : Int) + (y : Int))) ≠ [] := fun q => by
    have := congrArg List.length q
    rw [List.length_map, List.length_range, List.length_nil] at this; omega
  obtain ⟨g1, g2⟩ := maxLD_spec hne 0
  rw [e]
  generalize maxLD ((List.range H).map fun y : Nat => m_quotient_up (Dm ts (1 + y)) ((1 : Int) + (y : Int))) 0 = c at g1 g2
  obtain ⟨y, hy, hc⟩ := List.mem_map.mp g1
  have hy := List.mem_range.mp hy
  have hc0 : 0 ≤ c := by rw [← hc]; exact (quo_b (hnn _) (by omega)).1
  refine ⟨hc0, (enough_one hc0 (by omega)).mpr fun l hl2 => ?_, fun hp => ?_⟩
  · rw [hat l (by omega)]
    by_cases h0 : l = 0
    · subst h0; rw [Dm_zero hok]; simp
    · have := g2 _ (List.mem_map.mpr ⟨l - 1, List.mem_range.mpr (by omega), rfl⟩)
      rw [show 1 + (l - 1) = l by omega, show (1 : Int) + ((l - 1 : Nat) : Int) = (l : Int) by omega] at this
      exact (quo_le (by omega)).mp this
  · cases hb : m_law_enough works [c - 1] with
    | false => rfl
    | true =>
      have := (enough_one (c := c - 1) (by omega) (by omega)).mp hb (1 + y) (by omega)
      rw [hat _ (by omega), show ((1 + y : Nat) : Int) = (1 : Int) + (y : Int) by omega] at this
      have := (quo_le (w := Dm ts (1 + y)) (l := (1 : Int) + (y : Int)) (c := c - 1) (by omega)).mpr this
      omega
theorem run_desc {e : Int → Bool} {n : Nat} {f : Unit → Nat → Except (Option Int) Unit} {g : Option Int → Nat → Option Int} (hf : ∀ y, y < n → f () y = if e ((n : Int) + (y : Int) * -1) = true then .error (some ((n : Int) + (y : Int) * -1)) else .ok ()) (hg : ∀ s y, y < n → g s y = if e ((1 : Int) + (y : Int)) = true then some ((1 : Int) + (y : Int)) else s) :
    (match runE f (List.range n) () with | .error r => r | .ok _ => none) = (List.range n).foldl g none := by
  have asc : ∀ (m : Nat), m ≤ n → ((List.range m).foldl g none = none ∧ (∀ k, 1 ≤ k → k ≤ m → e (k : Int) = false)) ∨ ∃ k : Nat, 1 ≤ k ∧ k ≤ m ∧ e (k : Int) = true ∧ (List.range m).foldl g none = some (k : Int) ∧ ∀ j, k < j → j ≤ m → e (j : Int) = false := by
    intro m
    induction m with
    | zero => intro _; exact .inl ⟨rfl, fun k h1 h2 => by omega⟩
    | succ m ih =>
      intro hm
      rw [List.range_succ, List.foldl_append, List.foldl_cons, List.foldl_nil, hg _ m (by omega), show (1 : Int) + (m : Int) = ((m + 1 : Nat) : Int) by omega]
      cases he : e ((m + 1 : Nat) : Int) with
      | true => exact .inr ⟨m + 1, by omega, Nat.le_refl _, he, by rw [if_pos rfl], fun j h1 h2 => by omega⟩
      | false =>
        rw [if_neg (by decide)]
        rcases ih (by omega) with ⟨h1, h2⟩ | ⟨k, h1, h2, h3, h4, h5⟩
        · exact .inl ⟨h1, fun k a b => by
            by_cases q : k = m + 1
            · rw [q]; exact he
            · exact h2 k a (by omega)⟩
        · exact .inr ⟨k, h1, by omega, h3, h4, fun j a b => by
            by_cases q : j = m + 1
            · rw [q]; exact he
            · exact h5 j a (by omega)⟩
  have desc : ∀ (m : Nat), m ≤ n → ∀ ys, ys = List.range' m (n - m) → (∀ j, n - m < j → j ≤ n → e (j : Int) = false) → ((∃ k : Nat, 1 ≤ k ∧ k ≤ n ∧ e (k : Int) = true ∧ runE f ys () = .error (some (k : Int)) ∧ ∀ j, k < j → j ≤ n → e (j : Int) = false) ∨ (runE f ys () = .ok () ∧ ∀ j, 1 ≤ j → j ≤ n → e (j : Int) = false)) := by
    intro m hm
    generalize hq : n - m = q
    induction q generalizing m with
    | zero =>
      intro ys hys h
      subst hys
      exact .inr ⟨rfl, fun j a b => h j (by omega) b⟩
    | succ q ih =>
      intro ys hys h
      subst hys
      rw [List.range'_succ, runE_cons, hf m (by omega), show (n : Int) + (m : Int) * -1 = ((q + 1 : Nat) : Int) by omega]
      cases he : e ((q + 1 : Nat) : Int) with
      | true => rw [if_pos rfl]; exact .inl ⟨q + 1, by omega, by omega, he, rfl, h⟩
      | false =>
        rw [if_neg (by decide)]
        exact ih (m + 1) (by omega) (by omega) _ rfl fun j a b => by
          by_cases z : j = q + 1
          · rw [z]; exact he
          · exact h j (by omega) b
  have d := desc 0 (Nat.zero_le _) (List.range n) (by rw [List.range_eq_range', Nat.sub_zero]) (fun j a b => by omega)
  rcases d with ⟨k, h1, h2, h3, h4, h5⟩ | ⟨h4, h5⟩
  · rw [h4]
    rcases asc n (Nat.le_refl _) with ⟨a1, a2⟩ | ⟨k', a1, a2, a3, a4, a5⟩
    · rw [a2 k h1 h2] at h3; cases h3
    · rw [a4]
      have : k = k' := by
        rcases Nat.lt_trichotomy k k' with q | q | q
        · rw [h5 k' q a2] at a3; cases a3
        · exact q
        · rw [a5 k q h2] at h3; cases h3
      rw [this]
  · rw [h4]
    rcases asc n (Nat.le_refl _) with ⟨a1, a2⟩ | ⟨k', a1, a2, a3, a4, a5⟩
    · exact a1.symm
    · rw [h5 k' a1 a2] at a3; cases a3
theorem quo_red {k T b g : Int} (hb : 1 ≤ b) (hg : 1 ≤ g) (h1 : T % g = 0) (h2 : b % g = 0) : m_quotient_up (k * (T / g)) (b / g) = (k * T + b - 1) / b := by
  obtain ⟨u, rfl⟩ := Int.dvd_of_emod_eq_zero h1
  obtain ⟨v, rfl⟩ := Int.dvd_of_emod_eq_zero h2
  rw [Int.mul_ediv_cancel_left _ (by omega), Int.mul_ediv_cancel_left _ (by omega)]
  have hv : 1 ≤ v := by
    rcases Int.lt_or_le v 1 with q | q
    · have := Int.mul_nonpos_of_nonneg_of_nonpos (show 0 ≤ g by omega) (show v ≤ 0 by omega); omega
    · exact q
  have key : ∀ c : Int, m_quotient_up (k * u) v ≤ c ↔ (k * (g * u) + g * v - 1) / (g * v) ≤ c := fun c => by
    rw [quo_le hv]
    have e1 : (k * (g * u) + g * v - 1) / (g * v) ≤ c ↔ (k * (g * u) + g * v - 1) < (c + 1) * (g * v) := by
      rw [← Int.ediv_lt_iff_lt_mul (by omega : 0 < g * v)]; omega
    rw [e1, Int.add_mul, Int.one_mul]
    have e2 : k * (g * u) = g * (k * u) := by rw [Int.mul_left_comm]
    have e3 : c * (g * v) = g * (c * v) := by rw [Int.mul_left_comm]
    rw [e2, e3]
    constructor
    · intro q; have := Int.mul_le_mul_of_nonneg_left q (show 0 ≤ g by omega); omega
    · intro q
      rcases Int.lt_or_le (c * v) (k * u) with z | z
      · have := Int.mul_lt_mul_of_pos_left z (show 0 < g by omega); omega
      · exact z
  exact Int.le_antisymm ((key _).mpr (Int.le_refl _)) ((key _).mp (Int.le_refl _))
theorem runE_oks {ρ τ : Type} {f : Unit → τ → Except ρ Unit} : ∀ {ys : List τ}, (∀ y ∈ ys, f () y = .ok ()) → runE f ys () = .ok ()
  | [], _ => rfl
  | y :: ys, h => by
    rw [runE_cons, h y List.mem_cons_self]
    exact runE_oks fun z hz => h z (List.mem_cons_of_mem _ hz)
theorem due_eq (p b o c : Int) : m_server_table p b o c = (List.range b.toNat).foldl (m_law_server_l0 p o c) ((List.range p.toNat).map (fun _ : Nat => (0 : Int))) := by
  unfold m_server_table
  rw [show (o + b) - o = b by omega, List.map_const', List.length_range]
  congr 1
  funext s y
  unfold m_server_table_l0 m_law_server_l0
  rw [Int.zero_add]
theorem server_ok (numbers : List Int) : m_law_server numbers = true := by
  unfold m_law_server
  dsimp only
  have hP : 1 ≤ (1 : Int) + numbers.getD ((0 : Int)).toNat default % 8 ∧ (1 : Int) + numbers.getD ((0 : Int)).toNat default % 8 ≤ 8 := by omega
  generalize (1 : Int) + numbers.getD ((0 : Int)).toNat default % 8 = P at hP
  have hB : 0 ≤ numbers.getD ((1 : Int)).toNat default % (P + 1) ∧ numbers.getD ((1 : Int)).toNat default % (P + 1) ≤ P := by
    have h1 := Int.emod_nonneg (numbers.getD ((1 : Int)).toNat default) (show P + 1 ≠ 0 by omega)
    have h2 := Int.emod_lt_of_pos (numbers.getD ((1 : Int)).toNat default) (show 0 < P + 1 by omega)
    omega
  generalize numbers.getD ((1 : Int)).toNat default % (P + 1) = B at hB
  have hO : 0 ≤ numbers.getD ((2 : Int)).toNat default % P ∧ numbers.getD ((2 : Int)).toNat default % P < P :=
    ⟨Int.emod_nonneg _ (by omega), Int.emod_lt_of_pos _ (by omega)⟩
  generalize numbers.getD ((2 : Int)).toNat default % P = O at hO
  have hC := cap82 (numbers.getD ((3 : Int)).toNat default)
  generalize ([(0 : Int), (1 : Int), (2 : Int), (3 : Int), (1000 : Int)].getD ((numbers.getD ((3 : Int)).toNat default) % (5 : Int)).toNat default) = C at hC
  obtain ⟨p, rfl⟩ : ∃ p : Nat, P = (p : Int) := ⟨P.toNat, by omega⟩
  obtain ⟨b, rfl⟩ : ∃ b : Nat, B = (b : Int) := ⟨B.toNat, by omega⟩
  obtain ⟨o, rfl⟩ : ∃ o : Nat, O = (o : Int) := ⟨O.toNat, by omega⟩
  rw [← due_eq, if_neg (fun q => q.elim (fun q => q rfl) fun q => q rfl)]
  have hpl : m_server_table (p : Int) (b : Int) (0 : Int) 1 = m_law_reserved (p : Int) (b : Int) 1 := by
    have := chk1 (p := p) (b := b) (o := 0) (by omega) (by omega) (by omega) (by omega)
    rw [chk2 (by omega) (by omega) (by omega)]; exact this
  rw [if_neg (fun q => q hpl)]
  have e3 : (3 : Int) * (p : Int) = ((3 * p : Nat) : Int) := by omega
  rw [e3, runE_oks (fun y hy => ?_)]
  have hy := List.mem_range.mp hy
  have a1 := lea_table (p := p) (b := b) (o := o) (c := C) (most := 3 * p) (j := y) hC.1 (by omega) (by omega) (by omega) (by omega) (by omega) (by omega)
  have a2 := lea_table (p := p) (b := b) (o := 0) (c := 1) (most := 3 * p) (j := y) (by decide) (by omega) (by omega) (by omega) (by omega) (by omega) (by omega)
  unfold m_law_server_l1
  dsimp only
  rw [Int.zero_add, Int.toNat_natCast, a1, if_neg (fun q => q.elim (fun q => q rfl) fun q => q rfl)]
  rw [show ((0 : Nat) : Int) = 0 from rfl] at a2
  rw [a2, if_neg (fun q => q rfl)]
theorem needs_ok {tasks : List Task} {works numbers : List Int} {H : Nat} (hok : ∀ t ∈ tasks, t.ok) (hj : m_joint_demands tasks (H : Int) = works) (hl : works.length = H + 1) (h1 : 1 ≤ H) (h2 : H ≤ 24) : m_law_needs tasks works numbers = true := by
  unfold m_law_needs
  dsimp only
  rw [show (works.length : Int) - 1 = (H : Int) by omega]
  obtain ⟨n0, n1, n2⟩ := needed82 hok hj h1 hl
  generalize m_needed_capacity tasks (H : Int) = C0 at n0 n1 n2
  rw [if_neg (fun q => by
    rcases q with q | q | q
    · exact q rfl
    · omega
    · exact q n1)]
  rw [if_neg (fun q => by have := n2 q.1; rw [q.2] at this; cases this)]
  have hP : 1 ≤ (1 : Int) + numbers.getD ((0 : Int)).toNat default % 8 ∧ (1 : Int) + numbers.getD ((0 : Int)).toNat default % 8 ≤ 8 := by omega
  generalize (1 : Int) + numbers.getD ((0 : Int)).toNat default % 8 = P at hP
  have hC := cap82 (numbers.getD ((3 : Int)).toNat default)
  generalize ([(0 : Int), (1 : Int), (2 : Int), (3 : Int), (1000 : Int)].getD ((numbers.getD ((3 : Int)).toNat default) % (5 : Int)).toNat default) = C at hC
  obtain ⟨p, rfl⟩ : ∃ p : Nat, P = (p : Int) := ⟨P.toNat, by omega⟩
  rw [budget_eq hj hC.1 (by omega) (by omega) (by omega) (by omega), budget_eq hj (by decide) (by omega) (by omega) (by omega) (by omega), if_neg (fun q => q.elim (fun q => q (is_ok _)) fun q => q (is_ok _))]
  have hb : 1 ≤ (1 : Int) + numbers.getD ((4 : Int)).toNat default % 6 := by omega
  generalize (1 : Int) + numbers.getD ((4 : Int)).toNat default % 6 = b at hb
  have hT : 0 ≤ numbers.getD ((5 : Int)).toNat default % (b + 1) ∧ numbers.getD ((5 : Int)).toNat default % (b + 1) ≤ b := by
    have h1 := Int.emod_nonneg (numbers.getD ((5 : Int)).toNat default) (show b + 1 ≠ 0 by omega)
    have h2 := Int.emod_lt_of_pos (numbers.getD ((5 : Int)).toNat default) (show 0 < b + 1 by omega)
    omega
  generalize numbers.getD ((5 : Int)).toNat default % (b + 1) = T at hT
  have hg := dv_spec (T := T) hb
  dsimp only at hg
  generalize maxL (((List.range ((b + 1) - 1).toNat).filter (fun y : Nat => (decide ((T % ((1 : Int) + (y : Int))) = (0 : Int))) && (decide ((b % ((1 : Int) + (y : Int))) = (0 : Int))))).map (fun y : Nat => (1 : Int) + (y : Int))) = g at hg
  have key : m_longest_period tasks (T / g, b / g) (H : Int) (p : Int) = (List.range ((p : Int) + 1 - 1).toNat).foldl (m_law_needs_l0 works b T 1) none := by
    unfold m_longest_period
    dsimp only
    rw [hj, show ((p : Int) - 0).toNat = p by omega, show ((p : Int) + 1 - 1).toNat = p by omega]
    refine run_desc (e := fun k => m_law_enough works (m_law_reserved k ((k * T + b - 1) / b) 1)) (fun y hy => ?_) (fun s y hy => rfl)
    have hq := quo_red (k := (p : Int) + (y : Int) * -1) hb hg.1 hg.2.2.1 hg.2.2.2
    have hc := cb82 (k := (p : Int) + (y : Int) * -1) ⟨by omega, by omega⟩ hT hb
    unfold m_longest_period_l0
    rw [hq]
    generalize hB : (((p : Int) + (y : Int) * -1) * T + b - 1) / b = B at hc
    try dsimp only
    try rw [hB]
    have := enough_eq (works := works) (p := p - y) (b := B.toNat) (c := 1) (by decide) (by omega) (by omega) (by omega) (by omega) (by omega)
    rw [show ((p - y : Nat) : Int) = (p : Int) + (y : Int) * -1 by omega, show ((B.toNat : Nat) : Int) = B by omega] at this
    rw [this]
  rw [key]
  exact is_ok _
/-- the tasks and the work so far -/
structure Lp (H : Nat) (n : Nat) (s : List Task × List Int) : Prop where
  len : s.1.length = n
  ok : ∀ t ∈ s.1, t.ok
  wlen : s.2.length = H + 1
  at_ : ∀ l, l ≤ H → s.2.getD l default = Dm s.1 l
theorem lp_step {numbers : List Int} {H n : Nat} (hn : n < 3) {s : List Task × List Int} (h : Lp H n s) : Lp H (n + 1) (m_law_l0 numbers (H : Int) s n) := by
  unfold m_law_l0
  dsimp only
  have hfa := fac84 (numbers.getD ((8 : Int)).toNat default)
  generalize ([(1 : Int), (17 : Int), (240 : Int)].getD ((numbers.getD ((8 : Int)).toNat default) % (3 : Int)).toNat default) = f at hfa
  have hko := kinds84 numbers ((10 : Int) + ((24 : Int) * ((0 : Int) + (n : Int)))) hfa
  generalize ((m_law_kinds numbers ((10 : Int) + ((24 : Int) * ((0 : Int) + (n : Int))))).map (fun zc2 : Str × Int × Int => (zc2.1, (zc2.2.1 * f), zc2.2.2))) = ks at hko
  have hwo := ways84 numbers ((17 : Int) + ((24 : Int) * ((0 : Int) + (n : Int)))) hko.pos
  generalize m_law_ways numbers ((17 : Int) + ((24 : Int) * ((0 : Int) + (n : Int)))) ks = ws at hwo
  have hxo := xyz_ok ((numbers.getD ((9 : Int)).toNat default) % (3 : Int)).toNat (by omega) n hn
  generalize ([(Str.ofString ""), (Str.ofString "t"), (Str.ofString "task")].getD ((numbers.getD ((9 : Int)).toNat default) % (3 : Int)).toNat default) ++ chA (Str.ofString "xyz") ((0 : Int) + (n : Int)) = nm at hxo
  have e : m_Task_init__ nm ks ws = { name := nm, kinds := ks, ways := ws } := by
    unfold m_Task_init__
    rw [if_neg (fun q => q hxo.1), if_neg (fun q => q hko.are), if_neg (fun q => q hwo.are)]
  have ok : Task.ok { name := nm, kinds := ks, ways := ws } := ⟨hko.are, hwo.are⟩
  rw [e]
  refine ⟨by show (s.1 ++ [_]).length = _; rw [List.length_append, h.len]; rfl, fun t ht => ?_, by show (List.map _ _).length = _; rw [List.length_map, List.length_range]; omega, fun l hl => ?_⟩
  · rcases List.mem_append.mp ht with q | q
    · exact h.ok t q
    · rw [List.mem_singleton.mp q]; exact ok
  · show (List.map _ _).getD l default = Dm (s.1 ++ [_]) l
    rw [List.getD_eq_getElem?_getD, List.getElem?_map, List.getElem?_range (by omega)]
    show s.2.getD ((0 : Int) + (l : Int)).toNat default + (m_law_demands ks ws (H : Int)).getD ((0 : Int) + (l : Int)).toNat default = _
    rw [Int.zero_add, Int.toNat_natCast, h.at_ l hl, dem82 (t := { name := nm, kinds := ks, ways := ws }) ok hl]
    unfold Dm
    rw [List.map_append, List.sum_append]
    simp
theorem lp_all {numbers : List Int} {H : Nat} {s : List Task × List Int} (h : Lp H 0 s) : ∀ n : Nat, n ≤ 3 → Lp H n ((List.range n).foldl (m_law_l0 numbers (H : Int)) s)
  | 0, _ => h
  | n + 1, hn => by
    rw [List.range_succ, List.foldl_append, List.foldl_cons, List.foldl_nil]
    exact lp_step (by omega) (lp_all h n (by omega))
theorem law_true : ∀ ns : List Int, ns.length ≤ 63 → m_law ns = true := by
  intro ns _
  unfold m_law
  dsimp only
  generalize m_law_numbers ns 90 = numbers
  rw [server_ok, Bool.true_and]
  have hH : 1 ≤ (1 : Int) + numbers.getD ((6 : Int)).toNat default % 24 ∧ (1 : Int) + numbers.getD ((6 : Int)).toNat default % 24 ≤ 24 := by omega
  generalize (1 : Int) + numbers.getD ((6 : Int)).toNat default % 24 = Hi at hH
  obtain ⟨H, rfl⟩ : ∃ H : Nat, Hi = (H : Int) := ⟨Hi.toNat, by omega⟩
  have h0 : Lp H 0 (([] : List Task), (List.range ((H : Int) + 1).toNat).map (fun _ : Nat => (0 : Int))) := by
    refine ⟨rfl, fun t ht => absurd ht (by simp), by show (List.map _ _).length = _; rw [List.length_map, List.length_range]; omega, fun l hl => ?_⟩
    show (List.map _ _).getD l default = Dm [] l
    rw [List.getD_eq_getElem?_getD, List.getElem?_map, List.getElem?_range (by omega)]; rfl
  have h := lp_all (numbers := numbers) h0 ((numbers.getD ((7 : Int)).toNat default) % (4 : Int)).toNat (by omega)
  generalize (List.range ((numbers.getD ((7 : Int)).toNat default) % (4 : Int)).toNat).foldl (m_law_l0 numbers (H : Int)) (([] : List Task), (List.range ((H : Int) + 1).toNat).map (fun _ : Nat => (0 : Int))) = s at h
  have hj : m_joint_demands s.1 (H : Int) = s.2 := by
    have hjl := joint_len h.ok (n := (H : Int)) (by omega)
    refine List.ext_getElem? fun l => ?_
    by_cases hl : l ≤ H
    · have a := joint_at h.ok hl
      have b := h.at_ l hl
      have hw := h.wlen
      rw [List.getD_eq_getElem?_getD, List.getElem?_eq_getElem (by omega)] at a b
      rw [List.getElem?_eq_getElem (by omega), List.getElem?_eq_getElem (by omega)]
      exact congrArg some (a.trans b.symm)
    · have hw := h.wlen
      rw [List.getElem?_eq_none (by omega), List.getElem?_eq_none (by omega)]
  exact needs_ok h.ok hj h.wlen (by omega) (by omega)
end
section
theorem all_mk {l : PySem.W.OpenLaw} {w : World} {K : Frag} {h : Heap} {mg : Mg} {fa : Addr} (X : K.In h) (G : h.Ns mainGlobals mg) (hfa : mg "law" = some (.ref fa))
    (z_abs : PySem.W.nsIn K mainGlobals "abs" = some none)
    (z_all : PySem.W.nsIn K mainGlobals "all" = some none)
    (z_bool : PySem.W.nsIn K mainGlobals "bool" = some none)
    (z_divmod : PySem.W.nsIn K mainGlobals "divmod" = some none)
    (z_enumerate : PySem.W.nsIn K mainGlobals "enumerate" = some none)
    (z_int : PySem.W.nsIn K mainGlobals "int" = some none)
    (z_isinstance : PySem.W.nsIn K mainGlobals "isinstance" = some none)
    (z_len : PySem.W.nsIn K mainGlobals "len" = some none)
    (z_list : PySem.W.nsIn K mainGlobals "list" = some none)
    (z_max : PySem.W.nsIn K mainGlobals "max" = some none)
    (z_min : PySem.W.nsIn K mainGlobals "min" = some none)
    (z_range : PySem.W.nsIn K mainGlobals "range" = some none)
    (z_set : PySem.W.nsIn K mainGlobals "set" = some none)
    (z_str : PySem.W.nsIn K mainGlobals "str" = some none)
    (z_sum : PySem.W.nsIn K mainGlobals "sum" = some none)
    (z_tuple : PySem.W.nsIn K mainGlobals "tuple" = some none)
    (z_zip : PySem.W.nsIn K mainGlobals "zip" = some none)
    {u_LONGEST_NAME : Tok} (z_LONGEST_NAME : PySem.W.nsIn K mainGlobals "LONGEST_NAME" = some (some (.int 12 u_LONGEST_NAME)))
    {u_MOST_KINDS : Tok} (z_MOST_KINDS : PySem.W.nsIn K mainGlobals "MOST_KINDS" = some (some (.int 8 u_MOST_KINDS)))
    {u_MOST_UNITS : Tok} (z_MOST_UNITS : PySem.W.nsIn K mainGlobals "MOST_UNITS" = some (some (.int 1000 u_MOST_UNITS)))
    {u_MOST_WAYS : Tok} (z_MOST_WAYS : PySem.W.nsIn K mainGlobals "MOST_WAYS" = some (some (.int 16 u_MOST_WAYS)))
    {u_NAME_CHARACTERS : Tok} (z_NAME_CHARACTERS : PySem.W.nsIn K mainGlobals "NAME_CHARACTERS" = some (some (.str "abcdefghijklmnopqrstuvwxyz0123456789" u_NAME_CHARACTERS)))
    {c_Task : Addr} (gC_Task : PySem.W.nsIn K mainGlobals "Task" = some (some (.ref c_Task)))
    (pg_Task : PySem.W.plainGet K c_Task Str.empty = true) (hd_Task : PySem.W.hasDictIn K c_Task = true) (po_Task : PySem.W.plainOver K c_Task = true) (sa_Task : PySem.W.findIn K (.ref c_Task) "__setattr__" = some (some (.builtin "object.__setattr__")))
    (na_Task_name : PySem.W.findIn K (.ref c_Task) "name" = some none)
    (na_Task_kinds : PySem.W.findIn K (.ref c_Task) "kinds" = some none)
    (na_Task_ways : PySem.W.findIn K (.ref c_Task) "ways" = some none)
    (mk_Task : PySem.W.makesIn K c_Task = true) (kc_Task : PySem.W.keepIn K (.ref c_Task) = true)
    {f_law_row : Addr} {od_law_row an_law_row : Option Addr} {sl_law_row : Array (Option Value)} {oc_law_row dc_law_row pm_law_row cd_law_row ct_law_row : Value} {kV_law_row : Value}
    (g_law_row : PySem.W.nsIn K mainGlobals "_law_row" = some (some (.ref f_law_row)))
    (l_law_row : K.lookup f_law_row = some ⟨oc_law_row, od_law_row, .func (PySem.W.fnOf "_law_row" "_law_row" (defArgs s_law_row) (defBody s_law_row) (defScope s_law_row) .none kV_law_row dc_law_row pm_law_row an_law_row cd_law_row ct_law_row), sl_law_row⟩)
    (c_law_row : PySem.W.codeIn K cd_law_row "_law_row" = true) (k_law_row : PySem.W.keepIn K (.ref f_law_row) = true)
    {f_law_numbers : Addr} {od_law_numbers an_law_numbers : Option Addr} {sl_law_numbers : Array (Option Value)} {oc_law_numbers dc_law_numbers pm_law_numbers cd_law_numbers ct_law_numbers : Value} {kV_law_numbers : Value}
    (g_law_numbers : PySem.W.nsIn K mainGlobals "_law_numbers" = some (some (.ref f_law_numbers)))
    (l_law_numbers : K.lookup f_law_numbers = some ⟨oc_law_numbers, od_law_numbers, .func (PySem.W.fnOf "_law_numbers" "_law_numbers" (defArgs s_law_numbers) (defBody s_law_numbers) (defScope s_law_numbers) .none kV_law_numbers dc_law_numbers pm_law_numbers an_law_numbers cd_law_numbers ct_law_numbers), sl_law_numbers⟩)
    (c_law_numbers : PySem.W.codeIn K cd_law_numbers "_law_numbers" = true) (k_law_numbers : PySem.W.keepIn K (.ref f_law_numbers) = true)
    {f_is_integer : Addr} {od_is_integer an_is_integer : Option Addr} {sl_is_integer : Array (Option Value)} {oc_is_integer dc_is_integer pm_is_integer cd_is_integer ct_is_integer : Value} {kV_is_integer : Value}
    (g_is_integer : PySem.W.nsIn K mainGlobals "is_integer" = some (some (.ref f_is_integer)))
    (l_is_integer : K.lookup f_is_integer = some ⟨oc_is_integer, od_is_integer, .func (PySem.W.fnOf "is_integer" "is_integer" (defArgs s_is_integer) (defBody s_is_integer) (defScope s_is_integer) .none kV_is_integer dc_is_integer pm_is_integer an_is_integer cd_is_integer ct_is_integer), sl_is_integer⟩)
    (c_is_integer : PySem.W.codeIn K cd_is_integer "is_integer" = true) (k_is_integer : PySem.W.keepIn K (.ref f_is_integer) = true)
    {f_is_name : Addr} {od_is_name an_is_name : Option Addr} {sl_is_name : Array (Option Value)} {oc_is_name dc_is_name pm_is_name cd_is_name ct_is_name : Value} {kV_is_name : Value}
    (g_is_name : PySem.W.nsIn K mainGlobals "is_name" = some (some (.ref f_is_name)))
    (l_is_name : K.lookup f_is_name = some ⟨oc_is_name, od_is_name, .func (PySem.W.fnOf "is_name" "is_name" (defArgs s_is_name) (defBody s_is_name) (defScope s_is_name) .none kV_is_name dc_is_name pm_is_name an_is_name cd_is_name ct_is_name), sl_is_name⟩)
    (c_is_name : PySem.W.codeIn K cd_is_name "is_name" = true) (k_is_name : PySem.W.keepIn K (.ref f_is_name) = true)
    {f_is_kind : Addr} {od_is_kind an_is_kind : Option Addr} {sl_is_kind : Array (Option Value)} {oc_is_kind dc_is_kind pm_is_kind cd_is_kind ct_is_kind : Value} {kV_is_kind : Value}
    (g_is_kind : PySem.W.nsIn K mainGlobals "is_kind" = some (some (.ref f_is_kind)))
    (l_is_kind : K.lookup f_is_kind = some ⟨oc_is_kind, od_is_kind, .func (PySem.W.fnOf "is_kind" "is_kind" (defArgs s_is_kind) (defBody s_is_kind) (defScope s_is_kind) .none kV_is_kind dc_is_kind pm_is_kind an_is_kind cd_is_kind ct_is_kind), sl_is_kind⟩)
    (c_is_kind : PySem.W.codeIn K cd_is_kind "is_kind" = true) (k_is_kind : PySem.W.keepIn K (.ref f_is_kind) = true)
    {f_is_way : Addr} {od_is_way an_is_way : Option Addr} {sl_is_way : Array (Option Value)} {oc_is_way dc_is_way pm_is_way cd_is_way ct_is_way : Value} {kV_is_way : Value}
    (g_is_way : PySem.W.nsIn K mainGlobals "is_way" = some (some (.ref f_is_way)))
    (l_is_way : K.lookup f_is_way = some ⟨oc_is_way, od_is_way, .func (PySem.W.fnOf "is_way" "is_way" (defArgs s_is_way) (defBody s_is_way) (defScope s_is_way) .none kV_is_way dc_is_way pm_is_way an_is_way cd_is_way ct_is_way), sl_is_way⟩)
    (c_is_way : PySem.W.codeIn K cd_is_way "is_way" = true) (k_is_way : PySem.W.keepIn K (.ref f_is_way) = true)
    {f_are_different : Addr} {od_are_different an_are_different : Option Addr} {sl_are_different : Array (Option Value)} {oc_are_different dc_are_different pm_are_different cd_are_different ct_are_different : Value} {kV_are_different : Value}
    (g_are_different : PySem.W.nsIn K mainGlobals "are_different" = some (some (.ref f_are_different)))
    (l_are_different : K.lookup f_are_different = some ⟨oc_are_different, od_are_different, .func (PySem.W.fnOf "are_different" "are_different" (defArgs s_are_different) (defBody s_are_different) (defScope s_are_different) .none kV_are_different dc_are_different pm_are_different an_are_different cd_are_different ct_are_different), sl_are_different⟩)
    (c_are_different : PySem.W.codeIn K cd_are_different "are_different" = true) (k_are_different : PySem.W.keepIn K (.ref f_are_different) = true)
    {f_are_kinds : Addr} {od_are_kinds an_are_kinds : Option Addr} {sl_are_kinds : Array (Option Value)} {oc_are_kinds dc_are_kinds pm_are_kinds cd_are_kinds ct_are_kinds : Value} {kV_are_kinds : Value}
    (g_are_kinds : PySem.W.nsIn K mainGlobals "are_kinds" = some (some (.ref f_are_kinds)))
    (l_are_kinds : K.lookup f_are_kinds = some ⟨oc_are_kinds, od_are_kinds, .func (PySem.W.fnOf "are_kinds" "are_kinds" (defArgs s_are_kinds) (defBody s_are_kinds) (defScope s_are_kinds) .none kV_are_kinds dc_are_kinds pm_are_kinds an_are_kinds cd_are_kinds ct_are_kinds), sl_are_kinds⟩)
    (c_are_kinds : PySem.W.codeIn K cd_are_kinds "are_kinds" = true) (k_are_kinds : PySem.W.keepIn K (.ref f_are_kinds) = true)
    {f_are_ways : Addr} {od_are_ways an_are_ways : Option Addr} {sl_are_ways : Array (Option Value)} {oc_are_ways dc_are_ways pm_are_ways cd_are_ways ct_are_ways : Value} {kV_are_ways : Value}
    (g_are_ways : PySem.W.nsIn K mainGlobals "are_ways" = some (some (.ref f_are_ways)))
    (l_are_ways : K.lookup f_are_ways = some ⟨oc_are_ways, od_are_ways, .func (PySem.W.fnOf "are_ways" "are_ways" (defArgs s_are_ways) (defBody s_are_ways) (defScope s_are_ways) .none kV_are_ways dc_are_ways pm_are_ways an_are_ways cd_are_ways ct_are_ways), sl_are_ways⟩)
    (c_are_ways : PySem.W.codeIn K cd_are_ways "are_ways" = true) (k_are_ways : PySem.W.keepIn K (.ref f_are_ways) = true)
    {f_Task_init__ : Addr} {od_Task_init__ an_Task_init__ : Option Addr} {sl_Task_init__ : Array (Option Value)} {oc_Task_init__ dc_Task_init__ pm_Task_init__ cd_Task_init__ ct_Task_init__ : Value} {kV_Task_init__ : Value}
    (at_Task_init__ : PySem.W.findIn K (.ref c_Task) "__init__" = some (some (.ref f_Task_init__))) (is_Task_init__ : PySem.W.isFn K (.ref f_Task_init__) = true)
    (l_Task_init__ : K.lookup f_Task_init__ = some ⟨oc_Task_init__, od_Task_init__, .func (PySem.W.fnOf "__init__" "Task.__init__" (defArgs s_Task_init__) (defBody s_Task_init__) (defScope s_Task_init__) .none kV_Task_init__ dc_Task_init__ pm_Task_init__ an_Task_init__ cd_Task_init__ ct_Task_init__), sl_Task_init__⟩)
    (c_Task_init__ : PySem.W.codeIn K cd_Task_init__ "Task.__init__" = true) (k_Task_init__ : PySem.W.keepIn K (.ref f_Task_init__) = true)
    {f_Task_kind_number : Addr} {od_Task_kind_number an_Task_kind_number : Option Addr} {sl_Task_kind_number : Array (Option Value)} {oc_Task_kind_number dc_Task_kind_number pm_Task_kind_number cd_Task_kind_number ct_Task_kind_number : Value} {kV_Task_kind_number : Value}
    (at_Task_kind_number : PySem.W.findIn K (.ref c_Task) "kind_number" = some (some (.ref f_Task_kind_number))) (is_Task_kind_number : PySem.W.isFn K (.ref f_Task_kind_number) = true)
    (l_Task_kind_number : K.lookup f_Task_kind_number = some ⟨oc_Task_kind_number, od_Task_kind_number, .func (PySem.W.fnOf "kind_number" "Task.kind_number" (defArgs s_Task_kind_number) (defBody s_Task_kind_number) (defScope s_Task_kind_number) .none kV_Task_kind_number dc_Task_kind_number pm_Task_kind_number an_Task_kind_number cd_Task_kind_number ct_Task_kind_number), sl_Task_kind_number⟩)
    (c_Task_kind_number : PySem.W.codeIn K cd_Task_kind_number "Task.kind_number" = true) (k_Task_kind_number : PySem.W.keepIn K (.ref f_Task_kind_number) = true)
    {f_Task_kind : Addr} {od_Task_kind an_Task_kind : Option Addr} {sl_Task_kind : Array (Option Value)} {oc_Task_kind dc_Task_kind pm_Task_kind cd_Task_kind ct_Task_kind : Value} {kV_Task_kind : Value}
    (at_Task_kind : PySem.W.findIn K (.ref c_Task) "_kind" = some (some (.ref f_Task_kind))) (is_Task_kind : PySem.W.isFn K (.ref f_Task_kind) = true)
    (l_Task_kind : K.lookup f_Task_kind = some ⟨oc_Task_kind, od_Task_kind, .func (PySem.W.fnOf "_kind" "Task._kind" (defArgs s_Task_kind) (defBody s_Task_kind) (defScope s_Task_kind) .none kV_Task_kind dc_Task_kind pm_Task_kind an_Task_kind cd_Task_kind ct_Task_kind), sl_Task_kind⟩)
    (c_Task_kind : PySem.W.codeIn K cd_Task_kind "Task._kind" = true) (k_Task_kind : PySem.W.keepIn K (.ref f_Task_kind) = true)
    {f_Task_ways_from : Addr} {od_Task_ways_from an_Task_ways_from : Option Addr} {sl_Task_ways_from : Array (Option Value)} {oc_Task_ways_from dc_Task_ways_from pm_Task_ways_from cd_Task_ways_from ct_Task_ways_from : Value} {kV_Task_ways_from : Value}
    (at_Task_ways_from : PySem.W.findIn K (.ref c_Task) "ways_from" = some (some (.ref f_Task_ways_from))) (is_Task_ways_from : PySem.W.isFn K (.ref f_Task_ways_from) = true)
    (l_Task_ways_from : K.lookup f_Task_ways_from = some ⟨oc_Task_ways_from, od_Task_ways_from, .func (PySem.W.fnOf "ways_from" "Task.ways_from" (defArgs s_Task_ways_from) (defBody s_Task_ways_from) (defScope s_Task_ways_from) .none kV_Task_ways_from dc_Task_ways_from pm_Task_ways_from an_Task_ways_from cd_Task_ways_from ct_Task_ways_from), sl_Task_ways_from⟩)
    (c_Task_ways_from : PySem.W.codeIn K cd_Task_ways_from "Task.ways_from" = true) (k_Task_ways_from : PySem.W.keepIn K (.ref f_Task_ways_from) = true)
    {f_steps : Addr} {od_steps an_steps : Option Addr} {sl_steps : Array (Option Value)} {oc_steps dc_steps pm_steps cd_steps ct_steps : Value} {kV_steps : Value}
    (g_steps : PySem.W.nsIn K mainGlobals "_steps" = some (some (.ref f_steps)))
    (l_steps : K.lookup f_steps = some ⟨oc_steps, od_steps, .func (PySem.W.fnOf "_steps" "_steps" (defArgs s_steps) (defBody s_steps) (defScope s_steps) .none kV_steps dc_steps pm_steps an_steps cd_steps ct_steps), sl_steps⟩)
    (c_steps : PySem.W.codeIn K cd_steps "_steps" = true) (k_steps : PySem.W.keepIn K (.ref f_steps) = true)
    {f_best_step : Addr} {od_best_step an_best_step : Option Addr} {sl_best_step : Array (Option Value)} {oc_best_step dc_best_step pm_best_step cd_best_step ct_best_step : Value} {kV_best_step : Value}
    (g_best_step : PySem.W.nsIn K mainGlobals "_best_step" = some (some (.ref f_best_step)))
    (l_best_step : K.lookup f_best_step = some ⟨oc_best_step, od_best_step, .func (PySem.W.fnOf "_best_step" "_best_step" (defArgs s_best_step) (defBody s_best_step) (defScope s_best_step) .none kV_best_step dc_best_step pm_best_step an_best_step cd_best_step ct_best_step), sl_best_step⟩)
    (c_best_step : PySem.W.codeIn K cd_best_step "_best_step" = true) (k_best_step : PySem.W.keepIn K (.ref f_best_step) = true)
    {f_rows : Addr} {od_rows an_rows : Option Addr} {sl_rows : Array (Option Value)} {oc_rows dc_rows pm_rows cd_rows ct_rows : Value} {kV_rows : Value}
    (g_rows : PySem.W.nsIn K mainGlobals "rows" = some (some (.ref f_rows)))
    (l_rows : K.lookup f_rows = some ⟨oc_rows, od_rows, .func (PySem.W.fnOf "rows" "rows" (defArgs s_rows) (defBody s_rows) (defScope s_rows) .none kV_rows dc_rows pm_rows an_rows cd_rows ct_rows), sl_rows⟩)
    (c_rows : PySem.W.codeIn K cd_rows "rows" = true) (k_rows : PySem.W.keepIn K (.ref f_rows) = true)
    {f_demands : Addr} {od_demands an_demands : Option Addr} {sl_demands : Array (Option Value)} {oc_demands dc_demands pm_demands cd_demands ct_demands : Value} {kV_demands : Value}
    (g_demands : PySem.W.nsIn K mainGlobals "demands" = some (some (.ref f_demands)))
    (l_demands : K.lookup f_demands = some ⟨oc_demands, od_demands, .func (PySem.W.fnOf "demands" "demands" (defArgs s_demands) (defBody s_demands) (defScope s_demands) .none kV_demands dc_demands pm_demands an_demands cd_demands ct_demands), sl_demands⟩)
    (c_demands : PySem.W.codeIn K cd_demands "demands" = true) (k_demands : PySem.W.keepIn K (.ref f_demands) = true)
    {f_joint_demands : Addr} {od_joint_demands an_joint_demands : Option Addr} {sl_joint_demands : Array (Option Value)} {oc_joint_demands dc_joint_demands pm_joint_demands cd_joint_demands ct_joint_demands : Value} {kV_joint_demands : Value}
    (g_joint_demands : PySem.W.nsIn K mainGlobals "joint_demands" = some (some (.ref f_joint_demands)))
    (l_joint_demands : K.lookup f_joint_demands = some ⟨oc_joint_demands, od_joint_demands, .func (PySem.W.fnOf "joint_demands" "joint_demands" (defArgs s_joint_demands) (defBody s_joint_demands) (defScope s_joint_demands) .none kV_joint_demands dc_joint_demands pm_joint_demands an_joint_demands cd_joint_demands ct_joint_demands), sl_joint_demands⟩)
    (c_joint_demands : PySem.W.codeIn K cd_joint_demands "joint_demands" = true) (k_joint_demands : PySem.W.keepIn K (.ref f_joint_demands) = true)
    {f_law_kinds : Addr} {od_law_kinds an_law_kinds : Option Addr} {sl_law_kinds : Array (Option Value)} {oc_law_kinds dc_law_kinds pm_law_kinds cd_law_kinds ct_law_kinds : Value} {kV_law_kinds : Value}
    (g_law_kinds : PySem.W.nsIn K mainGlobals "_law_kinds" = some (some (.ref f_law_kinds)))
    (l_law_kinds : K.lookup f_law_kinds = some ⟨oc_law_kinds, od_law_kinds, .func (PySem.W.fnOf "_law_kinds" "_law_kinds" (defArgs s_law_kinds) (defBody s_law_kinds) (defScope s_law_kinds) .none kV_law_kinds dc_law_kinds pm_law_kinds an_law_kinds cd_law_kinds ct_law_kinds), sl_law_kinds⟩)
    (c_law_kinds : PySem.W.codeIn K cd_law_kinds "_law_kinds" = true) (k_law_kinds : PySem.W.keepIn K (.ref f_law_kinds) = true)
    {f_law_ways : Addr} {od_law_ways an_law_ways : Option Addr} {sl_law_ways : Array (Option Value)} {oc_law_ways dc_law_ways pm_law_ways cd_law_ways ct_law_ways : Value} {kV_law_ways : Value}
    (g_law_ways : PySem.W.nsIn K mainGlobals "_law_ways" = some (some (.ref f_law_ways)))
    (l_law_ways : K.lookup f_law_ways = some ⟨oc_law_ways, od_law_ways, .func (PySem.W.fnOf "_law_ways" "_law_ways" (defArgs s_law_ways) (defBody s_law_ways) (defScope s_law_ways) .none kV_law_ways dc_law_ways pm_law_ways an_law_ways cd_law_ways ct_law_ways), sl_law_ways⟩)
    (c_law_ways : PySem.W.codeIn K cd_law_ways "_law_ways" = true) (k_law_ways : PySem.W.keepIn K (.ref f_law_ways) = true)
    {f_server_table : Addr} {od_server_table an_server_table : Option Addr} {sl_server_table : Array (Option Value)} {oc_server_table dc_server_table pm_server_table cd_server_table ct_server_table : Value} {kD_server_table : Addr}
    (g_server_table : PySem.W.nsIn K mainGlobals "server_table" = some (some (.ref f_server_table)))
    (l_server_table : K.lookup f_server_table = some ⟨oc_server_table, od_server_table, .func (PySem.W.fnOf "server_table" "server_table" (defArgs s_server_table) (defBody s_server_table) (defScope s_server_table) .none (.ref kD_server_table) dc_server_table pm_server_table an_server_table cd_server_table ct_server_table), sl_server_table⟩)
    (c_server_table : PySem.W.codeIn K cd_server_table "server_table" = true) (k_server_table : PySem.W.keepIn K (.ref f_server_table) = true)
    {du_server_table_offset : Tok} (dq_server_table_offset : PySem.W.nsIn K kD_server_table "offset" = some (some (.int 0 du_server_table_offset)))
    {du_server_table_capacity : Tok} (dq_server_table_capacity : PySem.W.nsIn K kD_server_table "capacity" = some (some (.int 1 du_server_table_capacity)))
    {f_server_supply : Addr} {od_server_supply an_server_supply : Option Addr} {sl_server_supply : Array (Option Value)} {oc_server_supply dc_server_supply pm_server_supply cd_server_supply ct_server_supply : Value} {kD_server_supply : Addr}
    (g_server_supply : PySem.W.nsIn K mainGlobals "server_supply" = some (some (.ref f_server_supply)))
    (l_server_supply : K.lookup f_server_supply = some ⟨oc_server_supply, od_server_supply, .func (PySem.W.fnOf "server_supply" "server_supply" (defArgs s_server_supply) (defBody s_server_supply) (defScope s_server_supply) .none (.ref kD_server_supply) dc_server_supply pm_server_supply an_server_supply cd_server_supply ct_server_supply), sl_server_supply⟩)
    (c_server_supply : PySem.W.codeIn K cd_server_supply "server_supply" = true) (k_server_supply : PySem.W.keepIn K (.ref f_server_supply) = true)
    {du_server_supply_capacity : Tok} (dq_server_supply_capacity : PySem.W.nsIn K kD_server_supply "capacity" = some (some (.int 1 du_server_supply_capacity)))
    {f_quotient_up : Addr} {od_quotient_up an_quotient_up : Option Addr} {sl_quotient_up : Array (Option Value)} {oc_quotient_up dc_quotient_up pm_quotient_up cd_quotient_up ct_quotient_up : Value} {kV_quotient_up : Value}
    (g_quotient_up : PySem.W.nsIn K mainGlobals "_quotient_up" = some (some (.ref f_quotient_up)))
    (l_quotient_up : K.lookup f_quotient_up = some ⟨oc_quotient_up, od_quotient_up, .func (PySem.W.fnOf "_quotient_up" "_quotient_up" (defArgs s_quotient_up) (defBody s_quotient_up) (defScope s_quotient_up) .none kV_quotient_up dc_quotient_up pm_quotient_up an_quotient_up cd_quotient_up ct_quotient_up), sl_quotient_up⟩)
    (c_quotient_up : PySem.W.codeIn K cd_quotient_up "_quotient_up" = true) (k_quotient_up : PySem.W.keepIn K (.ref f_quotient_up) = true)
    {f_needed_capacity : Addr} {od_needed_capacity an_needed_capacity : Option Addr} {sl_needed_capacity : Array (Option Value)} {oc_needed_capacity dc_needed_capacity pm_needed_capacity cd_needed_capacity ct_needed_capacity : Value} {kV_needed_capacity : Value}
    (g_needed_capacity : PySem.W.nsIn K mainGlobals "needed_capacity" = some (some (.ref f_needed_capacity)))
    (l_needed_capacity : K.lookup f_needed_capacity = some ⟨oc_needed_capacity, od_needed_capacity, .func (PySem.W.fnOf "needed_capacity" "needed_capacity" (defArgs s_needed_capacity) (defBody s_needed_capacity) (defScope s_needed_capacity) .none kV_needed_capacity dc_needed_capacity pm_needed_capacity an_needed_capacity cd_needed_capacity ct_needed_capacity), sl_needed_capacity⟩)
    (c_needed_capacity : PySem.W.codeIn K cd_needed_capacity "needed_capacity" = true) (k_needed_capacity : PySem.W.keepIn K (.ref f_needed_capacity) = true)
    {f_is_enough : Addr} {od_is_enough an_is_enough : Option Addr} {sl_is_enough : Array (Option Value)} {oc_is_enough dc_is_enough pm_is_enough cd_is_enough ct_is_enough : Value} {kV_is_enough : Value}
    (g_is_enough : PySem.W.nsIn K mainGlobals "_is_enough" = some (some (.ref f_is_enough)))
    (l_is_enough : K.lookup f_is_enough = some ⟨oc_is_enough, od_is_enough, .func (PySem.W.fnOf "_is_enough" "_is_enough" (defArgs s_is_enough) (defBody s_is_enough) (defScope s_is_enough) .none kV_is_enough dc_is_enough pm_is_enough an_is_enough cd_is_enough ct_is_enough), sl_is_enough⟩)
    (c_is_enough : PySem.W.codeIn K cd_is_enough "_is_enough" = true) (k_is_enough : PySem.W.keepIn K (.ref f_is_enough) = true)
    {f_needed_budget : Addr} {od_needed_budget an_needed_budget : Option Addr} {sl_needed_budget : Array (Option Value)} {oc_needed_budget dc_needed_budget pm_needed_budget cd_needed_budget ct_needed_budget : Value} {kD_needed_budget : Addr}
    (g_needed_budget : PySem.W.nsIn K mainGlobals "needed_budget" = some (some (.ref f_needed_budget)))
    (l_needed_budget : K.lookup f_needed_budget = some ⟨oc_needed_budget, od_needed_budget, .func (PySem.W.fnOf "needed_budget" "needed_budget" (defArgs s_needed_budget) (defBody s_needed_budget) (defScope s_needed_budget) .none (.ref kD_needed_budget) dc_needed_budget pm_needed_budget an_needed_budget cd_needed_budget ct_needed_budget), sl_needed_budget⟩)
    (c_needed_budget : PySem.W.codeIn K cd_needed_budget "needed_budget" = true) (k_needed_budget : PySem.W.keepIn K (.ref f_needed_budget) = true)
    {du_needed_budget_capacity : Tok} (dq_needed_budget_capacity : PySem.W.nsIn K kD_needed_budget "capacity" = some (some (.int 1 du_needed_budget_capacity)))
    {f_longest_period : Addr} {od_longest_period an_longest_period : Option Addr} {sl_longest_period : Array (Option Value)} {oc_longest_period dc_longest_period pm_longest_period cd_longest_period ct_longest_period : Value} {kV_longest_period : Value}
    (g_longest_period : PySem.W.nsIn K mainGlobals "longest_period" = some (some (.ref f_longest_period)))
    (l_longest_period : K.lookup f_longest_period = some ⟨oc_longest_period, od_longest_period, .func (PySem.W.fnOf "longest_period" "longest_period" (defArgs s_longest_period) (defBody s_longest_period) (defScope s_longest_period) .none kV_longest_period dc_longest_period pm_longest_period an_longest_period cd_longest_period ct_longest_period), sl_longest_period⟩)
    (c_longest_period : PySem.W.codeIn K cd_longest_period "longest_period" = true) (k_longest_period : PySem.W.keepIn K (.ref f_longest_period) = true)
    {f_law_is_integer : Addr} {od_law_is_integer an_law_is_integer : Option Addr} {sl_law_is_integer : Array (Option Value)} {oc_law_is_integer dc_law_is_integer pm_law_is_integer cd_law_is_integer ct_law_is_integer : Value} {kV_law_is_integer : Value}
    (g_law_is_integer : PySem.W.nsIn K mainGlobals "_law_is_integer" = some (some (.ref f_law_is_integer)))
    (l_law_is_integer : K.lookup f_law_is_integer = some ⟨oc_law_is_integer, od_law_is_integer, .func (PySem.W.fnOf "_law_is_integer" "_law_is_integer" (defArgs s_law_is_integer) (defBody s_law_is_integer) (defScope s_law_is_integer) .none kV_law_is_integer dc_law_is_integer pm_law_is_integer an_law_is_integer cd_law_is_integer ct_law_is_integer), sl_law_is_integer⟩)
    (c_law_is_integer : PySem.W.codeIn K cd_law_is_integer "_law_is_integer" = true) (k_law_is_integer : PySem.W.keepIn K (.ref f_law_is_integer) = true)
    {f_law_is_integero : Addr} {od_law_is_integero an_law_is_integero : Option Addr} {sl_law_is_integero : Array (Option Value)} {oc_law_is_integero dc_law_is_integero pm_law_is_integero cd_law_is_integero ct_law_is_integero : Value} {kV_law_is_integero : Value}
    (g_law_is_integero : PySem.W.nsIn K mainGlobals "_law_is_integer" = some (some (.ref f_law_is_integero)))
    (l_law_is_integero : K.lookup f_law_is_integero = some ⟨oc_law_is_integero, od_law_is_integero, .func (PySem.W.fnOf "_law_is_integer" "_law_is_integer" (defArgs s_law_is_integero) (defBody s_law_is_integero) (defScope s_law_is_integero) .none kV_law_is_integero dc_law_is_integero pm_law_is_integero an_law_is_integero cd_law_is_integero ct_law_is_integero), sl_law_is_integero⟩)
    (c_law_is_integero : PySem.W.codeIn K cd_law_is_integero "_law_is_integer" = true) (k_law_is_integero : PySem.W.keepIn K (.ref f_law_is_integero) = true)
    {f_law_leasts : Addr} {od_law_leasts an_law_leasts : Option Addr} {sl_law_leasts : Array (Option Value)} {oc_law_leasts dc_law_leasts pm_law_leasts cd_law_leasts ct_law_leasts : Value} {kV_law_leasts : Value}
    (g_law_leasts : PySem.W.nsIn K mainGlobals "_law_leasts" = some (some (.ref f_law_leasts)))
    (l_law_leasts : K.lookup f_law_leasts = some ⟨oc_law_leasts, od_law_leasts, .func (PySem.W.fnOf "_law_leasts" "_law_leasts" (defArgs s_law_leasts) (defBody s_law_leasts) (defScope s_law_leasts) .none kV_law_leasts dc_law_leasts pm_law_leasts an_law_leasts cd_law_leasts ct_law_leasts), sl_law_leasts⟩)
    (c_law_leasts : PySem.W.codeIn K cd_law_leasts "_law_leasts" = true) (k_law_leasts : PySem.W.keepIn K (.ref f_law_leasts) = true)
    {f_law_demands : Addr} {od_law_demands an_law_demands : Option Addr} {sl_law_demands : Array (Option Value)} {oc_law_demands dc_law_demands pm_law_demands cd_law_demands ct_law_demands : Value} {kV_law_demands : Value}
    (g_law_demands : PySem.W.nsIn K mainGlobals "_law_demands" = some (some (.ref f_law_demands)))
    (l_law_demands : K.lookup f_law_demands = some ⟨oc_law_demands, od_law_demands, .func (PySem.W.fnOf "_law_demands" "_law_demands" (defArgs s_law_demands) (defBody s_law_demands) (defScope s_law_demands) .none kV_law_demands dc_law_demands pm_law_demands an_law_demands cd_law_demands ct_law_demands), sl_law_demands⟩)
    (c_law_demands : PySem.W.codeIn K cd_law_demands "_law_demands" = true) (k_law_demands : PySem.W.keepIn K (.ref f_law_demands) = true)
    {f_law_server : Addr} {od_law_server an_law_server : Option Addr} {sl_law_server : Array (Option Value)} {oc_law_server dc_law_server pm_law_server cd_law_server ct_law_server : Value} {kV_law_server : Value}
    (g_law_server : PySem.W.nsIn K mainGlobals "_law_server" = some (some (.ref f_law_server)))
    (l_law_server : K.lookup f_law_server = some ⟨oc_law_server, od_law_server, .func (PySem.W.fnOf "_law_server" "_law_server" (defArgs s_law_server) (defBody s_law_server) (defScope s_law_server) .none kV_law_server dc_law_server pm_law_server an_law_server cd_law_server ct_law_server), sl_law_server⟩)
    (c_law_server : PySem.W.codeIn K cd_law_server "_law_server" = true) (k_law_server : PySem.W.keepIn K (.ref f_law_server) = true)
    {f_law_enough : Addr} {od_law_enough an_law_enough : Option Addr} {sl_law_enough : Array (Option Value)} {oc_law_enough dc_law_enough pm_law_enough cd_law_enough ct_law_enough : Value} {kV_law_enough : Value}
    (g_law_enough : PySem.W.nsIn K mainGlobals "_law_enough" = some (some (.ref f_law_enough)))
    (l_law_enough : K.lookup f_law_enough = some ⟨oc_law_enough, od_law_enough, .func (PySem.W.fnOf "_law_enough" "_law_enough" (defArgs s_law_enough) (defBody s_law_enough) (defScope s_law_enough) .none kV_law_enough dc_law_enough pm_law_enough an_law_enough cd_law_enough ct_law_enough), sl_law_enough⟩)
    (c_law_enough : PySem.W.codeIn K cd_law_enough "_law_enough" = true) (k_law_enough : PySem.W.keepIn K (.ref f_law_enough) = true)
    {f_law_reserved : Addr} {od_law_reserved an_law_reserved : Option Addr} {sl_law_reserved : Array (Option Value)} {oc_law_reserved dc_law_reserved pm_law_reserved cd_law_reserved ct_law_reserved : Value} {kV_law_reserved : Value}
    (g_law_reserved : PySem.W.nsIn K mainGlobals "_law_reserved" = some (some (.ref f_law_reserved)))
    (l_law_reserved : K.lookup f_law_reserved = some ⟨oc_law_reserved, od_law_reserved, .func (PySem.W.fnOf "_law_reserved" "_law_reserved" (defArgs s_law_reserved) (defBody s_law_reserved) (defScope s_law_reserved) .none kV_law_reserved dc_law_reserved pm_law_reserved an_law_reserved cd_law_reserved ct_law_reserved), sl_law_reserved⟩)
    (c_law_reserved : PySem.W.codeIn K cd_law_reserved "_law_reserved" = true) (k_law_reserved : PySem.W.keepIn K (.ref f_law_reserved) = true)
    {f_law_budget : Addr} {od_law_budget an_law_budget : Option Addr} {sl_law_budget : Array (Option Value)} {oc_law_budget dc_law_budget pm_law_budget cd_law_budget ct_law_budget : Value} {kV_law_budget : Value}
    (g_law_budget : PySem.W.nsIn K mainGlobals "_law_budget" = some (some (.ref f_law_budget)))
    (l_law_budget : K.lookup f_law_budget = some ⟨oc_law_budget, od_law_budget, .func (PySem.W.fnOf "_law_budget" "_law_budget" (defArgs s_law_budget) (defBody s_law_budget) (defScope s_law_budget) .none kV_law_budget dc_law_budget pm_law_budget an_law_budget cd_law_budget ct_law_budget), sl_law_budget⟩)
    (c_law_budget : PySem.W.codeIn K cd_law_budget "_law_budget" = true) (k_law_budget : PySem.W.keepIn K (.ref f_law_budget) = true)
    {f_law_is : Addr} {od_law_is an_law_is : Option Addr} {sl_law_is : Array (Option Value)} {oc_law_is dc_law_is pm_law_is cd_law_is ct_law_is : Value} {kV_law_is : Value}
    (g_law_is : PySem.W.nsIn K mainGlobals "_law_is" = some (some (.ref f_law_is)))
    (l_law_is : K.lookup f_law_is = some ⟨oc_law_is, od_law_is, .func (PySem.W.fnOf "_law_is" "_law_is" (defArgs s_law_is) (defBody s_law_is) (defScope s_law_is) .none kV_law_is dc_law_is pm_law_is an_law_is cd_law_is ct_law_is), sl_law_is⟩)
    (c_law_is : PySem.W.codeIn K cd_law_is "_law_is" = true) (k_law_is : PySem.W.keepIn K (.ref f_law_is) = true)
    {f_law_needs : Addr} {od_law_needs an_law_needs : Option Addr} {sl_law_needs : Array (Option Value)} {oc_law_needs dc_law_needs pm_law_needs cd_law_needs ct_law_needs : Value} {kV_law_needs : Value}
    (g_law_needs : PySem.W.nsIn K mainGlobals "_law_needs" = some (some (.ref f_law_needs)))
    (l_law_needs : K.lookup f_law_needs = some ⟨oc_law_needs, od_law_needs, .func (PySem.W.fnOf "_law_needs" "_law_needs" (defArgs s_law_needs) (defBody s_law_needs) (defScope s_law_needs) .none kV_law_needs dc_law_needs pm_law_needs an_law_needs cd_law_needs ct_law_needs), sl_law_needs⟩)
    (c_law_needs : PySem.W.codeIn K cd_law_needs "_law_needs" = true) (k_law_needs : PySem.W.keepIn K (.ref f_law_needs) = true)
    {f_law : Addr} {od_law an_law : Option Addr} {sl_law : Array (Option Value)} {oc_law dc_law pm_law cd_law ct_law : Value} {kV_law : Value}
    (g_law : PySem.W.nsIn K mainGlobals "law" = some (some (.ref f_law)))
    (l_law : K.lookup f_law = some ⟨oc_law, od_law, .func (PySem.W.fnOf "law" "law" (defArgs s_law) (defBody s_law) (defScope s_law) .none kV_law dc_law pm_law an_law cd_law ct_law), sl_law⟩)
    (c_law : PySem.W.codeIn K cd_law "law" = true) (k_law : PySem.W.keepIn K (.ref f_law) = true)
    : ∃ fd : FuncData, (∀ (s : Shared) (v : Value), BindsTo s fd ⟨[v], []⟩ [("_law_script", v)]) ∧ ∀ base : Heap, K.In base → base.Ns mainGlobals mg → FnOk l.prog w K mg base CX0 10 fa fd ["_law_script"] (spTrue K) := by
  have T : TX l.prog K mg := {
    n_abs := PySem.W.mg_none_of X G z_abs
    n_all := PySem.W.mg_none_of X G z_all
    n_bool := PySem.W.mg_none_of X G z_bool
    n_divmod := PySem.W.mg_none_of X G z_divmod
    n_enumerate := PySem.W.mg_none_of X G z_enumerate
    n_int := PySem.W.mg_none_of X G z_int
    n_isinstance := PySem.W.mg_none_of X G z_isinstance
    n_len := PySem.W.mg_none_of X G z_len
    n_list := PySem.W.mg_none_of X G z_list
    n_max := PySem.W.mg_none_of X G z_max
    n_min := PySem.W.mg_none_of X G z_min
    n_range := PySem.W.mg_none_of X G z_range
    n_set := PySem.W.mg_none_of X G z_set
    n_str := PySem.W.mg_none_of X G z_str
    n_sum := PySem.W.mg_none_of X G z_sum
    n_tuple := PySem.W.mg_none_of X G z_tuple
    n_zip := PySem.W.mg_none_of X G z_zip
    t_LONGEST_NAME := u_LONGEST_NAME
    c_LONGEST_NAME := PySem.W.mg_of X G z_LONGEST_NAME
    t_MOST_KINDS := u_MOST_KINDS
    c_MOST_KINDS := PySem.W.mg_of X G z_MOST_KINDS
    t_MOST_UNITS := u_MOST_UNITS
    c_MOST_UNITS := PySem.W.mg_of X G z_MOST_UNITS
    t_MOST_WAYS := u_MOST_WAYS
    c_MOST_WAYS := PySem.W.mg_of X G z_MOST_WAYS
    t_NAME_CHARACTERS := u_NAME_CHARACTERS
    c_NAME_CHARACTERS := PySem.W.mg_of X G z_NAME_CHARACTERS
    C_Task := c_Task
    q_Task := PySem.W.mg_of X G gC_Task
    cl_Task := ⟨pg_Task, hd_Task, po_Task, sa_Task⟩
    na_Task_name := na_Task_name
    na_Task_kinds := na_Task_kinds
    na_Task_ways := na_Task_ways
    a_law_row := f_law_row
    d_law_row := _
    F_law_row := fun_mk (st := s_law_row) l_law_row c_law_row k_law_row
    k_law_row := k_law_row
    m_law_row := PySem.W.mg_of X G g_law_row
    b_law_row := (fun_mk (st := s_law_row) l_law_row c_law_row k_law_row).binds (ps := ["_law_cell", "_law_many"]) fun _ _ _ _ _ _ us hl => match us, hl with | [_, _], _ => rfl
    a_law_numbers := f_law_numbers
    d_law_numbers := _
    F_law_numbers := fun_mk (st := s_law_numbers) l_law_numbers c_law_numbers k_law_numbers
    k_law_numbers := k_law_numbers
    m_law_numbers := PySem.W.mg_of X G g_law_numbers
    b_law_numbers := (fun_mk (st := s_law_numbers) l_law_numbers c_law_numbers k_law_numbers).binds (ps := ["_law_script", "_law_many"]) fun _ _ _ _ _ _ us hl => match us, hl with | [_, _], _ => rfl
    a_is_integer := f_is_integer
    d_is_integer := _
    F_is_integer := fun_mk (st := s_is_integer) l_is_integer c_is_integer k_is_integer
    k_is_integer := k_is_integer
    m_is_integer := PySem.W.mg_of X G g_is_integer
    b_is_integer := (fun_mk (st := s_is_integer) l_is_integer c_is_integer k_is_integer).binds (ps := ["value", "low", "high"]) fun _ _ _ _ _ _ us hl => match us, hl with | [_, _, _], _ => rfl
    a_is_name := f_is_name
    d_is_name := _
    F_is_name := fun_mk (st := s_is_name) l_is_name c_is_name k_is_name
    k_is_name := k_is_name
    m_is_name := PySem.W.mg_of X G g_is_name
    b_is_name := (fun_mk (st := s_is_name) l_is_name c_is_name k_is_name).binds (ps := ["value"]) fun _ _ _ _ _ _ us hl => match us, hl with | [_], _ => rfl
    a_is_kind := f_is_kind
    d_is_kind := _
    F_is_kind := fun_mk (st := s_is_kind) l_is_kind c_is_kind k_is_kind
    k_is_kind := k_is_kind
    m_is_kind := PySem.W.mg_of X G g_is_kind
    b_is_kind := (fun_mk (st := s_is_kind) l_is_kind c_is_kind k_is_kind).binds (ps := ["value"]) fun _ _ _ _ _ _ us hl => match us, hl with | [_], _ => rfl
    a_is_way := f_is_way
    d_is_way := _
    F_is_way := fun_mk (st := s_is_way) l_is_way c_is_way k_is_way
    k_is_way := k_is_way
    m_is_way := PySem.W.mg_of X G g_is_way
    b_is_way := (fun_mk (st := s_is_way) l_is_way c_is_way k_is_way).binds (ps := ["value", "kind_names"]) fun _ _ _ _ _ _ us hl => match us, hl with | [_, _], _ => rfl
    a_are_different := f_are_different
    d_are_different := _
    F_are_different := fun_mk (st := s_are_different) l_are_different c_are_different k_are_different
    k_are_different := k_are_different
    m_are_different := PySem.W.mg_of X G g_are_different
    b_are_different := (fun_mk (st := s_are_different) l_are_different c_are_different k_are_different).binds (ps := ["names"]) fun _ _ _ _ _ _ us hl => match us, hl with | [_], _ => rfl
    a_are_kinds := f_are_kinds
    d_are_kinds := _
    F_are_kinds := fun_mk (st := s_are_kinds) l_are_kinds c_are_kinds k_are_kinds
    k_are_kinds := k_are_kinds
    m_are_kinds := PySem.W.mg_of X G g_are_kinds
    b_are_kinds := (fun_mk (st := s_are_kinds) l_are_kinds c_are_kinds k_are_kinds).binds (ps := ["kinds"]) fun _ _ _ _ _ _ us hl => match us, hl with | [_], _ => rfl
    a_are_ways := f_are_ways
    d_are_ways := _
    F_are_ways := fun_mk (st := s_are_ways) l_are_ways c_are_ways k_are_ways
    k_are_ways := k_are_ways
    m_are_ways := PySem.W.mg_of X G g_are_ways
    b_are_ways := (fun_mk (st := s_are_ways) l_are_ways c_are_ways k_are_ways).binds (ps := ["ways", "kinds"]) fun _ _ _ _ _ _ us hl => match us, hl with | [_, _], _ => rfl
    a_Task_init__ := f_Task_init__
    d_Task_init__ := _
    F_Task_init__ := fun_mk (st := s_Task_init__) l_Task_init__ c_Task_init__ k_Task_init__
    k_Task_init__ := k_Task_init__
    mk_Task_init__ := ⟨mk_Task, at_Task_init__, is_Task_init__, kc_Task⟩
    kb_Task_init___1_kinds_ways := kbn_all fun us ws l1 l2 => match us, ws, l1, l2 with | [_, _], [_, _], _, _ => rfl
    a_Task_kind_number := f_Task_kind_number
    d_Task_kind_number := _
    F_Task_kind_number := fun_mk (st := s_Task_kind_number) l_Task_kind_number c_Task_kind_number k_Task_kind_number
    k_Task_kind_number := k_Task_kind_number
    me_Task_kind_number := ⟨at_Task_kind_number, is_Task_kind_number, k_Task_kind_number⟩
    b_Task_kind_number := (fun_mk (st := s_Task_kind_number) l_Task_kind_number c_Task_kind_number k_Task_kind_number).binds (ps := ["self", "kind_name"]) fun _ _ _ _ _ _ us hl => match us, hl with | [_, _], _ => rfl
    a_Task_kind := f_Task_kind
    d_Task_kind := _
    F_Task_kind := fun_mk (st := s_Task_kind) l_Task_kind c_Task_kind k_Task_kind
    k_Task_kind := k_Task_kind
    me_Task_kind := ⟨at_Task_kind, is_Task_kind, k_Task_kind⟩
    b_Task_kind := (fun_mk (st := s_Task_kind) l_Task_kind c_Task_kind k_Task_kind).binds (ps := ["self", "kind_name"]) fun _ _ _ _ _ _ us hl => match us, hl with | [_, _], _ => rfl
    a_Task_ways_from := f_Task_ways_from
    d_Task_ways_from := _
    F_Task_ways_from := fun_mk (st := s_Task_ways_from) l_Task_ways_from c_Task_ways_from k_Task_ways_from
    k_Task_ways_from := k_Task_ways_from
    me_Task_ways_from := ⟨at_Task_ways_from, is_Task_ways_from, k_Task_ways_from⟩
    b_Task_ways_from := (fun_mk (st := s_Task_ways_from) l_Task_ways_from c_Task_ways_from k_Task_ways_from).binds (ps := ["self", "kind_name"]) fun _ _ _ _ _ _ us hl => match us, hl with | [_, _], _ => rfl
    a_steps := f_steps
    d_steps := _
    F_steps := fun_mk (st := s_steps) l_steps c_steps k_steps
    k_steps := k_steps
    m_steps := PySem.W.mg_of X G g_steps
    b_steps := (fun_mk (st := s_steps) l_steps c_steps k_steps).binds (ps := ["task", "kind_name"]) fun _ _ _ _ _ _ us hl => match us, hl with | [_, _], _ => rfl
    a_best_step := f_best_step
    d_best_step := _
    F_best_step := fun_mk (st := s_best_step) l_best_step c_best_step k_best_step
    k_best_step := k_best_step
    m_best_step := PySem.W.mg_of X G g_best_step
    b_best_step := (fun_mk (st := s_best_step) l_best_step c_best_step k_best_step).binds (ps := ["steps", "found", "length"]) fun _ _ _ _ _ _ us hl => match us, hl with | [_, _, _], _ => rfl
    a_rows := f_rows
    d_rows := _
    F_rows := fun_mk (st := s_rows) l_rows c_rows k_rows
    k_rows := k_rows
    m_rows := PySem.W.mg_of X G g_rows
    b_rows := (fun_mk (st := s_rows) l_rows c_rows k_rows).binds (ps := ["task", "length"]) fun _ _ _ _ _ _ us hl => match us, hl with | [_, _], _ => rfl
    a_demands := f_demands
    d_demands := _
    F_demands := fun_mk (st := s_demands) l_demands c_demands k_demands
    k_demands := k_demands
    m_demands := PySem.W.mg_of X G g_demands
    b_demands := (fun_mk (st := s_demands) l_demands c_demands k_demands).binds (ps := ["task", "length"]) fun _ _ _ _ _ _ us hl => match us, hl with | [_, _], _ => rfl
    a_joint_demands := f_joint_demands
    d_joint_demands := _
    F_joint_demands := fun_mk (st := s_joint_demands) l_joint_demands c_joint_demands k_joint_demands
    k_joint_demands := k_joint_demands
    m_joint_demands := PySem.W.mg_of X G g_joint_demands
    b_joint_demands := (fun_mk (st := s_joint_demands) l_joint_demands c_joint_demands k_joint_demands).binds (ps := ["tasks", "length"]) fun _ _ _ _ _ _ us hl => match us, hl with | [_, _], _ => rfl
    a_law_kinds := f_law_kinds
    d_law_kinds := _
    F_law_kinds := fun_mk (st := s_law_kinds) l_law_kinds c_law_kinds k_law_kinds
    k_law_kinds := k_law_kinds
    m_law_kinds := PySem.W.mg_of X G g_law_kinds
    b_law_kinds := (fun_mk (st := s_law_kinds) l_law_kinds c_law_kinds k_law_kinds).binds (ps := ["_law_numbers_here", "_law_at"]) fun _ _ _ _ _ _ us hl => match us, hl with | [_, _], _ => rfl
    a_law_ways := f_law_ways
    d_law_ways := _
    F_law_ways := fun_mk (st := s_law_ways) l_law_ways c_law_ways k_law_ways
    k_law_ways := k_law_ways
    m_law_ways := PySem.W.mg_of X G g_law_ways
    b_law_ways := (fun_mk (st := s_law_ways) l_law_ways c_law_ways k_law_ways).binds (ps := ["_law_numbers_here", "_law_at", "_law_kinds_here"]) fun _ _ _ _ _ _ us hl => match us, hl with | [_, _, _], _ => rfl
    a_server_table := f_server_table
    d_server_table := _
    F_server_table := fun_mk (st := s_server_table) l_server_table c_server_table k_server_table
    k_server_table := k_server_table
    m_server_table := PySem.W.mg_of X G g_server_table
    mvkb_server_table_0_period_budget := [.int (0 : Int) du_server_table_offset, .int (1 : Int) du_server_table_capacity]
    dvkb_server_table_0_period_budget := [.int (0 : Int), .int (1 : Int)]
    kb_server_table_0_period_budget := kbn_dfl2 dq_server_table_offset dq_server_table_capacity ⟨_, rfl⟩ ⟨_, rfl⟩ fun us ws l1 l2 => match us, ws, l1, l2 with | [], [_, _], _, _ => ⟨_, _, _, _, _, _, rfl, rfl, ⟨_, _, _, _, _, _, rfl, rfl, rfl⟩⟩
    rkb_server_table_0_period_budget := fun _ => (.cons (.int _) (.cons (.int _) .nil))
    kb_server_table_0_period_budget_offset_capacity := kbn_all fun us ws l1 l2 => match us, ws, l1, l2 with | [], [_, _, _, _], _, _ => rfl
    a_server_supply := f_server_supply
    d_server_supply := _
    F_server_supply := fun_mk (st := s_server_supply) l_server_supply c_server_supply k_server_supply
    k_server_supply := k_server_supply
    m_server_supply := PySem.W.mg_of X G g_server_supply
    mvkb_server_supply_0_period_budget_length := [.int (1 : Int) du_server_supply_capacity]
    dvkb_server_supply_0_period_budget_length := [.int (1 : Int)]
    kb_server_supply_0_period_budget_length := kbn_dfl1 dq_server_supply_capacity ⟨_, rfl⟩ fun us ws l1 l2 => match us, ws, l1, l2 with | [], [_, _, _], _, _ => ⟨_, _, _, _, _, _, rfl, rfl, rfl⟩
    rkb_server_supply_0_period_budget_length := fun _ => (.cons (.int _) .nil)
    kb_server_supply_0_period_budget_length_capacity := kbn_all fun us ws l1 l2 => match us, ws, l1, l2 with | [], [_, _, _, _], _, _ => rfl
    a_quotient_up := f_quotient_up
    d_quotient_up := _
    F_quotient_up := fun_mk (st := s_quotient_up) l_quotient_up c_quotient_up k_quotient_up
    k_quotient_up := k_quotient_up
    m_quotient_up := PySem.W.mg_of X G g_quotient_up
    b_quotient_up := (fun_mk (st := s_quotient_up) l_quotient_up c_quotient_up k_quotient_up).binds (ps := ["top", "bottom"]) fun _ _ _ _ _ _ us hl => match us, hl with | [_, _], _ => rfl
    a_needed_capacity := f_needed_capacity
    d_needed_capacity := _
    F_needed_capacity := fun_mk (st := s_needed_capacity) l_needed_capacity c_needed_capacity k_needed_capacity
    k_needed_capacity := k_needed_capacity
    m_needed_capacity := PySem.W.mg_of X G g_needed_capacity
    kb_needed_capacity_1_horizon := kbn_all fun us ws l1 l2 => match us, ws, l1, l2 with | [_], [_], _, _ => rfl
    a_is_enough := f_is_enough
    d_is_enough := _
    F_is_enough := fun_mk (st := s_is_enough) l_is_enough c_is_enough k_is_enough
    k_is_enough := k_is_enough
    m_is_enough := PySem.W.mg_of X G g_is_enough
    b_is_enough := (fun_mk (st := s_is_enough) l_is_enough c_is_enough k_is_enough).binds (ps := ["wanted", "period", "budget", "capacity"]) fun _ _ _ _ _ _ us hl => match us, hl with | [_, _, _, _], _ => rfl
    a_needed_budget := f_needed_budget
    d_needed_budget := _
    F_needed_budget := fun_mk (st := s_needed_budget) l_needed_budget c_needed_budget k_needed_budget
    k_needed_budget := k_needed_budget
    m_needed_budget := PySem.W.mg_of X G g_needed_budget
    mvkb_needed_budget_1_period_horizon := [.int (1 : Int) du_needed_budget_capacity]
    dvkb_needed_budget_1_period_horizon := [.int (1 : Int)]
    kb_needed_budget_1_period_horizon := kbn_dfl1 dq_needed_budget_capacity ⟨_, rfl⟩ fun us ws l1 l2 => match us, ws, l1, l2 with | [_], [_, _], _, _ => ⟨_, _, _, _, _, _, rfl, rfl, rfl⟩
    rkb_needed_budget_1_period_horizon := fun _ => (.cons (.int _) .nil)
    kb_needed_budget_1_period_horizon_capacity := kbn_all fun us ws l1 l2 => match us, ws, l1, l2 with | [_], [_, _, _], _, _ => rfl
    a_longest_period := f_longest_period
    d_longest_period := _
    F_longest_period := fun_mk (st := s_longest_period) l_longest_period c_longest_period k_longest_period
    k_longest_period := k_longest_period
    m_longest_period := PySem.W.mg_of X G g_longest_period
    kb_longest_period_1_share_horizon_longest := kbn_all fun us ws l1 l2 => match us, ws, l1, l2 with | [_], [_, _, _], _, _ => rfl
    a_law_is_integer := f_law_is_integer
    d_law_is_integer := _
    F_law_is_integer := fun_mk (st := s_law_is_integer) l_law_is_integer c_law_is_integer k_law_is_integer
    k_law_is_integer := k_law_is_integer
    m_law_is_integer := PySem.W.mg_of X G g_law_is_integer
    b_law_is_integer := (fun_mk (st := s_law_is_integer) l_law_is_integer c_law_is_integer k_law_is_integer).binds (ps := ["_law_actual"]) fun _ _ _ _ _ _ us hl => match us, hl with | [_], _ => rfl
    a_law_is_integero := f_law_is_integero
    d_law_is_integero := _
    F_law_is_integero := fun_mk (st := s_law_is_integero) l_law_is_integero c_law_is_integero k_law_is_integero
    k_law_is_integero := k_law_is_integero
    m_law_is_integero := PySem.W.mg_of X G g_law_is_integero
    b_law_is_integero := (fun_mk (st := s_law_is_integero) l_law_is_integero c_law_is_integero k_law_is_integero).binds (ps := ["_law_actual"]) fun _ _ _ _ _ _ us hl => match us, hl with | [_], _ => rfl
    a_law_leasts := f_law_leasts
    d_law_leasts := _
    F_law_leasts := fun_mk (st := s_law_leasts) l_law_leasts c_law_leasts k_law_leasts
    k_law_leasts := k_law_leasts
    m_law_leasts := PySem.W.mg_of X G g_law_leasts
    b_law_leasts := (fun_mk (st := s_law_leasts) l_law_leasts c_law_leasts k_law_leasts).binds (ps := ["_law_table", "_law_most"]) fun _ _ _ _ _ _ us hl => match us, hl with | [_, _], _ => rfl
    a_law_demands := f_law_demands
    d_law_demands := _
    F_law_demands := fun_mk (st := s_law_demands) l_law_demands c_law_demands k_law_demands
    k_law_demands := k_law_demands
    m_law_demands := PySem.W.mg_of X G g_law_demands
    b_law_demands := (fun_mk (st := s_law_demands) l_law_demands c_law_demands k_law_demands).binds (ps := ["_law_kinds_here", "_law_ways_here", "_law_length"]) fun _ _ _ _ _ _ us hl => match us, hl with | [_, _, _], _ => rfl
    a_law_server := f_law_server
    d_law_server := _
    F_law_server := fun_mk (st := s_law_server) l_law_server c_law_server k_law_server
    k_law_server := k_law_server
    m_law_server := PySem.W.mg_of X G g_law_server
    b_law_server := (fun_mk (st := s_law_server) l_law_server c_law_server k_law_server).binds (ps := ["_law_numbers_here"]) fun _ _ _ _ _ _ us hl => match us, hl with | [_], _ => rfl
    a_law_enough := f_law_enough
    d_law_enough := _
    F_law_enough := fun_mk (st := s_law_enough) l_law_enough c_law_enough k_law_enough
    k_law_enough := k_law_enough
    m_law_enough := PySem.W.mg_of X G g_law_enough
    b_law_enough := (fun_mk (st := s_law_enough) l_law_enough c_law_enough k_law_enough).binds (ps := ["_law_works", "_law_table"]) fun _ _ _ _ _ _ us hl => match us, hl with | [_, _], _ => rfl
    a_law_reserved := f_law_reserved
    d_law_reserved := _
    F_law_reserved := fun_mk (st := s_law_reserved) l_law_reserved c_law_reserved k_law_reserved
    k_law_reserved := k_law_reserved
    m_law_reserved := PySem.W.mg_of X G g_law_reserved
    b_law_reserved := (fun_mk (st := s_law_reserved) l_law_reserved c_law_reserved k_law_reserved).binds (ps := ["_law_period", "_law_budget_here", "_law_capacity"]) fun _ _ _ _ _ _ us hl => match us, hl with | [_, _, _], _ => rfl
    a_law_budget := f_law_budget
    d_law_budget := _
    F_law_budget := fun_mk (st := s_law_budget) l_law_budget c_law_budget k_law_budget
    k_law_budget := k_law_budget
    m_law_budget := PySem.W.mg_of X G g_law_budget
    b_law_budget := (fun_mk (st := s_law_budget) l_law_budget c_law_budget k_law_budget).binds (ps := ["_law_works", "_law_period", "_law_capacity"]) fun _ _ _ _ _ _ us hl => match us, hl with | [_, _, _], _ => rfl
    a_law_is := f_law_is
    d_law_is := _
    F_law_is := fun_mk (st := s_law_is) l_law_is c_law_is k_law_is
    k_law_is := k_law_is
    m_law_is := PySem.W.mg_of X G g_law_is
    b_law_is := (fun_mk (st := s_law_is) l_law_is c_law_is k_law_is).binds (ps := ["_law_actual", "_law_due"]) fun _ _ _ _ _ _ us hl => match us, hl with | [_, _], _ => rfl
    a_law_needs := f_law_needs
    d_law_needs := _
    F_law_needs := fun_mk (st := s_law_needs) l_law_needs c_law_needs k_law_needs
    k_law_needs := k_law_needs
    m_law_needs := PySem.W.mg_of X G g_law_needs
    b_law_needs := (fun_mk (st := s_law_needs) l_law_needs c_law_needs k_law_needs).binds (ps := ["_law_tasks", "_law_works", "_law_numbers_here"]) fun _ _ _ _ _ _ us hl => match us, hl with | [_, _, _], _ => rfl
    a_law := f_law
    d_law := _
    F_law := fun_mk (st := s_law) l_law c_law k_law
    k_law := k_law
    m_law := PySem.W.mg_of X G g_law
    b_law := (fun_mk (st := s_law) l_law c_law k_law).binds (ps := ["_law_script"]) fun _ _ _ _ _ _ us hl => match us, hl with | [_], _ => rfl
    e_law := fun s v => .of_eq rfl }
  have e : fa = T.a_law := Value.ref.inj (Option.some.inj (hfa.symm.trans T.m_law))
  subst e
  exact ⟨T.d_law, T.e_law, fun base _ _ => (ok_law (P := l.prog) (w := w) (base := base) T).imp fun vs H Q E h => spTrue_of law_true h⟩
theorem walk {l : PySem.W.OpenLaw} {q : Program} {loose : List Str} {XP : (Str → Option Value) → Heap → Prop} {YP : World → Heap → Prop} {d : DefRec} {K : Params → Frag} (hn : l.most = some 63) (hdf : d.params.defaults = [])
    (hY : ∀ (w : World) (h : Heap), YP w h → (K w.params).In h)
    (hF : ∀ (w : World) (mg : Mg) (fa : Addr) (h : Heap), (K w.params).In h → h.Ns mainGlobals mg → mg d.name = some (.ref fa) → ∃ fd : FuncData, (∀ (s : Shared) (u : Value), BindsTo s fd ⟨[u], []⟩ [("_law_script", u)]) ∧
      ∀ base : Heap, (K w.params).In base → base.Ns mainGlobals mg → FnOk l.prog w (K w.params) mg base CX0 10 fa fd ["_law_script"] (spTrue (K w.params))) : PySem.W.WalkO q loose XP YP l.row.toRowW d [] (fun f vs => PySem.call f vs) :=
  L2.walk_of (n := 63) (k := 10) (x := "_law_script") (CX := fun _ => CX0) (sp := fun w => spTrue (K w.params)) hn (by decide) hdf ⟨rfl, by decide, by decide⟩ hY hF (fun _ _ a ns hl _ hS => ⟨a, ns, rfl, hS, hl, fun _ => rfl⟩) fun _ _ _ _ _ z => z
end
end My
theorem PySem.W.Fast.tw15161056136211350535 : True := True.intro
theorem PySem.W.Fast.tw1292899522248550540 : True := True.intro
theorem PySem.W.Fast.tw4386299622030655258 : True := True.intro
theorem PySem.W.Fast.tw10633507678897024246 : True := True.intro
theorem PySem.W.Fast.tw16034369604161551087 : True := True.intro
theorem PySem.W.Fast.tw17111550734227896295 : True := True.intro
theorem PySem.W.Fast.tw13679832094478587547 : True := True.intro
theorem PySem.W.Fast.tw12753747367500799574 : True := True.intro
theorem PySem.W.Fast.tw17190414630601063097 : True := True.intro
theorem PySem.W.Fast.tw4545521219019824383 : True := True.intro
theorem PySem.W.Fast.tw4000370103390029186 : True := True.intro
theorem PySem.W.Fast.tw5186868083190232743 : True := True.intro
theorem PySem.W.Fast.tw7313924216329104333 : True := True.intro
theorem PySem.W.Fast.tw2283644146011781717 : True := True.intro
theorem PySem.W.Fast.tw15033337691521409377 : True := True.intro
theorem PySem.W.Fast.tw6918718196391979479 : True := True.intro
theorem PySem.W.Fast.tw4899237874440256858 : True := True.intro
theorem PySem.W.Fast.tw12187481619649867868 : True := True.intro
theorem PySem.W.Fast.tw14316823078801258558 : True := True.intro
theorem PySem.W.Fast.tw8237005671291177855 : True := True.intro
theorem PySem.W.Fast.tw16061731975117313942 : True := True.intro
theorem PySem.W.Fast.tw1032910028443562037 : True := True.intro
theorem PySem.W.Fast.tw1333157709431918386 : True := True.intro
theorem PySem.W.Fast.tw18130521192257418966 : True := True.intro
theorem PySem.W.Fast.tw5393714687580071619 : True := True.intro
theorem PySem.W.Fast.tw16444370075842127404 : True := True.intro
theorem PySem.W.Fast.tw13815939372244514988 : True := True.intro
theorem PySem.W.Fast.tw13765607940616604594 : True := True.intro
theorem PySem.W.Fast.tw16409659096300291195 : True := True.intro
theorem PySem.W.Fast.tw11188860891949289024 : True := True.intro
theorem PySem.W.Fast.tw9835272088271362264 : True := True.intro
theorem PySem.W.Fast.tw11683134611961391383 : True := True.intro
theorem PySem.W.Fast.tw14018276496341269887 : True := True.intro
theorem PySem.W.Fast.tw790852447507045943 : True := True.intro
theorem PySem.W.Fast.tw13909968945273599934 : True := True.intro
theorem PySem.W.Fast.tw8576590956535257196 : True := True.intro
theorem PySem.W.Fast.tw17775118802980307085 : True := True.intro
theorem PySem.W.Fast.tw696306411341112759 : True := True.intro
theorem PySem.W.Fast.tw4094639198514810787 : True := True.intro
theorem PySem.W.Fast.tw15618202797318915289 : True := True.intro
theorem PySem.W.Fast.tw17564464613176281657 : True := True.intro
theorem PySem.W.Fast.tw6727391430978062282 : True := True.intro
theorem PySem.W.Fast.tw4305579224007241927 : True := True.intro
theorem PySem.W.Fast.tw3489984601866062144 : True := True.intro
theorem PySem.W.Fast.tw2094959963078250682 : True := True.intro
theorem PySem.W.Fast.tw15313778825774935394 : True := True.intro
theorem PySem.W.Fast.tw14945076557564007507 : True := True.intro
theorem PySem.W.Fast.tw14708733614318401652 : True := True.intro
theorem PySem.W.Fast.tw16115911861268296612 : True := True.intro
theorem PySem.W.Fast.tw3728845912942179360 : True := True.intro
theorem PySem.W.Fast.tw9130035722731890151 : True := True.intro
theorem PySem.W.Fast.tw10556184163001581968 : True := True.intro
theorem PySem.W.Fast.tw17701118855338466520 : True := True.intro
theorem PySem.W.Fast.tw7538764777106447885 : True := True.intro
theorem PySem.W.Fast.tw8891357486288654370 : True := True.intro
theorem PySem.W.Fast.tw12342317348502342833 : True := True.intro
theorem PySem.W.Fast.tw3113040937164713983 : True := True.intro
theorem PySem.W.Fast.tw16627706186498534590 : True := True.intro
theorem PySem.W.Fast.tw1403709795659357138 : True := True.intro
theorem PySem.W.Fast.tw5736309880596896308 : True := True.intro
theorem PySem.W.Fast.tw17700967464568939732 : True := True.intro
theorem PySem.W.Fast.tw18268108073853830912 : True := True.intro
theorem PySem.W.Fast.tw17255674989493545663 : True := True.intro
theorem PySem.W.Fast.tw7715021632839941408 : True := True.intro
theorem PySem.W.Fast.tw7928659267977630301 : True := True.intro
theorem PySem.W.Fast.tw10541990929746252543 : True := True.intro
theorem PySem.W.Fast.tw18239785479012686821 : True := True.intro
theorem PySem.W.Fast.tw14849971507050364996 : True := True.intro
theorem PySem.W.Fast.tw10140326721518911908 : True := True.intro
theorem PySem.W.Fast.tw137701384907855810 : True := True.intro
theorem PySem.W.Fast.tw8110189697629915766 : True := True.intro
theorem PySem.W.Fast.tw759196447926292484 : True := True.intro
theorem PySem.W.Fast.tw4388115396307307322 : True := True.intro
theorem PySem.W.Fast.tw6118467810594156662 : True := True.intro
theorem PySem.W.Fast.tw16874227614429892531 : True := True.intro
theorem PySem.W.Fast.tw7816738197979486597 : True := True.intro
theorem PySem.W.Fast.tw17595729530601401553 : True := True.intro
theorem PySem.W.Fast.tw584108627467667071 : True := True.intro
theorem PySem.W.Fast.tw4225953270943256161 : True := True.intro
theorem PySem.W.Fast.tw8272716637302243886 : True := True.intro
theorem PySem.W.Fast.tw7022652492499195979 : True := True.intro
theorem PySem.W.Fast.tw7586571170253077558 : True := True.intro
theorem PySem.W.Fast.tw4340533686868599018 : True := True.intro
theorem PySem.W.Fast.tw9891786154821992340 : True := True.intro
theorem PySem.W.Fast.tw10526803723674335304 : True := True.intro
theorem PySem.W.Fast.tw3461736294652103508 : True := True.intro
theorem PySem.W.Fast.tw9470831458572964541 : True := True.intro
theorem PySem.W.Fast.tw12039496383839625038 : True := True.intro
theorem PySem.W.Fast.tw10433417729712326722 : True := True.intro
theorem PySem.W.Fast.tw5488829751753728579 : True := True.intro
theorem PySem.W.Fast.tw9131980041874339876 : True := True.intro
theorem PySem.W.Fast.tw12540396246442043687 : True := True.intro
theorem PySem.W.Fast.tw10660280254039615118 : True := True.intro
theorem PySem.W.Fast.tw8497023201907228323 : True := True.intro
theorem PySem.W.Fast.tw17918980790278938841 : True := True.intro
theorem PySem.W.Fast.tw1616733852286325366 : True := True.intro
theorem PySem.W.Fast.tw183738323673655039 : True := True.intro
theorem PySem.W.Fast.tw15441875682750688604 : True := True.intro
theorem PySem.W.Fast.tw13045770603113785124 : True := True.intro
theorem PySem.W.Fast.tw10960716591622553472 : True := True.intro
theorem PySem.W.Fast.tw11036173984873451451 : True := True.intro
theorem PySem.W.Fast.tw2812801919327117822 : True := True.intro
theorem PySem.W.Fast.tw16731050218060941814 : True := True.intro
theorem PySem.W.Fast.tw8745446354009358072 : True := True.intro
theorem PySem.W.Fast.tw18067763233760526516 : True := True.intro
theorem PySem.W.Fast.tw11977853264897142815 : True := True.intro
theorem PySem.W.Fast.tw7336419381609040857 : True := True.intro
theorem PySem.W.Fast.tw5114545618447593449 : True := True.intro
theorem PySem.W.Fast.tw15808993349749218151 : True := True.intro
theorem PySem.W.Fast.tw5021388694783869290 : True := True.intro
theorem PySem.W.Fast.tw12670592003661853582 : True := True.intro
theorem PySem.W.Fast.tw13933915346392829649 : True := True.intro
theorem PySem.W.Fast.tw11025933493757563923 : True := True.intro
theorem PySem.W.Fast.tw12505152989306041159 : True := True.intro
theorem PySem.W.Fast.tw2299100187453602050 : True := True.intro
theorem PySem.W.Fast.tw11855779276968345524 : True := True.intro
theorem PySem.W.Fast.tw14226139718830050730 : True := True.intro
theorem PySem.W.Fast.tw3560112082101999902 : True := True.intro
theorem PySem.W.Fast.tw16563656050948384740 : True := True.intro
theorem PySem.W.Fast.tw5764054917343080382 : True := True.intro
theorem PySem.W.Fast.tw9452076502423830011 : True := True.intro
theorem PySem.W.Fast.tw12631120618743736643 : True := True.intro
theorem PySem.W.Fast.tw13142815817759001787 : True := True.intro
theorem PySem.W.Fast.tw8010504275418155494 : True := True.intro
theorem PySem.W.Fast.tw13140259007375737481 : True := True.intro
theorem PySem.W.Fast.tw10289123246768323961 : True := True.intro
theorem PySem.W.Fast.tw7814587863932009779 : True := True.intro
theorem PySem.W.Fast.tw3459480193314622130 : True := True.intro
theorem PySem.W.Fast.tw18232239457117293330 : True := True.intro
theorem PySem.W.Fast.tw17913469630437840063 : True := True.intro
theorem PySem.W.Fast.tw9887878901597036132 : True := True.intro
theorem PySem.W.Fast.tw17508679322724626381 : True := True.intro
theorem PySem.W.Fast.tw13160286770361935462 : True := True.intro
theorem PySem.W.Fast.tw11659955102798694813 : True := True.intro
theorem PySem.W.Fast.tw17025297859567265954 : True := True.intro
theorem PySem.W.Fast.tw13557116716790070318 : True := True.intro
theorem PySem.W.Fast.tw18232487483552588851 : True := True.intro
theorem PySem.W.Fast.tw12757435636223736548 : True := True.intro
theorem PySem.W.Fast.tw1929118505195922735 : True := True.intro
theorem PySem.W.Fast.tw2758938914671565434 : True := True.intro
theorem PySem.W.Fast.tw16498571499521847326 : True := True.intro
theorem PySem.W.Fast.tw17267626073033647364 : True := True.intro
theorem PySem.W.Fast.tw3895119145620007953 : True := True.intro
theorem PySem.W.Fast.tw14337528132244801256 : True := True.intro
theorem PySem.W.Fast.tw2944229362301134491 : True := True.intro
theorem PySem.W.Fast.tw4516234024470991974 : True := True.intro
theorem PySem.W.Fast.tw10035414169498976524 : True := True.intro
theorem PySem.W.Fast.tw7651232772121268764 : True := True.intro
theorem PySem.W.Fast.tw5283378996037510637 : True := True.intro
theorem PySem.W.Fast.tw12354263333146559312 : True := True.intro
theorem PySem.W.Fast.tw17404842885721575652 : True := True.intro
theorem PySem.W.Fast.tw7912358686405691396 : True := True.intro
theorem PySem.W.Fast.tw2021294974018107727 : True := True.intro
theorem PySem.W.Fast.tw7188791329836207805 : True := True.intro
theorem PySem.W.Fast.tw15421088219603346923 : True := True.intro
theorem PySem.W.Fast.tw16375416713736096721 : True := True.intro
theorem PySem.W.Fast.tw14034875888944857098 : True := True.intro
theorem PySem.W.Fast.tw12310129849235792917 : True := True.intro
theorem PySem.W.Fast.tw11328130666098796984 : True := True.intro
theorem PySem.W.Fast.tw16056341050623881285 : True := True.intro
theorem PySem.W.Fast.tw4282776891877947275 : True := True.intro
theorem PySem.W.Fast.tw7891159940437691764 : True := True.intro
theorem PySem.W.Fast.tw10733251134877643977 : True := True.intro
theorem PySem.W.Fast.tw9524673252418359561 : True := True.intro
theorem PySem.W.Fast.tw12410700221587331836 : True := True.intro
theorem PySem.W.Fast.tw12287496639734398389 : True := True.intro
theorem PySem.W.Fast.tw2509568250618233811 : True := True.intro
theorem PySem.W.Fast.tw4960920697270383541 : True := True.intro
theorem PySem.W.Fast.tw7032111130755669955 : True := True.intro
theorem PySem.W.Fast.tw12934852180896285250 : True := True.intro
theorem PySem.W.Fast.tw4541847584555909359 : True := True.intro
theorem PySem.W.Fast.tw5918666153120079436 : True := True.intro
theorem PySem.W.Fast.tw14467172560210007192 : True := True.intro
theorem PySem.W.Fast.tw6741973498865349325 : True := True.intro
theorem PySem.W.Fast.tw11018132896893354289 : True := True.intro
theorem PySem.W.Fast.tw1036581767945661469 : True := True.intro
theorem PySem.W.Fast.tw3263837361247298535 : True := True.intro
theorem PySem.W.Fast.tw8290889121567368783 : True := True.intro
theorem PySem.W.Fast.tw16247901797098891314 : True := True.intro
theorem PySem.W.Fast.tw18176038387773062609 : True := True.intro
theorem PySem.W.Fast.tw5853470394709131963 : True := True.intro
theorem PySem.W.Fast.tw2267595965045763670 : True := True.intro
theorem PySem.W.Fast.tw15913394266346236554 : True := True.intro
theorem PySem.W.Fast.tw2649577019748410638 : True := True.intro
theorem PySem.W.Fast.tw16243093263728042434 : True := True.intro
theorem PySem.W.Fast.tw9276175850539151461 : True := True.intro
theorem PySem.W.Fast.tw15836842767678345076 : True := True.intro
theorem PySem.W.Fast.tw15056024837217238090 : True := True.intro
theorem PySem.W.Fast.tw5973167845969089762 : True := True.intro
theorem PySem.W.Fast.tw16729154678881686612 : True := True.intro
theorem PySem.W.Fast.tw10274670233132762263 : True := True.intro
theorem PySem.W.Fast.tw10076697823290325216 : True := True.intro
theorem PySem.W.Fast.tw1359868561945687332 : True := True.intro
theorem PySem.W.Fast.tw16000127845607173400 : True := True.intro
theorem PySem.W.Fast.tw12657746731066450002 : True := True.intro
theorem PySem.W.Fast.tw6501648327307096038 : True := True.intro
theorem PySem.W.Fast.tw16335335174544781661 : True := True.intro
theorem PySem.W.Fast.tw5205219597053439974 : True := True.intro
theorem PySem.W.Fast.tw158042897590265577 : True := True.intro
theorem PySem.W.Fast.tw4629677824749310577 : True := True.intro
theorem PySem.W.Fast.tw5114844437462483146 : True := True.intro
theorem PySem.W.Fast.tw2523993072349044315 : True := True.intro
theorem PySem.W.Fast.tw8223757968710975944 : True := True.intro
theorem PySem.W.Fast.tw4126547477253607799 : True := True.intro
theorem PySem.W.Fast.tw10268332776041487823 : True := True.intro
theorem PySem.W.Fast.tw9116289797307223994 : True := True.intro
theorem PySem.W.Fast.tw6660079877765544017 : True := True.intro
theorem PySem.W.Fast.tw8265538104747989995 : True := True.intro
theorem PySem.W.Fast.tw11928110768210075410 : True := True.intro
theorem PySem.W.Fast.tw16114018510841863406 : True := True.intro
theorem PySem.W.Fast.tw5810882567347253871 : True := True.intro
theorem PySem.W.Fast.tw1059950738981399761 : True := True.intro
theorem PySem.W.Fast.tw2705305895762749514 : True := True.intro
theorem PySem.W.Fast.tw5142869457766510174 : True := True.intro
theorem PySem.W.Fast.tw9099946431197095273 : True := True.intro
theorem PySem.W.Fast.tw5821607549406852866 : True := True.intro
theorem PySem.W.Fast.tw9198692185881173869 : True := True.intro
theorem PySem.W.Fast.tw7265113327199136645 : True := True.intro
theorem PySem.W.Fast.tw7249721021343765085 : True := True.intro
theorem PySem.W.Fast.tw7717757997442987163 : True := True.intro
theorem PySem.W.Fast.tw13595068205189050226 : True := True.intro
theorem PySem.W.Fast.tw6275947096547667292 : True := True.intro
theorem PySem.W.Fast.tw6963430550839414032 : True := True.intro
theorem PySem.W.Fast.tw3772135083114878648 : True := True.intro
theorem PySem.W.Fast.tw11180075180874717479 : True := True.intro
theorem PySem.W.Fast.tw5286859242424508140 : True := True.intro
theorem PySem.W.Fast.tw2635425046866342640 : True := True.intro
theorem PySem.W.Fast.tw15692082336659565918 : True := True.intro
theorem PySem.W.Fast.tw12253579419582140440 : True := True.intro
theorem PySem.W.Fast.tw7248018889604546606 : True := True.intro
theorem PySem.W.Fast.tw166739191091695855 : True := True.intro
theorem PySem.W.Fast.tw10128431636351708774 : True := True.intro
theorem PySem.W.Fast.tw166161454174381767 : True := True.intro
theorem PySem.W.Fast.tw6669794090525300470 : True := True.intro
theorem PySem.W.Fast.tw5237503030302236567 : True := True.intro
theorem PySem.W.Fast.tw15862991906021545867 : True := True.intro
theorem PySem.W.Fast.tw2844586816711478731 : True := True.intro
theorem PySem.W.Fast.tw9650157594097967390 : True := True.intro
theorem PySem.W.Fast.tw4420913356264733879 : True := True.intro
theorem PySem.W.Fast.tw9057158634027136641 : True := True.intro
theorem PySem.W.Fast.tw4990398376176453962 : True := True.intro
theorem PySem.W.Fast.tw10546748204355968972 : True := True.intro
theorem PySem.W.Fast.tw5145703459202571994 : True := True.intro
theorem PySem.W.Fast.tw9222745030772379757 : True := True.intro
theorem PySem.W.Fast.tw14294358614896268983 : True := True.intro
theorem PySem.W.Fast.tw2540009789224260363 : True := True.intro
theorem PySem.W.Fast.tw13561487219622431698 : True := True.intro
theorem PySem.W.Fast.tw16692751964182001384 : True := True.intro
theorem PySem.W.Fast.tw12058136874252068029 : True := True.intro
theorem PySem.W.Fast.tw17724120123918605507 : True := True.intro
theorem PySem.W.Fast.tw10329948717737318185 : True := True.intro
theorem PySem.W.Fast.tw17804883382461221794 : True := True.intro
theorem PySem.W.Fast.tw747061623523754626 : True := True.intro
theorem PySem.W.Fast.tw3134530889262015004 : True := True.intro
theorem PySem.W.Fast.tw7584818460527458278 : True := True.intro
theorem PySem.W.Fast.tw2377520467230023 : True := True.intro
theorem PySem.W.Fast.tw6632364433549192825 : True := True.intro
theorem PySem.W.Fast.tw15060043677442160389 : True := True.intro
theorem PySem.W.Fast.tw1944703119836979650 : True := True.intro
theorem PySem.W.Fast.tw5231059105670234289 : True := True.intro
theorem PySem.W.Fast.tw6816356197715098183 : True := True.intro
theorem PySem.W.Fast.tw12371230753670642794 : True := True.intro
theorem PySem.W.Fast.tw10705893451113534907 : True := True.intro
theorem PySem.W.Fast.tw11849798224706567045 : True := True.intro
theorem PySem.W.Fast.tw12539690039848215732 : True := True.intro
theorem PySem.W.Fast.tw2836909932523478520 : True := True.intro
theorem PySem.W.Fast.tw3518243729034375481 : True := True.intro
theorem PySem.W.Fast.tw9981349011551064653 : True := True.intro
theorem PySem.W.Fast.tw677896707361232678 : True := True.intro
theorem PySem.W.Fast.tw15261600845871158650 : True := True.intro
theorem PySem.W.Fast.tw8167186503612343877 : True := True.intro
theorem PySem.W.Fast.tw3033023637372350683 : True := True.intro
theorem PySem.W.Fast.tw16735089218855261722 : True := True.intro
theorem PySem.W.Fast.tw10979724253953240935 : True := True.intro
theorem PySem.W.Fast.tw10164752618101218684 : True := True.intro
theorem PySem.W.Fast.tw6861804259523924831 : True := True.intro
theorem PySem.W.Fast.tw13680868537191520822 : True := True.intro
theorem PySem.W.Fast.tw6890793570002485232 : True := True.intro
theorem PySem.W.Fast.tw4795233021947475000 : True := True.intro
theorem PySem.W.Fast.tw15471970332533842337 : True := True.intro
theorem PySem.W.Fast.tw17776308037052220141 : True := True.intro
theorem PySem.W.Fast.tw15344834545256454251 : True := True.intro
theorem PySem.W.Fast.tw9900808313296496276 : True := True.intro
theorem PySem.W.Fast.tw152807864096899760 : True := True.intro
theorem PySem.W.Fast.tw5292053105384616529 : True := True.intro
theorem PySem.W.Fast.tw4269195573321392416 : True := True.intro
theorem PySem.W.Fast.tw6373867187990435596 : True := True.intro
theorem PySem.W.Fast.tw898795391646045924 : True := True.intro
theorem PySem.W.Fast.tw6539529317342437200 : True := True.intro
theorem PySem.W.Fast.tw15604781572413209240 : True := True.intro
theorem PySem.W.Fast.tw16549648236389030468 : True := True.intro
theorem PySem.W.Fast.tw2534733217689360850 : True := True.intro
theorem PySem.W.Fast.tw11147524060968469838 : True := True.intro
theorem PySem.W.Fast.tw17905770570892773053 : True := True.intro
theorem PySem.W.Fast.tw10181504825771379439 : True := True.intro
theorem PySem.W.Fast.tw7891709440590248985 : True := True.intro
theorem PySem.W.Fast.tw1664131122311623980 : True := True.intro
theorem PySem.W.Fast.tw3253162768792943984 : True := True.intro
theorem PySem.W.Fast.tw11842501622480867806 : True := True.intro
theorem PySem.W.Fast.tw14808964745286735917 : True := True.intro
theorem PySem.W.Fast.tw17467311316108559149 : True := True.intro
theorem PySem.W.Fast.tw14404698798743277268 : True := True.intro
theorem PySem.W.Fast.tw9937169577267095825 : True := True.intro
theorem PySem.W.Fast.tw8845714376589860891 : True := True.intro
theorem PySem.W.Fast.tw17399231745340990221 : True := True.intro
theorem PySem.W.Fast.tw6296892256278902900 : True := True.intro
theorem PySem.W.Fast.tw1249608039648347694 : True := True.intro
theorem PySem.W.Fast.tw14625515629930714708 : True := True.intro
theorem PySem.W.Fast.tw16993740844289608638 : True := True.intro
theorem PySem.W.Fast.tw1280691967096630578 : True := True.intro
theorem PySem.W.Fast.tw12147292895141668971 : True := True.intro
theorem PySem.W.Fast.tw14477932099666584873 : True := True.intro
theorem PySem.W.Fast.tw7369329802273035157 : True := True.intro
theorem PySem.W.Fast.tw1462781465967633793 : True := True.intro
theorem PySem.W.Fast.tw17567230632645905406 : True := True.intro
theorem PySem.W.Fast.tw13149412154061506436 : True := True.intro
theorem PySem.W.Fast.tw12579523987686515483 : True := True.intro
theorem PySem.W.Fast.tw16089178999394721258 : True := True.intro
theorem PySem.W.Fast.tw8770922073996790068 : True := True.intro
theorem PySem.W.Fast.tw2138445959484697263 : True := True.intro
theorem PySem.W.Fast.tw10177720904661165760 : True := True.intro
theorem PySem.W.Fast.tw15285377835463984137 : True := True.intro
theorem PySem.W.Fast.tw11527522627039432809 : True := True.intro
theorem PySem.W.Fast.tw3535331790219734859 : True := True.intro
theorem PySem.W.Fast.tw2925305811942494441 : True := True.intro
theorem PySem.W.Fast.tw7188465581819976908 : True := True.intro
theorem PySem.W.Fast.tw1666955175014377084 : True := True.intro
theorem PySem.W.Fast.tw11667849763478947389 : True := True.intro
theorem PySem.W.Fast.tw727172150387205919 : True := True.intro
theorem PySem.W.Fast.tw2490281679469275985 : True := True.intro
theorem PySem.W.Fast.tw6773219942427351856 : True := True.intro
theorem PySem.W.Fast.tw16065965331044569818 : True := True.intro
theorem PySem.W.Fast.tw5593847978196347316 : True := True.intro
theorem PySem.W.Fast.tw7931844536551620571 : True := True.intro
theorem PySem.W.Fast.tw16862471629581353463 : True := True.intro
theorem PySem.W.Fast.tw561388767768696338 : True := True.intro
theorem PySem.W.Fast.tw1821592491122509580 : True := True.intro
theorem PySem.W.Fast.tw6918560709170292970 : True := True.intro
theorem PySem.W.Fast.tw13060312172989891207 : True := True.intro
theorem PySem.W.Fast.tw1332086889356909802 : True := True.intro
theorem PySem.W.Fast.tw12191072750465437214 : True := True.intro
theorem PySem.W.Fast.tw15376043707750022959 : True := True.intro
theorem PySem.W.Fast.tw7421136360819463138 : True := True.intro
theorem PySem.W.Fast.tw10139666256763000695 : True := True.intro
theorem PySem.W.Fast.tw16881511827461629214 : True := True.intro
theorem PySem.W.Fast.tw6469250551813100659 : True := True.intro
theorem PySem.W.Fast.tw5225408127133471520 : True := True.intro
theorem PySem.W.Fast.tw7393095126870670132 : True := True.intro
theorem PySem.W.Fast.tw16496798875563357032 : True := True.intro
theorem PySem.W.Fast.tw3327485566761738115 : True := True.intro
theorem PySem.W.Fast.tw10432921879830114569 : True := True.intro
theorem PySem.W.Fast.tw8871705821275602783 : True := True.intro
theorem PySem.W.Fast.tw4865303082137432209 : True := True.intro
theorem PySem.W.Fast.tw6113981862444600585 : True := True.intro
theorem PySem.W.Fast.tw2517780599460442569 : True := True.intro
theorem PySem.W.Fast.tw2113086670612002208 : True := True.intro
theorem PySem.W.Fast.tw4694821015454614940 : True := True.intro
theorem PySem.W.Fast.tw16495803786020885702 : True := True.intro
theorem PySem.W.Fast.tw4105690484043212451 : True := True.intro
theorem PySem.W.Fast.tw17618232537016643383 : True := True.intro
theorem PySem.W.Fast.tw15032914118193911794 : True := True.intro
theorem PySem.W.Fast.tw14604455588755474056 : True := True.intro
theorem PySem.W.Fast.tw14829397895286972959 : True := True.intro
theorem PySem.W.Fast.tw17856838783084749354 : True := True.intro
theorem PySem.W.Fast.tw14878170822407724982 : True := True.intro
theorem PySem.W.Fast.tw11873430852544729694 : True := True.intro
theorem PySem.W.Fast.tw15452508255593798408 : True := True.intro
theorem PySem.W.Fast.tw4005877857323658868 : True := True.intro
theorem PySem.W.Fast.tw1423092496022633588 : True := True.intro
theorem PySem.W.Fast.tw15345132119228879677 : True := True.intro
theorem PySem.W.Fast.tw366552295923268813 : True := True.intro
theorem PySem.W.Fast.tw12659134788660458229 : True := True.intro
theorem PySem.W.Fast.tw5925111557858024085 : True := True.intro
theorem PySem.W.Fast.tw8373896527975639245 : True := True.intro
theorem PySem.W.Fast.tw6577220822566514620 : True := True.intro
theorem PySem.W.Fast.tw16063683685797791579 : True := True.intro
theorem PySem.W.Fast.tw7880446977694438682 : True := True.intro
theorem PySem.W.Fast.tw8665890775594008455 : True := True.intro
theorem PySem.W.Fast.tw12023684847036461972 : True := True.intro
theorem PySem.W.Fast.tw10119635794484598455 : True := True.intro
theorem PySem.W.Fast.tw1493628057440308856 : True := True.intro
theorem PySem.W.Fast.tw3289770951598655262 : True := True.intro
theorem PySem.W.Fast.tw14875836372598984389 : True := True.intro
theorem PySem.W.Fast.tw11871841915917294226 : True := True.intro
theorem PySem.W.Fast.tw16373436417867084402 : True := True.intro
theorem PySem.W.Fast.tw12819584769242940524 : True := True.intro
theorem PySem.W.Fast.tw3120069420313521061 : True := True.intro
theorem PySem.W.Fast.tw7204770742954300792 : True := True.intro
theorem PySem.W.Fast.tw10819339844998202035 : True := True.intro
theorem PySem.W.Fast.tw5532811370260113713 : True := True.intro
theorem PySem.W.Fast.tw12883777564929285237 : True := True.intro
theorem PySem.W.Fast.tw10976303171309285716 : True := True.intro
theorem PySem.W.Fast.tw16174973381909299198 : True := True.intro
theorem PySem.W.Fast.tw17160396871776327378 : True := True.intro
theorem PySem.W.Fast.tw14411983171752710480 : True := True.intro
theorem PySem.W.Fast.tw10973735181491594042 : True := True.intro
theorem PySem.W.Fast.tw9212343861446213240 : True := True.intro
theorem PySem.W.Fast.tw8878408887700319496 : True := True.intro
theorem PySem.W.Fast.tw9573705777402114447 : True := True.intro
theorem PySem.W.Fast.tw14990725941884732524 : True := True.intro
theorem PySem.W.Fast.tw15420749866807059695 : True := True.intro
theorem PySem.W.Fast.tw16086057696124114940 : True := True.intro
theorem PySem.W.Fast.tw12301217040912004873 : True := True.intro
theorem PySem.W.Fast.tw16004109745333826937 : True := True.intro
theorem PySem.W.Fast.tw13488594074746194339 : True := True.intro
theorem PySem.W.Fast.tw13865539690714556536 : True := True.intro
theorem PySem.W.Fast.tw2517000424662003536 : True := True.intro
theorem PySem.W.Fast.tw14234783584489316831 : True := True.intro
theorem PySem.W.Fast.tw13531229896177954225 : True := True.intro
theorem PySem.W.Fast.tw1801020468262511965 : True := True.intro
theorem PySem.W.Fast.tw14908870790177819632 : True := True.intro
theorem PySem.W.Fast.tw10034730714988537720 : True := True.intro
theorem PySem.W.Fast.tw723104009632070825 : True := True.intro
theorem PySem.W.Fast.tw7492293762187131034 : True := True.intro
theorem PySem.W.Fast.tw18268246470609533838 : True := True.intro
theorem PySem.W.Fast.tw3299607651433291707 : True := True.intro
theorem PySem.W.Fast.tw17437709773222396778 : True := True.intro
theorem PySem.W.Fast.tw10147212645780919689 : True := True.intro
theorem PySem.W.Fast.tw2848414430566467402 : True := True.intro
theorem PySem.W.Fast.tw87016414833784122 : True := True.intro
theorem PySem.W.Fast.tw6740192405895115757 : True := True.intro
theorem PySem.W.Fast.tw13145105132445618064 : True := True.intro
theorem PySem.W.Fast.tw14632846236735490027 : True := True.intro
theorem PySem.W.Fast.tw2358086844753420731 : True := True.intro
theorem PySem.W.Fast.tw12226419740058347768 : True := True.intro
theorem PySem.W.Fast.tw16409685936722896139 : True := True.intro
theorem PySem.W.Fast.tw10751735245084941288 : True := True.intro
theorem PySem.W.Fast.tw5600297566332312637 : True := True.intro
theorem PySem.W.Fast.tw3423532781977887219 : True := True.intro
theorem PySem.W.Fast.tw12291033706439534305 : True := True.intro
theorem PySem.W.Fast.tw10295634926963190667 : True := True.intro
theorem PySem.W.Fast.tw11344490808840112143 : True := True.intro
theorem PySem.W.Fast.tw14360764643030497371 : True := True.intro
theorem PySem.W.Fast.tw678175888255696921 : True := True.intro
theorem PySem.W.Fast.tw12938060788131125549 : True := True.intro
theorem PySem.W.Fast.tw5100212290902834473 : True := True.intro
theorem PySem.W.Fast.tw9495152830347639018 : True := True.intro
theorem PySem.W.Fast.tw4145568474438079929 : True := True.intro
theorem PySem.W.Fast.tw7211268776374019205 : True := True.intro
theorem PySem.W.Fast.tw939714236548594117 : True := True.intro
theorem PySem.W.Fast.tw17609259177895701057 : True := True.intro
theorem PySem.W.Fast.tw9260171090634876641 : True := True.intro
theorem PySem.W.Fast.tw1423512011085057003 : True := True.intro
theorem PySem.W.Fast.tw7438682813501002423 : True := True.intro
theorem PySem.W.Fast.tw337355953990982817 : True := True.intro
theorem PySem.W.Fast.tw9039046844142526494 : True := True.intro
theorem PySem.W.Fast.tw9908982113339508969 : True := True.intro
theorem PySem.W.Fast.tw647380527649937953 : True := True.intro
theorem PySem.W.Fast.tw11069077409377521863 : True := True.intro
theorem PySem.W.Fast.tw2385276491043690791 : True := True.intro
theorem PySem.W.Fast.tw18168409193043905162 : True := True.intro
theorem PySem.W.Fast.tw16758656670300770120 : True := True.intro
theorem PySem.W.Fast.tw11109412393221399364 : True := True.intro
theorem PySem.W.Fast.tw1915591488386689595 : True := True.intro
theorem PySem.W.Fast.tw15051006716649450462 : True := True.intro
theorem PySem.W.Fast.tw14271198376540530131 : True := True.intro
theorem PySem.W.Fast.tw7526227936730718186 : True := True.intro
theorem PySem.W.Fast.tw11819517646838000131 : True := True.intro
theorem PySem.W.Fast.tw1405408761922533085 : True := True.intro
theorem PySem.W.Fast.tw18267356681937662935 : True := True.intro
theorem PySem.W.Fast.tw9545710840282988393 : True := True.intro
theorem PySem.W.Fast.tw6099466396015109368 : True := True.intro
theorem PySem.W.Fast.tw9637936897657967114 : True := True.intro
theorem PySem.W.Fast.tw8263737932854875866 : True := True.intro
theorem PySem.W.Fast.tw7556222306179522305 : True := True.intro
theorem PySem.W.Fast.tw13544731807125035768 : True := True.intro
theorem PySem.W.Fast.tw13285738282311807861 : True := True.intro
theorem PySem.W.Fast.tw3741190473946025132 : True := True.intro
theorem PySem.W.Fast.tw13380080074438981221 : True := True.intro
theorem PySem.W.Fast.tw1402426526338437186 : True := True.intro
theorem PySem.W.Fast.tw8306035018068209514 : True := True.intro
theorem PySem.W.Fast.tw6854114029469652275 : True := True.intro
theorem PySem.W.Fast.tw8890917070409668881 : True := True.intro
theorem PySem.W.Fast.tw6394616516106751485 : True := True.intro
theorem PySem.W.Fast.tw8241043963368956440 : True := True.intro
theorem PySem.W.Fast.tw16750649939184047657 : True := True.intro
theorem PySem.W.Fast.tw7082978843467652389 : True := True.intro
theorem PySem.W.Fast.tw15746884613800137394 : True := True.intro
theorem PySem.W.Fast.tw11522693756643611403 : True := True.intro
theorem PySem.W.Fast.tw13844221904608331221 : True := True.intro
theorem PySem.W.Fast.tw14238209787354363891 : True := True.intro
theorem PySem.W.Fast.tw8131171912287165627 : True := True.intro
theorem PySem.W.Fast.tw7591132552194210719 : True := True.intro
theorem PySem.W.Fast.tw17371230689155425884 : True := True.intro
theorem PySem.W.Fast.tw6415058698651817493 : True := True.intro
theorem PySem.W.Fast.tw2368711390679723332 : True := True.intro
theorem PySem.W.Fast.tw15598766301400457563 : True := True.intro
theorem PySem.W.Fast.tw17502710137584184220 : True := True.intro
theorem PySem.W.Fast.tw7306639936691139064 : True := True.intro
theorem PySem.W.Fast.tw1720178713931068811 : True := True.intro
theorem PySem.W.Fast.tw2333819456668337563 : True := True.intro
theorem PySem.W.Fast.tw9157843306235242717 : True := True.intro
theorem PySem.W.Fast.tw13025691735512885192 : True := True.intro
theorem PySem.W.Fast.tw17880419087119662810 : True := True.intro
theorem PySem.W.Fast.tw6009155841641807242 : True := True.intro
theorem PySem.W.Fast.tw14609079717752467397 : True := True.intro
theorem PySem.W.Fast.tw13142361434556409632 : True := True.intro
theorem PySem.W.Fast.tw7102371904976257027 : True := True.intro
theorem PySem.W.Fast.tw8675516025984374980 : True := True.intro
theorem PySem.W.Fast.tw16974636932143935850 : True := True.intro
theorem PySem.W.Fast.tw4153834873138022651 : True := True.intro
theorem PySem.W.Fast.tw85395331042715661 : True := True.intro
theorem PySem.W.Fast.tw15201844200307117647 : True := True.intro
theorem PySem.W.Fast.tw287083536193650091 : True := True.intro
theorem PySem.W.Fast.tw15274097195381216638 : True := True.intro
theorem PySem.W.Fast.tw12139606044778147392 : True := True.intro
theorem PySem.W.Fast.tw3783702376739143524 : True := True.intro
theorem PySem.W.Fast.tw10947913321624752368 : True := True.intro
theorem PySem.W.Fast.tw2852315451564367075 : True := True.intro
theorem PySem.W.Fast.tw6530658694344069614 : True := True.intro
theorem PySem.W.Fast.tw7967137590506504644 : True := True.intro
theorem PySem.W.Fast.tw4916789021566105265 : True := True.intro
theorem PySem.W.Fast.tw12651938082595140200 : True := True.intro
theorem PySem.W.Fast.tw3114658215813863619 : True := True.intro
theorem PySem.W.Fast.tw1499035262461175614 : True := True.intro
theorem PySem.W.Fast.tw8459535475522082880 : True := True.intro
theorem PySem.W.Fast.tw13209078860353492435 : True := True.intro
theorem PySem.W.Fast.tw256881580662384387 : True := True.intro
theorem PySem.W.Fast.tw4457254878922218079 : True := True.intro
theorem PySem.W.Fast.tw17917347010656525862 : True := True.intro
theorem PySem.W.Fast.tw17581260785465621785 : True := True.intro
theorem PySem.W.Fast.tw470622250468675652 : True := True.intro
theorem PySem.W.Fast.tw10408861906847490678 : True := True.intro
theorem PySem.W.Fast.tw8772732107950841576 : True := True.intro
theorem PySem.W.Fast.tw11318190483007209612 : True := True.intro
theorem PySem.W.Fast.tw6812207808191598480 : True := True.intro
theorem PySem.W.Fast.tw2768991992964313211 : True := True.intro
theorem PySem.W.Fast.tw16043844125314290554 : True := True.intro
theorem PySem.W.Fast.tw13761410163163742538 : True := True.intro
theorem PySem.W.Fast.tw3747655205991918063 : True := True.intro
theorem PySem.W.Fast.tw13107858411467589440 : True := True.intro
theorem PySem.W.Fast.tw4014819571525192233 : True := True.intro
theorem PySem.W.Fast.tw7025058865633578540 : True := True.intro
theorem PySem.W.Fast.tw1159347832673004849 : True := True.intro
theorem PySem.W.Fast.tw8854127626932092717 : True := True.intro
theorem PySem.W.Fast.tw6239570762280197753 : True := True.intro
theorem PySem.W.Fast.tw16727687150075008277 : True := True.intro
theorem PySem.W.Fast.tw8738437749679874086 : True := True.intro
theorem PySem.W.Fast.tw6274164973889775939 : True := True.intro
theorem PySem.W.Fast.tw3979498281218363019 : True := True.intro
theorem PySem.W.Fast.tw4901653780771820421 : True := True.intro
theorem PySem.W.Fast.tw4090348011222127466 : True := True.intro
theorem PySem.W.Fast.tw11267666331430195568 : True := True.intro
theorem PySem.W.Fast.tw3779379726653094459 : True := True.intro
theorem PySem.W.Fast.tw12609385839430743727 : True := True.intro
theorem PySem.W.Fast.tw16718458887560358112 : True := True.intro
theorem PySem.W.Fast.tw1708023052387287806 : True := True.intro
theorem PySem.W.Fast.tw16512495268713059713 : True := True.intro
theorem PySem.W.Fast.tw10858670315989593969 : True := True.intro
theorem PySem.W.Fast.tw7558790951950690304 : True := True.intro
theorem PySem.W.Fast.tw17304541379421166393 : True := True.intro
theorem PySem.W.Fast.tw6492568014464396426 : True := True.intro
theorem PySem.W.Fast.tw15058552967520966391 : True := True.intro
theorem PySem.W.Fast.tw8858245859594533226 : True := True.intro
theorem PySem.W.Fast.tw16578182641410534891 : True := True.intro
theorem PySem.W.Fast.tw6754686383958477983 : True := True.intro
theorem PySem.W.Fast.tw9962070852952334930 : True := True.intro
theorem PySem.W.Fast.tw14926963243744332441 : True := True.intro
theorem PySem.W.Fast.tw314578361859553002 : True := True.intro
theorem PySem.W.Fast.tw7226731247258088733 : True := True.intro
theorem PySem.W.Fast.tw2512979357678343146 : True := True.intro
theorem PySem.W.Fast.tw12875030475883600107 : True := True.intro
theorem PySem.W.Fast.tw16538380459071459280 : True := True.intro
theorem PySem.W.Fast.tw8071410115537016870 : True := True.intro
theorem PySem.W.Fast.tw17312382948548303820 : True := True.intro
theorem PySem.W.Fast.tw1012890362731367411 : True := True.intro
theorem PySem.W.Fast.tw4961756656042045068 : True := True.intro
theorem PySem.W.Fast.tw7778091116641531025 : True := True.intro
theorem PySem.W.Fast.tw14504744969499946314 : True := True.intro
theorem PySem.W.Fast.tw792775819545182786 : True := True.intro
theorem PySem.W.Fast.tw16596950991514503734 : True := True.intro
theorem PySem.W.Fast.tw12463190822192280900 : True := True.intro
theorem PySem.W.Fast.tw17322703106723943964 : True := True.intro
theorem PySem.W.Fast.tw7757447084392693933 : True := True.intro
theorem PySem.W.Fast.tw16838334117024603071 : True := True.intro
theorem PySem.W.Fast.tw3189150706414566383 : True := True.intro
theorem PySem.W.Fast.tw11370900041535898185 : True := True.intro
theorem PySem.W.Fast.tw6781226453704505711 : True := True.intro
theorem PySem.W.Fast.tw10354714958826537323 : True := True.intro
theorem PySem.W.Fast.tw7618053687079927202 : True := True.intro
theorem PySem.W.Fast.tw4745755667891343091 : True := True.intro
theorem PySem.W.Fast.tw8280022097456384929 : True := True.intro
theorem PySem.W.Fast.tw13838321221594963795 : True := True.intro
theorem PySem.W.Fast.tw7865573326559474455 : True := True.intro
theorem PySem.W.Fast.tw17283095575672919844 : True := True.intro
theorem PySem.W.Fast.tw4227605084444291711 : True := True.intro
theorem PySem.W.Fast.tw11987629657265922883 : True := True.intro
theorem PySem.W.Fast.tw10803397855783837489 : True := True.intro
theorem PySem.W.Fast.tw16630685530106722788 : True := True.intro
theorem PySem.W.Fast.tw9791931311098274562 : True := True.intro
theorem PySem.W.Fast.tw5027825650710025184 : True := True.intro
theorem PySem.W.Fast.tw3068196495396476009 : True := True.intro
theorem PySem.W.Fast.tw15003593040043091331 : True := True.intro
theorem PySem.W.Fast.tw11687417035632854011 : True := True.intro
theorem PySem.W.Fast.tw4213773723113753069 : True := True.intro
theorem PySem.W.Fast.tw12880973012526921017 : True := True.intro
theorem PySem.W.Fast.tw5635808386659890306 : True := True.intro
theorem PySem.W.Fast.tw11775106433102203964 : True := True.intro
theorem PySem.W.Fast.tw10225487494630255905 : True := True.intro
theorem PySem.W.Fast.tw1256742977002845347 : True := True.intro
theorem PySem.W.Fast.tw16574526107413449359 : True := True.intro
theorem PySem.W.Fast.tw935212580665895829 : True := True.intro
theorem PySem.W.Fast.tw10349182965792311294 : True := True.intro
theorem PySem.W.Fast.tw11116386113226126225 : True := True.intro
theorem PySem.W.Fast.tw7447213620000435816 : True := True.intro
theorem PySem.W.Fast.tw247656984997699993 : True := True.intro
theorem PySem.W.Fast.tw6973420533770783155 : True := True.intro
theorem PySem.W.Fast.tw12547817356083063605 : True := True.intro
theorem PySem.W.Fast.tw15283025661879759529 : True := True.intro
theorem PySem.W.Fast.tw8240677747426457776 : True := True.intro
theorem PySem.W.Fast.tw17880125621991276030 : True := True.intro
theorem PySem.W.Fast.tw16579139361068979788 : True := True.intro
theorem PySem.W.Fast.tw7442552504964123720 : True := True.intro
theorem PySem.W.Fast.tw4407932835384851566 : True := True.intro
theorem PySem.W.Fast.tw17097592655363660758 : True := True.intro
theorem PySem.W.Fast.tw13569792004863447184 : True := True.intro
theorem PySem.W.Fast.tw8848155677582495551 : True := True.intro
theorem PySem.W.Fast.tw15589619407758803278 : True := True.intro
theorem PySem.W.Fast.tw6469691384524477695 : True := True.intro
theorem PySem.W.Fast.tw15627966446703713958 : True := True.intro
theorem PySem.W.Fast.tw4806012545970643002 : True := True.intro
theorem PySem.W.Fast.tw9045555958956823260 : True := True.intro
theorem PySem.W.Fast.tw7798243771042291563 : True := True.intro
theorem PySem.W.Fast.tw2144414932143317016 : True := True.intro
theorem PySem.W.Fast.tw4978432191615858328 : True := True.intro
theorem PySem.W.Fast.tw2966533788721393031 : True := True.intro
theorem PySem.W.Fast.tw9453269354863049657 : True := True.intro
theorem PySem.W.Fast.tw18258112543428039846 : True := True.intro
theorem PySem.W.Fast.tw6490813737902776676 : True := True.intro
theorem PySem.W.Fast.tw7536654894708338940 : True := True.intro
theorem PySem.W.Fast.tw8748913058526830459 : True := True.intro
theorem PySem.W.Fast.tw4282709517613028193 : True := True.intro
theorem PySem.W.Fast.tw4182769561129239011 : True := True.intro
theorem PySem.W.Fast.tw18437219808741582741 : True := True.intro
theorem PySem.W.Fast.tw15855225322764241278 : True := True.intro
theorem PySem.W.Fast.tw11399495631222277387 : True := True.intro
theorem PySem.W.Fast.tw5185126749211143544 : True := True.intro
theorem PySem.W.Fast.tw10192559300432955033 : True := True.intro
theorem PySem.W.Fast.tw136518940112696163 : True := True.intro
theorem PySem.W.Fast.tw424044150966606696 : True := True.intro
theorem PySem.W.Fast.tw9669982698000063139 : True := True.intro
theorem PySem.W.Fast.tw10329709493711964477 : True := True.intro
theorem PySem.W.Fast.tw8487165091109988516 : True := True.intro
theorem PySem.W.Fast.tw6729144559016932080 : True := True.intro
theorem PySem.W.Fast.tw1219571853026009969 : True := True.intro
theorem PySem.W.Fast.tw15450675378804357576 : True := True.intro
theorem PySem.W.Fast.tw1083637629454735408 : True := True.intro
theorem PySem.W.Fast.tw5640247612953607629 : True := True.intro
theorem PySem.W.Fast.tw11176628090856170088 : True := True.intro
theorem PySem.W.Fast.tw18049098165884466055 : True := True.intro
theorem PySem.W.Fast.tw5026374745667953042 : True := True.intro
theorem PySem.W.Fast.tw10632150635969409518 : True := True.intro
theorem PySem.W.Fast.tw18287969434633708762 : True := True.intro
theorem PySem.W.Fast.tw7583927946253741489 : True := True.intro
theorem PySem.W.Fast.tw4843120998779613243 : True := True.intro
theorem PySem.W.Fast.tw9339150218584304452 : True := True.intro
theorem PySem.W.Fast.tw6753611086310861834 : True := True.intro
theorem PySem.W.Fast.tw16929411512278483072 : True := True.intro
theorem PySem.W.Fast.tw11585608058162114657 : True := True.intro
theorem PySem.W.Fast.tw5525650815481282334 : True := True.intro
theorem PySem.W.Fast.tw4471878199456739363 : True := True.intro
theorem PySem.W.Fast.tw2064368501336156607 : True := True.intro
theorem PySem.W.Fast.tw16602598766874641166 : True := True.intro
theorem PySem.W.Fast.tw12475991413208275478 : True := True.intro
theorem PySem.W.Fast.tw1920592733083815372 : True := True.intro
theorem PySem.W.Fast.tw2382593879614493436 : True := True.intro
theorem PySem.W.Fast.tw2509249122335350707 : True := True.intro
theorem PySem.W.Fast.tw4934534268670057310 : True := True.intro
theorem PySem.W.Fast.tw2620722101171285511 : True := True.intro
theorem PySem.W.Fast.tw14282556371965725219 : True := True.intro
theorem PySem.W.Fast.tw7722830123052899457 : True := True.intro
theorem PySem.W.Fast.tw8384011683234434602 : True := True.intro
theorem PySem.W.Fast.tw1065547942492690708 : True := True.intro
theorem PySem.W.Fast.tw10105514799248732621 : True := True.intro
theorem PySem.W.Fast.tw17975219067250078074 : True := True.intro
theorem PySem.W.Fast.tw13285005588092191153 : True := True.intro
theorem PySem.W.Fast.tw2147565214260040841 : True := True.intro
theorem PySem.W.Fast.tw13416027222091560677 : True := True.intro
theorem PySem.W.Fast.tw15121073112685926338 : True := True.intro
theorem PySem.W.Fast.tw15727768228284637545 : True := True.intro
theorem PySem.W.Fast.tw14164503702053607212 : True := True.intro
theorem PySem.W.Fast.tw9441160695235736686 : True := True.intro
theorem PySem.W.Fast.tw2022328415664583595 : True := True.intro
theorem PySem.W.Fast.tw11892259892597397919 : True := True.intro
theorem PySem.W.Fast.tw6718855813545168107 : True := True.intro
theorem PySem.W.Fast.tw2416635065282842435 : True := True.intro
theorem PySem.W.Fast.tw11932299032384365298 : True := True.intro
theorem PySem.W.Fast.tw1473954300463091473 : True := True.intro
theorem PySem.W.Fast.tw9921538759154166611 : True := True.intro
theorem PySem.W.Fast.tw8290128183248208427 : True := True.intro
theorem PySem.W.Fast.tw17938137174026673573 : True := True.intro
theorem PySem.W.Fast.tw17741804979200216208 : True := True.intro
theorem PySem.W.Fast.tw2800413652147554270 : True := True.intro
theorem PySem.W.Fast.tw5128807688712711883 : True := True.intro
theorem PySem.W.Fast.tw1205435353188948632 : True := True.intro
theorem PySem.W.Fast.tw11157021792679527565 : True := True.intro
theorem PySem.W.Fast.tw13613642213918015173 : True := True.intro
theorem PySem.W.Fast.tw11027451756370037996 : True := True.intro
theorem PySem.W.Fast.tw12848902185647044427 : True := True.intro
theorem PySem.W.Fast.tw3492358238095852742 : True := True.intro
theorem PySem.W.Fast.tw1458401543248281942 : True := True.intro
theorem PySem.W.Fast.tw5770458750737570390 : True := True.intro
theorem PySem.W.Fast.tw1527193136877299072 : True := True.intro
theorem PySem.W.Fast.tw7269998014898512270 : True := True.intro
theorem PySem.W.Fast.tw15263832329299233228 : True := True.intro
theorem PySem.W.Fast.tw15366122319018690177 : True := True.intro
theorem PySem.W.Fast.tw8562261792192448359 : True := True.intro
theorem PySem.W.Fast.tw1334345676282434678 : True := True.intro
theorem PySem.W.Fast.tw10527053354946210519 : True := True.intro
theorem PySem.W.Fast.tw12415830092681383207 : True := True.intro
theorem PySem.W.Fast.tw13261312702762332122 : True := True.intro
theorem PySem.W.Fast.tw10432664796565283417 : True := True.intro
theorem PySem.W.Fast.tw8907153378788771950 : True := True.intro
theorem PySem.W.Fast.tw12124743520054363347 : True := True.intro
theorem PySem.W.Fast.tw498187968976308054 : True := True.intro
theorem PySem.W.Fast.tw17924471579328199431 : True := True.intro
theorem PySem.W.Fast.tw12218935828137711636 : True := True.intro
theorem PySem.W.Fast.tw16605535898536707663 : True := True.intro
theorem PySem.W.Fast.tw17855546994483813161 : True := True.intro
theorem PySem.W.Fast.tw18335050020871895607 : True := True.intro
theorem PySem.W.Fast.tw8106285618252944036 : True := True.intro
theorem PySem.W.Fast.tw8640110727375993206 : True := True.intro
theorem PySem.W.Fast.tw17667454592147754135 : True := True.intro
theorem PySem.W.Fast.tw9632267413828817633 : True := True.intro
theorem PySem.W.Fast.tw15429941189714472710 : True := True.intro
theorem PySem.W.Fast.tw16433971242936863592 : True := True.intro
theorem PySem.W.Fast.tw670564877266472069 : True := True.intro
theorem PySem.W.Fast.tw3870634078391304651 : True := True.intro
theorem PySem.W.Fast.tw7306673822788564147 : True := True.intro
theorem PySem.W.Fast.tw13416253602930017760 : True := True.intro
theorem PySem.W.Fast.tw6065021397435505022 : True := True.intro
theorem PySem.W.Fast.tw12263922997405352663 : True := True.intro
theorem PySem.W.Fast.tw15210545145684384476 : True := True.intro
theorem PySem.W.Fast.tw11881549837275041020 : True := True.intro
theorem PySem.W.Fast.tw3887851150788990308 : True := True.intro
theorem PySem.W.Fast.tw5295292218588502908 : True := True.intro
theorem PySem.W.Fast.tw15836512657457573350 : True := True.intro
theorem PySem.W.Fast.tw11210732877384641402 : True := True.intro
theorem PySem.W.Fast.tw1457689536011144195 : True := True.intro
theorem PySem.W.Fast.tw1335915704304035344 : True := True.intro
theorem PySem.W.Fast.tw4446319228102609983 : True := True.intro
theorem PySem.W.Fast.tw2928480418346167225 : True := True.intro
theorem PySem.W.Fast.tw6962754932064762253 : True := True.intro
theorem PySem.W.Fast.tw10409931849000296985 : True := True.intro
theorem PySem.W.Fast.tw17016400400223504157 : True := True.intro
theorem PySem.W.Fast.tw11589673426172476995 : True := True.intro
theorem PySem.W.Fast.tw12731698075175080792 : True := True.intro
theorem PySem.W.Fast.tw17124041026134856049 : True := True.intro
theorem PySem.W.Fast.tw1397963278198975842 : True := True.intro
theorem PySem.W.Fast.tw6050556675671369623 : True := True.intro
theorem PySem.W.Fast.tw13111902274202379988 : True := True.intro
theorem PySem.W.Fast.tw11346990586358961971 : True := True.intro
theorem PySem.W.Fast.tw12351048794219633054 : True := True.intro
theorem PySem.W.Fast.tw12280279127855914835 : True := True.intro
theorem PySem.W.Fast.tw1853000826332576991 : True := True.intro
theorem PySem.W.Fast.tw8927796501436227171 : True := True.intro
theorem PySem.W.Fast.tw6219001155801895074 : True := True.intro
theorem PySem.W.Fast.tw9106374938928827809 : True := True.intro
theorem PySem.W.Fast.tw7913512264989008170 : True := True.intro
theorem PySem.W.Fast.tw12295002085582335280 : True := True.intro
theorem PySem.W.Fast.tw8245367260410846757 : True := True.intro
theorem PySem.W.Fast.tw4449542549441094225 : True := True.intro
theorem PySem.W.Fast.tw16033422751042252841 : True := True.intro
theorem PySem.W.Fast.tw15594507285095834823 : True := True.intro
theorem PySem.W.Fast.tw10027514264341612720 : True := True.intro
theorem PySem.W.Fast.tw9699780514278742142 : True := True.intro
theorem PySem.W.Fast.tw17165157765310229597 : True := True.intro
theorem PySem.W.Fast.tw6498543630349713110 : True := True.intro
theorem PySem.W.Fast.tw8439252969220476130 : True := True.intro
theorem PySem.W.Fast.tw1423552258305214391 : True := True.intro
theorem PySem.W.Fast.tw9428655405636487788 : True := True.intro
theorem PySem.W.Fast.tw2489252389090942303 : True := True.intro
theorem PySem.W.Fast.tw17701196216853425450 : True := True.intro
theorem PySem.W.Fast.tw10411364359474290876 : True := True.intro
theorem PySem.W.Fast.tw9182363737036142178 : True := True.intro
theorem PySem.W.Fast.tw10122572156606690883 : True := True.intro
theorem PySem.W.Fast.tw15957997341192175839 : True := True.intro
theorem PySem.W.Fast.tw2186989311230968924 : True := True.intro
theorem PySem.W.Fast.tw17834989102877269915 : True := True.intro
theorem PySem.W.Fast.tw18081975250424807761 : True := True.intro
theorem PySem.W.Fast.tw13243151325497646695 : True := True.intro
theorem PySem.W.Fast.tw13408031638040291467 : True := True.intro
theorem PySem.W.Fast.tw17327566395941807466 : True := True.intro
theorem PySem.W.Fast.tw9740333891604306935 : True := True.intro
theorem PySem.W.Fast.tw8327313107665282530 : True := True.intro
theorem PySem.W.Fast.tw6073376996463405879 : True := True.intro
theorem PySem.W.Fast.tw10578595409092488498 : True := True.intro
theorem PySem.W.Fast.tw11214790273063278896 : True := True.intro
theorem PySem.W.Fast.tw5603241113789583226 : True := True.intro
theorem PySem.W.Fast.tw2783156698463671369 : True := True.intro
theorem PySem.W.Fast.tw1237569599612480877 : True := True.intro
theorem PySem.W.Fast.tw11580575226946042140 : True := True.intro
theorem PySem.W.Fast.tw15080231980264113537 : True := True.intro
theorem PySem.W.Fast.tw4524742321745781311 : True := True.intro
theorem PySem.W.Fast.tw4701148813187304746 : True := True.intro
theorem PySem.W.Fast.tw3408385602519447054 : True := True.intro
theorem PySem.W.Fast.tw452159096740732231 : True := True.intro
theorem PySem.W.Fast.tw5026924893474857017 : True := True.intro
theorem PySem.W.Fast.tw4240856919188755496 : True := True.intro
theorem PySem.W.Fast.tw4520837570619657772 : True := True.intro
theorem PySem.W.Fast.tw7163690787801657855 : True := True.intro
theorem PySem.W.Fast.tw11410534055244414312 : True := True.intro
theorem PySem.W.Fast.tw5554718475942466999 : True := True.intro
theorem PySem.W.Fast.tw3863698730479566185 : True := True.intro
theorem PySem.W.Fast.tw4071732102051250909 : True := True.intro
theorem PySem.W.Fast.tw15759658060349353684 : True := True.intro
theorem PySem.W.Fast.tw5527878442180062909 : True := True.intro
theorem PySem.W.Fast.tw14668219983114004237 : True := True.intro
theorem PySem.W.Fast.tw13621814964486510013 : True := True.intro
theorem PySem.W.Fast.tw18004180266054123296 : True := True.intro
theorem PySem.W.Fast.tw270327956873675364 : True := True.intro
theorem PySem.W.Fast.tw16613219003633568783 : True := True.intro
theorem PySem.W.Fast.tw1928103451678690282 : True := True.intro
theorem PySem.W.Fast.tw9151020481016536404 : True := True.intro
theorem PySem.W.Fast.tw7056185830532379022 : True := True.intro
theorem PySem.W.Fast.tw9923191417187446739 : True := True.intro
theorem PySem.W.Fast.tw15760575908771115174 : True := True.intro
theorem PySem.W.Fast.tw3492376490358078870 : True := True.intro
theorem PySem.W.Fast.tw1123097776980275050 : True := True.intro
theorem PySem.W.Fast.tw15730072000739187120 : True := True.intro
theorem PySem.W.Fast.tw16641083379944351558 : True := True.intro
theorem PySem.W.Fast.tw12914635161699359145 : True := True.intro
theorem PySem.W.Fast.tw10312887809991498840 : True := True.intro
theorem PySem.W.Fast.tw6127005517930367217 : True := True.intro
theorem PySem.W.Fast.tw18033174894635615071 : True := True.intro
theorem PySem.W.Fast.tw6850450992799808935 : True := True.intro
theorem PySem.W.Fast.tw12205530042568763713 : True := True.intro
theorem PySem.W.Fast.tw9298022433842852138 : True := True.intro
theorem PySem.W.Fast.tw17130320980534205377 : True := True.intro
theorem PySem.W.Fast.tw5050162165310410131 : True := True.intro
theorem PySem.W.Fast.tw1424909027510584333 : True := True.intro
theorem PySem.W.Fast.tw4490672065511250613 : True := True.intro
theorem PySem.W.Fast.tw11072970189661160451 : True := True.intro
theorem PySem.W.Fast.tw7452489505512536996 : True := True.intro
theorem PySem.W.Fast.tw16154979558294423843 : True := True.intro
theorem PySem.W.Fast.tw529968600813940624 : True := True.intro
theorem PySem.W.Fast.tw9619557474489363805 : True := True.intro
theorem PySem.W.Fast.tw2727834702522811370 : True := True.intro
theorem PySem.W.Fast.tw785272344043669332 : True := True.intro
theorem PySem.W.Fast.tw17104042231524807319 : True := True.intro
theorem PySem.W.Fast.tw5616165958521154682 : True := True.intro
theorem PySem.W.Fast.tw1668412867702838975 : True := True.intro
theorem PySem.W.Fast.tw2240359239094984285 : True := True.intro
theorem PySem.W.Fast.tw17882716695945642308 : True := True.intro
theorem PySem.W.Fast.tw17214605693982898137 : True := True.intro
theorem PySem.W.Fast.tw2091663053883610987 : True := True.intro
theorem PySem.W.Fast.tw9488398129159243717 : True := True.intro
theorem PySem.W.Fast.tw4824397168939152088 : True := True.intro
theorem PySem.W.Fast.tw14289410451788150153 : True := True.intro
theorem PySem.W.Fast.tw6559688398259392511 : True := True.intro
theorem PySem.W.Fast.tw12867190622505344510 : True := True.intro
theorem PySem.W.Fast.tw8987955652217961256 : True := True.intro
theorem PySem.W.Fast.tw8221080873830931487 : True := True.intro
theorem PySem.W.Fast.tw776311876248871622 : True := True.intro
theorem PySem.W.Fast.tw4718473498526605533 : True := True.intro
theorem PySem.W.Fast.tw13531781657419227393 : True := True.intro
theorem PySem.W.Fast.tw11746576467920871034 : True := True.intro
theorem PySem.W.Fast.tw13447020742157413325 : True := True.intro
theorem PySem.W.Fast.tw7864790485753515547 : True := True.intro
theorem PySem.W.Fast.tw9588248825110046592 : True := True.intro
theorem PySem.W.Fast.tw6635231465814199558 : True := True.intro
theorem PySem.W.Fast.tw5562919992226454049 : True := True.intro
theorem PySem.W.Fast.tw15669320720131466316 : True := True.intro
theorem PySem.W.Fast.tw6871357800668490730 : True := True.intro
theorem PySem.W.Fast.tw18241188117835792631 : True := True.intro
theorem PySem.W.Fast.tw5831540429207996376 : True := True.intro
theorem PySem.W.Fast.tw13759366633172852602 : True := True.intro
theorem PySem.W.Fast.tw14132957471415452682 : True := True.intro
theorem PySem.W.Fast.tw3138433184808697225 : True := True.intro
theorem PySem.W.Fast.tw3175435653923657486 : True := True.intro
theorem PySem.W.Fast.tw15970900305110601716 : True := True.intro
theorem PySem.W.Fast.tw8987776705316937440 : True := True.intro
theorem PySem.W.Fast.tw6532527896432667377 : True := True.intro
theorem PySem.W.Fast.tw10561223766560214538 : True := True.intro
theorem PySem.W.Fast.tw10581052193855342556 : True := True.intro
theorem PySem.W.Fast.tw13711776453385051200 : True := True.intro
theorem PySem.W.Fast.tw10240374218877521152 : True := True.intro
theorem PySem.W.Fast.tw13972651909167512610 : True := True.intro
theorem PySem.W.Fast.tw6066012895656269135 : True := True.intro
theorem PySem.W.Fast.tw337707888263101571 : True := True.intro
theorem PySem.W.Fast.tw13817815334273816271 : True := True.intro
theorem PySem.W.Fast.tw13581675356316894352 : True := True.intro
theorem PySem.W.Fast.tw8234938116113416175 : True := True.intro
theorem PySem.W.Fast.tw15017895701888229283 : True := True.intro
theorem PySem.W.Fast.tw6941521567033589687 : True := True.intro
theorem PySem.W.Fast.tw7684907487739773943 : True := True.intro
theorem PySem.W.Fast.tw6779023113204553175 : True := True.intro
theorem PySem.W.Fast.tw175750919725661070 : True := True.intro
theorem PySem.W.Fast.tw15016100724089585626 : True := True.intro
theorem PySem.W.Fast.tw12874259383852031144 : True := True.intro
theorem PySem.W.Fast.tw5602699171006130027 : True := True.intro
theorem PySem.W.Fast.tw17651611946213445942 : True := True.intro
theorem PySem.W.Fast.tw17661956499040073152 : True := True.intro
theorem PySem.W.Fast.tw4739496878593106333 : True := True.intro
theorem PySem.W.Fast.tw6605758913386831978 : True := True.intro
theorem PySem.W.Fast.tw4321206208974453173 : True := True.intro
theorem PySem.W.Fast.tw14092329105641065394 : True := True.intro
theorem PySem.W.Fast.tw14588503910536860571 : True := True.intro
theorem PySem.W.Fast.tw9579935408303591193 : True := True.intro
theorem PySem.W.Fast.tw2006471179429775612 : True := True.intro
theorem PySem.W.Fast.tw16151252060745842886 : True := True.intro
theorem PySem.W.Fast.tw16019669960732455970 : True := True.intro
theorem PySem.W.Fast.tw8574273507891578076 : True := True.intro
theorem PySem.W.Fast.tw209351544927248427 : True := True.intro
theorem PySem.W.Fast.tw11456106262733764517 : True := True.intro
theorem PySem.W.Fast.tw4825278541824535554 : True := True.intro
theorem PySem.W.Fast.tw8873771428046562671 : True := True.intro
theorem PySem.W.Fast.tw8505058785012847204 : True := True.intro
theorem PySem.W.Fast.tw6831074422268008453 : True := True.intro
theorem PySem.W.Fast.tw6931268231676694750 : True := True.intro
theorem PySem.W.Fast.tw3702792171522835850 : True := True.intro
theorem PySem.W.Fast.tw5649009442649936088 : True := True.intro
theorem PySem.W.Fast.tw17970984978778848924 : True := True.intro
theorem PySem.W.Fast.tw7748140687488697712 : True := True.intro
theorem PySem.W.Fast.tw16249638556784882873 : True := True.intro
theorem PySem.W.Fast.tw3426024832461483437 : True := True.intro
theorem PySem.W.Fast.tw15466147346932945419 : True := True.intro
theorem PySem.W.Fast.tw14953090548426693097 : True := True.intro
theorem PySem.W.Fast.tw4193875198901451794 : True := True.intro
theorem PySem.W.Fast.tw2064929593043339294 : True := True.intro
theorem PySem.W.Fast.tw15837075332388419816 : True := True.intro
theorem PySem.W.Fast.tw9877350622856050817 : True := True.intro
theorem PySem.W.Fast.tw17474470849918479711 : True := True.intro
theorem PySem.W.Fast.tw7908596864426320247 : True := True.intro
theorem PySem.W.Fast.tw16677142772145284611 : True := True.intro
theorem PySem.W.Fast.tw5461615471360760349 : True := True.intro
theorem PySem.W.Fast.tw4441786379545625311 : True := True.intro
theorem PySem.W.Fast.tw11126417021482977787 : True := True.intro
theorem PySem.W.Fast.tw14569118143126931791 : True := True.intro
theorem PySem.W.Fast.tw5907924839179570401 : True := True.intro
theorem PySem.W.Fast.tw16531570510970472045 : True := True.intro
theorem PySem.W.Fast.tw16873412633382071547 : True := True.intro
theorem PySem.W.Fast.tw2386980584844905793 : True := True.intro
theorem PySem.W.Fast.tw8687140880829485724 : True := True.intro
theorem PySem.W.Fast.tw13124326282892079419 : True := True.intro
theorem PySem.W.Fast.tw13303082534871865752 : True := True.intro
theorem PySem.W.Fast.tw6962913309365170925 : True := True.intro
theorem PySem.W.Fast.tw5876207419646205238 : True := True.intro
theorem PySem.W.Fast.tw1253858760220216719 : True := True.intro
theorem PySem.W.Fast.tw553526839534232539 : True := True.intro
theorem PySem.W.Fast.tw13648762926412670322 : True := True.intro
theorem PySem.W.Fast.tw10620578456449329660 : True := True.intro
theorem PySem.W.Fast.tw9660076222239052511 : True := True.intro
theorem PySem.W.Fast.tw14230704392062787678 : True := True.intro
theorem PySem.W.Fast.tw1733984381521904347 : True := True.intro
theorem PySem.W.Fast.tw2144030614705688736 : True := True.intro
theorem PySem.W.Fast.tw13479128480029035552 : True := True.intro
theorem PySem.W.Fast.tw8979210229949990404 : True := True.intro
theorem PySem.W.Fast.tw10695325837894188313 : True := True.intro
theorem PySem.W.Fast.tw15350436690494402623 : True := True.intro
theorem PySem.W.Fast.tw7177205721418964698 : True := True.intro
theorem PySem.W.Fast.tw16069009193368848825 : True := True.intro
theorem PySem.W.Fast.tw3224190691208915327 : True := True.intro
theorem PySem.W.Fast.tw3747477219669837881 : True := True.intro
theorem PySem.W.Fast.tw1455872810532760930 : True := True.intro
theorem PySem.W.Fast.tw7991823849436351373 : True := True.intro
theorem PySem.W.Fast.tw1777000416909439107 : True := True.intro
theorem PySem.W.Fast.tw15317259384696178639 : True := True.intro
theorem PySem.W.Fast.tw18363107085339907251 : True := True.intro
theorem PySem.W.Fast.tw15945226743080393785 : True := True.intro
theorem PySem.W.Fast.tw14651412068275242593 : True := True.intro
theorem PySem.W.Fast.tw11719801337705394870 : True := True.intro
theorem PySem.W.Fast.tw16417095875982615993 : True := True.intro
theorem PySem.W.Fast.tw17910660065587011792 : True := True.intro
theorem PySem.W.Fast.tw4576307523162865590 : True := True.intro
theorem PySem.W.Fast.tw13123264757626398579 : True := True.intro
theorem PySem.W.Fast.tw14196584049071880447 : True := True.intro
theorem PySem.W.Fast.tw17081805360511678352 : True := True.intro
theorem PySem.W.Fast.tw10482702077083421363 : True := True.intro
theorem PySem.W.Fast.tw9636368453729594134 : True := True.intro
theorem PySem.W.Fast.tw3653471722812543612 : True := True.intro
theorem PySem.W.Fast.tw194889681722570615 : True := True.intro
theorem PySem.W.Fast.tw18064617619726178196 : True := True.intro
theorem PySem.W.Fast.tw17502931197946452643 : True := True.intro
theorem PySem.W.Fast.tw208727715252821918 : True := True.intro
theorem PySem.W.Fast.tw12982585055104675397 : True := True.intro
theorem PySem.W.Fast.tw16624127996606081442 : True := True.intro
theorem PySem.W.Fast.tw3886677939731786004 : True := True.intro
theorem PySem.W.Fast.tw1098629290270502599 : True := True.intro
theorem PySem.W.Fast.tw7728894302652997613 : True := True.intro
theorem PySem.W.Fast.tw10245689509899507154 : True := True.intro
theorem PySem.W.Fast.tw2559034267497871020 : True := True.intro
theorem PySem.W.Fast.tw10258252914964908985 : True := True.intro
theorem PySem.W.Fast.tw10519690721961767883 : True := True.intro
theorem PySem.W.Fast.tw4538783642844034677 : True := True.intro
theorem PySem.W.Fast.tw6532613850203061415 : True := True.intro
theorem PySem.W.Fast.tw15865281909003945005 : True := True.intro
theorem PySem.W.Fast.tw92259986480265437 : True := True.intro
theorem PySem.W.Fast.tw15559509236788719596 : True := True.intro
theorem PySem.W.Fast.tw6822795079369388528 : True := True.intro
theorem PySem.W.Fast.tw15537802825092201315 : True := True.intro
theorem PySem.W.Fast.tw8128043973827355130 : True := True.intro
theorem PySem.W.Fast.tw15979137588105874021 : True := True.intro
theorem PySem.W.Fast.tw3946638959074391663 : True := True.intro
theorem PySem.W.Fast.tw743275477617068950 : True := True.intro
theorem PySem.W.Fast.tw9085464014823638493 : True := True.intro
theorem PySem.W.Fast.tw15987062647665329980 : True := True.intro
theorem PySem.W.Fast.tw2936622573960613222 : True := True.intro
theorem PySem.W.Fast.tw583664801503152109 : True := True.intro
theorem PySem.W.Fast.tw13636705691267117118 : True := True.intro
theorem PySem.W.Fast.tw6861531731992043924 : True := True.intro
theorem PySem.W.Fast.tw10916811937843786854 : True := True.intro
theorem PySem.W.Fast.tw2319804677487870694 : True := True.intro
theorem PySem.W.Fast.tw6215616516065795027 : True := True.intro
theorem PySem.W.Fast.tw9073954236775065412 : True := True.intro
theorem PySem.W.Fast.tw4535939714565651682 : True := True.intro
theorem PySem.W.Fast.tw14404097731682047730 : True := True.intro
theorem PySem.W.Fast.tw17271559796663417394 : True := True.intro
theorem PySem.W.Fast.tw17431911946377837335 : True := True.intro
theorem PySem.W.Fast.tw7822702244636819162 : True := True.intro
theorem PySem.W.Fast.tw9418241113832302014 : True := True.intro
theorem PySem.W.Fast.tw16389098265561396356 : True := True.intro
theorem PySem.W.Fast.tw4219253784289163714 : True := True.intro
theorem PySem.W.Fast.tw5816126981570341212 : True := True.intro
theorem PySem.W.Fast.tw9264607141799835384 : True := True.intro
theorem PySem.W.Fast.tw16519565706938493453 : True := True.intro
theorem PySem.W.Fast.tw12370264209420609107 : True := True.intro
theorem PySem.W.Fast.tw15752603700774187608 : True := True.intro
theorem PySem.W.Fast.tw8552916883611799028 : True := True.intro
theorem PySem.W.Fast.tw5142110599263633789 : True := True.intro
theorem PySem.W.Fast.tw16887288188994275485 : True := True.intro
theorem PySem.W.Fast.tw5609777209549598554 : True := True.intro
theorem PySem.W.Fast.tw5544029855416067732 : True := True.intro
theorem PySem.W.Fast.tw14325250704633266003 : True := True.intro
theorem PySem.W.Fast.tw10357463056487382240 : True := True.intro
theorem PySem.W.Fast.tw14584715857927939029 : True := True.intro
theorem PySem.W.Fast.tw14809078184174418494 : True := True.intro
theorem PySem.W.Fast.tw17630838772243899475 : True := True.intro
theorem PySem.W.Fast.tw17326281940914273889 : True := True.intro
theorem PySem.W.Fast.tw5046892739652926468 : True := True.intro
theorem PySem.W.Fast.tw1099298771022529893 : True := True.intro
theorem PySem.W.Fast.tw11368884481802708180 : True := True.intro
theorem PySem.W.Fast.tw4907977281137233368 : True := True.intro
theorem PySem.W.Fast.tw11012990031155846975 : True := True.intro
theorem PySem.W.Fast.tw549748501810748814 : True := True.intro
theorem PySem.W.Fast.tw4706815640331966738 : True := True.intro
theorem PySem.W.Fast.tw10390964310694842610 : True := True.intro
theorem PySem.W.Fast.tw8206068207556718263 : True := True.intro
theorem PySem.W.Fast.tw11807470283211943346 : True := True.intro
theorem PySem.W.Fast.tw4489265188382122869 : True := True.intro
theorem PySem.W.Fast.tw8830539509459622361 : True := True.intro
theorem PySem.W.Fast.tw5444229582245326272 : True := True.intro
theorem PySem.W.Fast.tw1730672166222566899 : True := True.intro
theorem PySem.W.Fast.tw532809219988100464 : True := True.intro
theorem PySem.W.Fast.tw1001023962532504711 : True := True.intro
theorem PySem.W.Fast.tw16499683732507930160 : True := True.intro
theorem PySem.W.Fast.tw1598678806375913633 : True := True.intro
theorem PySem.W.Fast.tw1779574772607074548 : True := True.intro
theorem PySem.W.Fast.tw13900979711626455935 : True := True.intro
theorem PySem.W.Fast.tw9467956040350686614 : True := True.intro
theorem PySem.W.Fast.tw1701847247019167521 : True := True.intro
theorem PySem.W.Fast.tw3892494000069677028 : True := True.intro
theorem PySem.W.Fast.tw3284100265963389045 : True := True.intro
theorem PySem.W.Fast.tw13853676815701511043 : True := True.intro
theorem PySem.W.Fast.tw11181174293916177986 : True := True.intro
theorem PySem.W.Fast.tw17965745767973038893 : True := True.intro
theorem PySem.W.Fast.tw6993266677128054859 : True := True.intro
theorem PySem.W.Fast.tw15477897931617289701 : True := True.intro
theorem PySem.W.Fast.tw14601094334381087182 : True := True.intro
theorem PySem.W.Fast.tw14139001984362856013 : True := True.intro
theorem PySem.W.Fast.tw4934247361389146403 : True := True.intro
theorem PySem.W.Fast.tw16608567262653356516 : True := True.intro
theorem PySem.W.Fast.tw740199230797234725 : True := True.intro
theorem PySem.W.Fast.tw17681959762723060367 : True := True.intro
theorem PySem.W.Fast.tw17198321672653293464 : True := True.intro
theorem PySem.W.Fast.tw9360184731911869998 : True := True.intro
theorem PySem.W.Fast.tw2837397313379312060 : True := True.intro
theorem PySem.W.Fast.tw13308043268867436024 : True := True.intro
theorem PySem.W.Fast.tw10927666069691001721 : True := True.intro
theorem PySem.W.Fast.tw3743767572641481371 : True := True.intro
theorem PySem.W.Fast.tw8064880300237787115 : True := True.intro
theorem PySem.W.Fast.tw13301633493353356482 : True := True.intro
theorem PySem.W.Fast.tw11232824316295590662 : True := True.intro
theorem PySem.W.Fast.tw12823310621002624128 : True := True.intro
theorem PySem.W.Fast.tw5024989195859258976 : True := True.intro
theorem PySem.W.Fast.tw15136606417637785933 : True := True.intro
theorem PySem.W.Fast.tw858541183953813346 : True := True.intro
theorem PySem.W.Fast.tw17077966912250248458 : True := True.intro
theorem PySem.W.Fast.tw16656304275222170358 : True := True.intro
theorem PySem.W.Fast.tw10327166360077189109 : True := True.intro
theorem PySem.W.Fast.tw1271831758583190205 : True := True.intro
theorem PySem.W.Fast.tw11064575473051912798 : True := True.intro
theorem PySem.W.Fast.tw17787322011867064135 : True := True.intro
theorem PySem.W.Fast.tw11695431317675121996 : True := True.intro
theorem PySem.W.Fast.tw10734036506315484865 : True := True.intro
theorem PySem.W.Fast.tw1507423997725129851 : True := True.intro
theorem PySem.W.Fast.tw17973421646378098749 : True := True.intro
theorem PySem.W.Fast.tw5515737169304646809 : True := True.intro
theorem PySem.W.Fast.tw17089784119970718142 : True := True.intro
theorem PySem.W.Fast.tw11133030769900096269 : True := True.intro
theorem PySem.W.Fast.tw17087199086103960732 : True := True.intro
theorem PySem.W.Fast.tw5115147936130132604 : True := True.intro
theorem PySem.W.Fast.tw18139419354090716897 : True := True.intro
theorem PySem.W.Fast.tw5639974430261358266 : True := True.intro
theorem PySem.W.Fast.tw10254096127986496128 : True := True.intro
theorem PySem.W.Fast.tw9010991011065485299 : True := True.intro
theorem PySem.W.Fast.tw17071357053241513391 : True := True.intro
theorem PySem.W.Fast.tw10070941042972850559 : True := True.intro
theorem PySem.W.Fast.tw6100913539756823320 : True := True.intro
theorem PySem.W.Fast.tw10179184610005516147 : True := True.intro
theorem PySem.W.Fast.tw1135227106878294868 : True := True.intro
theorem PySem.W.Fast.tw6857499604895003936 : True := True.intro
theorem PySem.W.Fast.tw8084536327866124113 : True := True.intro
theorem PySem.W.Fast.tw13868118356334799234 : True := True.intro
theorem PySem.W.Fast.tw8323186093662997805 : True := True.intro
theorem PySem.W.Fast.tw12962778257291192237 : True := True.intro
theorem PySem.W.Fast.tw794849089091199605 : True := True.intro
theorem PySem.W.Fast.tw12744672392404121747 : True := True.intro
theorem PySem.W.Fast.tw15957467107516706759 : True := True.intro
theorem PySem.W.Fast.tw7410797374390803155 : True := True.intro
theorem PySem.W.Fast.tw1149343067621106054 : True := True.intro
theorem PySem.W.Fast.tw1843956449173782917 : True := True.intro
theorem PySem.W.Fast.tw9049511370700510536 : True := True.intro
theorem PySem.W.Fast.tw2085634258355150944 : True := True.intro
theorem PySem.W.Fast.tw12426995792897069882 : True := True.intro
theorem PySem.W.Fast.tw6972745450779560473 : True := True.intro
theorem PySem.W.Fast.tw9127811953839260856 : True := True.intro
theorem PySem.W.Fast.tw9657018203481802742 : True := True.intro
theorem PySem.W.Fast.tw7816613070050728921 : True := True.intro
theorem PySem.W.Fast.tw17571537815677080335 : True := True.intro
theorem PySem.W.Fast.tw2657758684417530951 : True := True.intro
theorem PySem.W.Fast.tw15245601531937981030 : True := True.intro
theorem PySem.W.Fast.tw17769336198391278495 : True := True.intro
theorem PySem.W.Fast.tw881002791212020306 : True := True.intro
theorem PySem.W.Fast.tw6560686029442751891 : True := True.intro
theorem PySem.W.Fast.tw9409584789084969913 : True := True.intro
theorem PySem.W.Fast.tw2377952570116928741 : True := True.intro
theorem PySem.W.Fast.tw17178742677939872768 : True := True.intro
theorem PySem.W.Fast.tw4759618342666384637 : True := True.intro
theorem PySem.W.Fast.tw16461876934642357152 : True := True.intro
theorem PySem.W.Fast.tw14679840580192341813 : True := True.intro
theorem PySem.W.Fast.tw4088933175263659533 : True := True.intro
theorem PySem.W.Fast.tw8359317637030954492 : True := True.intro
theorem PySem.W.Fast.tw12117968906989415252 : True := True.intro
theorem PySem.W.Fast.tw8169869724201329504 : True := True.intro
theorem PySem.W.Fast.tw16215529946280937800 : True := True.intro
theorem PySem.W.Fast.tw7919375116660716629 : True := True.intro
theorem PySem.W.Fast.tw3046999685571921332 : True := True.intro
theorem PySem.W.Fast.tw14494688764892738668 : True := True.intro
theorem PySem.W.Fast.tw13178302803498910268 : True := True.intro
theorem PySem.W.Fast.tw16320387183714292394 : True := True.intro
theorem PySem.W.Fast.tw7689314929727901625 : True := True.intro
theorem PySem.W.Fast.tw9624645295502030476 : True := True.intro
theorem PySem.W.Fast.tw5532367788868171820 : True := True.intro
theorem PySem.W.Fast.tw18382278200159982382 : True := True.intro
theorem PySem.W.Fast.tw5874889868986272324 : True := True.intro
theorem PySem.W.Fast.tw5273324629712744102 : True := True.intro
theorem PySem.W.Fast.tw8639344360232195994 : True := True.intro
theorem PySem.W.Fast.tw5133864545823553842 : True := True.intro
theorem PySem.W.Fast.tw4534929088919565870 : True := True.intro
theorem PySem.W.Fast.tw11977745655411096697 : True := True.intro
theorem PySem.W.Fast.tw6626160011876950298 : True := True.intro
theorem PySem.W.Fast.tw5801381440073817241 : True := True.intro
theorem PySem.W.Fast.tw16725921910139571099 : True := True.intro
theorem PySem.W.Fast.tw6986175510688350966 : True := True.intro
theorem PySem.W.Fast.tw2514377886493406143 : True := True.intro
theorem PySem.W.Fast.tw8926710712926093670 : True := True.intro
theorem PySem.W.Fast.tw478828773376441542 : True := True.intro
theorem PySem.W.Fast.tw5550564688106556136 : True := True.intro
theorem PySem.W.Fast.tw13092413778967554057 : True := True.intro
theorem PySem.W.Fast.tw5242786465775611568 : True := True.intro
theorem PySem.W.Fast.tw3123792744974305905 : True := True.intro
theorem PySem.W.Fast.tw7390946623191040709 : True := True.intro
theorem PySem.W.Fast.tw15080123907791726672 : True := True.intro
theorem PySem.W.Fast.tw193394425258553875 : True := True.intro
theorem PySem.W.Fast.tw12487262745418423494 : True := True.intro
theorem PySem.W.Fast.tw16927073350276564900 : True := True.intro
theorem PySem.W.Fast.tw6475182154439267176 : True := True.intro
theorem PySem.W.Fast.tw11150625959246179043 : True := True.intro
theorem PySem.W.Fast.tw11043769242624180822 : True := True.intro
theorem PySem.W.Fast.tw4271422299856030560 : True := True.intro
theorem PySem.W.Fast.tw5677887216259351383 : True := True.intro
theorem PySem.W.Fast.tw10340065562527365172 : True := True.intro
theorem PySem.W.Fast.tw8678648410066732890 : True := True.intro
theorem PySem.W.Fast.tw7764323952858419721 : True := True.intro
theorem PySem.W.Fast.tw15873068984619017938 : True := True.intro
theorem PySem.W.Fast.tw2794771984445717213 : True := True.intro
theorem PySem.W.Fast.tw13238318065769001449 : True := True.intro
theorem PySem.W.Fast.tw7664583733057333377 : True := True.intro
theorem PySem.W.Fast.tw13739886643041079052 : True := True.intro
theorem PySem.W.Fast.tw16931443179605858559 : True := True.intro
theorem PySem.W.Fast.tw10847347013461002165 : True := True.intro
theorem PySem.W.Fast.tw16470823444148106376 : True := True.intro
theorem PySem.W.Fast.tw10662524566261013197 : True := True.intro
theorem PySem.W.Fast.tw5446663123880469807 : True := True.intro
theorem PySem.W.Fast.tw10471617734564334510 : True := True.intro
theorem PySem.W.Fast.tw15898683314082841714 : True := True.intro
theorem PySem.W.Fast.tw700858923187664759 : True := True.intro
theorem PySem.W.Fast.tw12977354355208091310 : True := True.intro
theorem PySem.W.Fast.tw8013846950377585211 : True := True.intro
theorem PySem.W.Fast.tw5356880941828593677 : True := True.intro
theorem PySem.W.Fast.tw10549514739933119194 : True := True.intro
theorem PySem.W.Fast.tw15292248766809500197 : True := True.intro
theorem PySem.W.Fast.tw17315174555039065126 : True := True.intro
theorem PySem.W.Fast.tw7686864935586421663 : True := True.intro
theorem PySem.W.Fast.tw3114066371767020601 : True := True.intro
theorem PySem.W.Fast.tw5775783537993513975 : True := True.intro
theorem PySem.W.Fast.tw5807018826134449156 : True := True.intro
theorem PySem.W.Fast.tw14945660988069108482 : True := True.intro
theorem PySem.W.Fast.tw17432417840779182594 : True := True.intro
theorem PySem.W.Fast.tw860297417220533463 : True := True.intro
theorem PySem.W.Fast.tw7737007727686136738 : True := True.intro
theorem PySem.W.Fast.tw17142667320183221583 : True := True.intro
theorem PySem.W.Fast.tw3943832508165329732 : True := True.intro
theorem PySem.W.Fast.tw5866177879732519654 : True := True.intro
theorem PySem.W.Fast.tw7496602382587519045 : True := True.intro
theorem PySem.W.Fast.tw14553301017139165881 : True := True.intro
theorem PySem.W.Fast.tw11774856268025497105 : True := True.intro
theorem PySem.W.Fast.tw1858640033386592477 : True := True.intro
theorem PySem.W.Fast.tw16334529700034886843 : True := True.intro
theorem PySem.W.Fast.tw9889855608976782515 : True := True.intro
theorem PySem.W.Fast.tw12634295320129774579 : True := True.intro
theorem PySem.W.Fast.tw6942514606292931935 : True := True.intro
theorem PySem.W.Fast.tw15112399013959745278 : True := True.intro
theorem PySem.W.Fast.tw4545657598078238100 : True := True.intro
theorem PySem.W.Fast.tw2065292430832291427 : True := True.intro
theorem PySem.W.Fast.tw17108328450718584446 : True := True.intro
theorem PySem.W.Fast.tw851056755470290834 : True := True.intro
theorem PySem.W.Fast.tw6617480207762671353 : True := True.intro
theorem PySem.W.Fast.tw14172846039244662136 : True := True.intro
theorem PySem.W.Fast.tw2571207370275883338 : True := True.intro
theorem PySem.W.Fast.tw16778511886364283323 : True := True.intro
theorem PySem.W.Fast.tw11171375016357925703 : True := True.intro
theorem PySem.W.Fast.tw6073922656939615003 : True := True.intro
theorem PySem.W.Fast.tw197723528405343160 : True := True.intro
theorem PySem.W.Fast.tw16888414324429890049 : True := True.intro
theorem PySem.W.Fast.tw15181720541331689380 : True := True.intro
theorem PySem.W.Fast.tw18438320696804868361 : True := True.intro
theorem PySem.W.Fast.tw15625668910135669793 : True := True.intro
theorem PySem.W.Fast.tw2675901191597294682 : True := True.intro
theorem PySem.W.Fast.tw13206248236379297932 : True := True.intro
theorem PySem.W.Fast.tw9095936649562884438 : True := True.intro
theorem PySem.W.Fast.tw165884566314059380 : True := True.intro
theorem PySem.W.Fast.tw14310363336029972951 : True := True.intro
theorem PySem.W.Fast.tw15685580534930358422 : True := True.intro
theorem PySem.W.Fast.tw1925103430178444679 : True := True.intro
theorem PySem.W.Fast.tw12192700635393929247 : True := True.intro
theorem PySem.W.Fast.tw14596153373764198660 : True := True.intro
theorem PySem.W.Fast.tw9710379223414205581 : True := True.intro
theorem PySem.W.Fast.tw773082915982602179 : True := True.intro
theorem PySem.W.Fast.tw1806463476321657276 : True := True.intro
theorem PySem.W.Fast.tw3757841128163904613 : True := True.intro
theorem PySem.W.Fast.tw12932406851348783760 : True := True.intro
theorem PySem.W.Fast.tw17152279553419994771 : True := True.intro
theorem PySem.W.Fast.tw5669658854817417014 : True := True.intro
theorem PySem.W.Fast.tw14968316778135910777 : True := True.intro
theorem PySem.W.Fast.tw9046388397830921723 : True := True.intro
theorem PySem.W.Fast.tw4822548283531014750 : True := True.intro
theorem PySem.W.Fast.tw6554988486635833930 : True := True.intro
theorem PySem.W.Fast.tw491161295626953108 : True := True.intro
theorem PySem.W.Fast.tw12635671918932913135 : True := True.intro
theorem PySem.W.Fast.tw4357990774071110892 : True := True.intro
theorem PySem.W.Fast.tw5594172310597012719 : True := True.intro
theorem PySem.W.Fast.tw14934719739802429560 : True := True.intro
theorem PySem.W.Fast.tw8664310962037189902 : True := True.intro
theorem PySem.W.Fast.tw7147812765373303701 : True := True.intro
theorem PySem.W.Fast.tw5110997603195334853 : True := True.intro
theorem PySem.W.Fast.tw3236719942862830840 : True := True.intro
theorem PySem.W.Fast.tw2393583685996606801 : True := True.intro
theorem PySem.W.Fast.tw8067867533848966739 : True := True.intro
theorem PySem.W.Fast.tw9362928386825390757 : True := True.intro
theorem PySem.W.Fast.tw17907366771442886133 : True := True.intro
theorem PySem.W.Fast.tw13646427259140569937 : True := True.intro
theorem PySem.W.Fast.tw11898842468342337099 : True := True.intro
theorem PySem.W.Fast.tw7457225133315580093 : True := True.intro
theorem PySem.W.Fast.tw5912209327783980288 : True := True.intro
theorem PySem.W.Fast.tw14657487067983257949 : True := True.intro
theorem PySem.W.Fast.tw13326308356993272066 : True := True.intro
theorem PySem.W.Fast.tw8566744625285578072 : True := True.intro
theorem PySem.W.Fast.tw6334665882205712877 : True := True.intro
theorem PySem.W.Fast.tw11497516757880605456 : True := True.intro
theorem PySem.W.Fast.tw14374948903544378874 : True := True.intro
theorem PySem.W.Fast.tw15125349126585202146 : True := True.intro
theorem PySem.W.Fast.tw9726809539826082479 : True := True.intro
theorem PySem.W.Fast.tw13109025709638844321 : True := True.intro
theorem PySem.W.Fast.tw4172713246728954742 : True := True.intro
theorem PySem.W.Fast.tw10148509065178463317 : True := True.intro
theorem PySem.W.Fast.tw1177024914522970371 : True := True.intro
theorem PySem.W.Fast.tw17328036830702387155 : True := True.intro
theorem PySem.W.Fast.tw6698691061766828294 : True := True.intro
theorem PySem.W.Fast.tw6289189374304918640 : True := True.intro
theorem PySem.W.Fast.tw7701278035357570587 : True := True.intro
theorem PySem.W.Fast.tw8416494041356170781 : True := True.intro
theorem PySem.W.Fast.tw17772234692734307955 : True := True.intro
theorem PySem.W.Fast.tw10223182504897670841 : True := True.intro
theorem PySem.W.Fast.tw12326794626693784590 : True := True.intro
theorem PySem.W.Fast.tw6960813604861433190 : True := True.intro
theorem PySem.W.Fast.tw9537834057453616035 : True := True.intro
theorem PySem.W.Fast.tw9408784300446369840 : True := True.intro
theorem PySem.W.Fast.tw17360682517753818868 : True := True.intro
theorem PySem.W.Fast.tw8946793241798050582 : True := True.intro
theorem PySem.W.Fast.tw4910620525813840814 : True := True.intro
theorem PySem.W.Fast.tw15568899973980087115 : True := True.intro
theorem PySem.W.Fast.tw14743013470984269666 : True := True.intro
theorem PySem.W.Fast.tw8226069618985721614 : True := True.intro
theorem PySem.W.Fast.tw14000045071172582366 : True := True.intro
theorem PySem.W.Fast.tw8810021936409444558 : True := True.intro
theorem PySem.W.Fast.tw17639176035714068969 : True := True.intro
theorem PySem.W.Fast.tw14665341023382472726 : True := True.intro
theorem PySem.W.Fast.tw6577414389969810477 : True := True.intro
theorem PySem.W.Fast.tw4970121149513135828 : True := True.intro
theorem PySem.W.Fast.tw7323339253983881572 : True := True.intro
theorem PySem.W.Fast.tw16871762320570770777 : True := True.intro
theorem PySem.W.Fast.tw13823648978248064053 : True := True.intro
theorem PySem.W.Fast.tw1250801895845199101 : True := True.intro
theorem PySem.W.Fast.tw14399928476388075128 : True := True.intro
theorem PySem.W.Fast.tw15113723771133352222 : True := True.intro
theorem PySem.W.Fast.tw16325946668814098650 : True := True.intro
theorem PySem.W.Fast.tw16855774074352976260 : True := True.intro
theorem PySem.W.Fast.tw14107925711444322331 : True := True.intro
theorem PySem.W.Fast.tw7547916047432016175 : True := True.intro
theorem PySem.W.Fast.tw9586677174864707314 : True := True.intro
theorem PySem.W.Fast.tw8004506759655105526 : True := True.intro
theorem PySem.W.Fast.tw13689381603718172356 : True := True.intro
theorem PySem.W.Fast.tw18383695904600677498 : True := True.intro
theorem PySem.W.Fast.tw15548874605899672603 : True := True.intro
theorem PySem.W.Fast.tw2038605960429716431 : True := True.intro
theorem PySem.W.Fast.tw9174945897102732645 : True := True.intro
theorem PySem.W.Fast.tw10438670220744874060 : True := True.intro
theorem PySem.W.Fast.tw7410173768172499234 : True := True.intro
theorem PySem.W.Fast.tw12965649178936124311 : True := True.intro
theorem PySem.W.Fast.tw11772771161972117547 : True := True.intro
theorem PySem.W.Fast.tw8362095924572203626 : True := True.intro
theorem PySem.W.Fast.tw3811571353181646915 : True := True.intro
theorem PySem.W.Fast.tw6604150028539894317 : True := True.intro
theorem PySem.W.Fast.tw16765007309093527484 : True := True.intro
theorem PySem.W.Fast.tw12849657394658368210 : True := True.intro
theorem PySem.W.Fast.tw16345666395405830445 : True := True.intro
theorem PySem.W.Fast.tw11683664464624054633 : True := True.intro
theorem PySem.W.Fast.tw7871190552146659083 : True := True.intro
theorem PySem.W.Fast.tw5224503288113078220 : True := True.intro
theorem PySem.W.Fast.tw13260627383194068681 : True := True.intro
theorem PySem.W.Fast.tw9156991190858489526 : True := True.intro
theorem PySem.W.Fast.tw17992247368294849230 : True := True.intro
theorem PySem.W.Fast.tw13556734306854134593 : True := True.intro
theorem PySem.W.Fast.tw16179429830274530682 : True := True.intro
theorem PySem.W.Fast.tw5637027752166139830 : True := True.intro
theorem PySem.W.Fast.tw1014299851426270085 : True := True.intro
theorem PySem.W.Fast.tw5756146921157083750 : True := True.intro
theorem PySem.W.Fast.tw826646305937911575 : True := True.intro
theorem PySem.W.Fast.tw17035301906442814778 : True := True.intro
theorem PySem.W.Fast.tw6897048568715505258 : True := True.intro
theorem PySem.W.Fast.tw14207096376624600347 : True := True.intro
theorem PySem.W.Fast.tw11509564098022550196 : True := True.intro
theorem PySem.W.Fast.tw15161532169364367983 : True := True.intro
theorem PySem.W.Fast.tw4161514017882984081 : True := True.intro
theorem PySem.W.Fast.tw7283767287496209475 : True := True.intro
theorem PySem.W.Fast.tw9403517895890150480 : True := True.intro
theorem PySem.W.Fast.tw14460775954753320665 : True := True.intro
theorem PySem.W.Fast.tw17018899208560010338 : True := True.intro
theorem PySem.W.Fast.tw7521670406989338803 : True := True.intro
theorem PySem.W.Fast.tw497940248825457074 : True := True.intro
theorem PySem.W.Fast.tw18209006434826592346 : True := True.intro
theorem PySem.W.Fast.tw14482462617281374804 : True := True.intro
theorem PySem.W.Fast.tw8707100109627484155 : True := True.intro
theorem PySem.W.Fast.tw13531086516223207434 : True := True.intro
theorem PySem.W.Fast.tw1829417757633176928 : True := True.intro
theorem PySem.W.Fast.tw14634306152963472058 : True := True.intro
theorem PySem.W.Fast.tw10846886044858442679 : True := True.intro
theorem PySem.W.Fast.tw4774967257549105586 : True := True.intro
theorem PySem.W.Fast.tw6601687456301677549 : True := True.intro
theorem PySem.W.Fast.tw18375506202276905674 : True := True.intro
theorem PySem.W.Fast.tw10684682446383709613 : True := True.intro
theorem PySem.W.Fast.tw15676785617848828230 : True := True.intro
theorem PySem.W.Fast.tw3872601277723433999 : True := True.intro
theorem PySem.W.Fast.tw4674380029559388690 : True := True.intro
theorem PySem.W.Fast.tw10025555270712110695 : True := True.intro
theorem PySem.W.Fast.tw2005265071935800007 : True := True.intro
theorem PySem.W.Fast.tw7206248749198318945 : True := True.intro
theorem PySem.W.Fast.tw1625923268387052968 : True := True.intro
theorem PySem.W.Fast.tw8133093427884853261 : True := True.intro
theorem PySem.W.Fast.tw17262676681381025357 : True := True.intro
theorem PySem.W.Fast.tw15987338666479997896 : True := True.intro
theorem PySem.W.Fast.tw15760147012729688268 : True := True.intro
theorem PySem.W.Fast.tw15060867966590307955 : True := True.intro
theorem PySem.W.Fast.tw7415226094329851227 : True := True.intro
theorem PySem.W.Fast.tw12076958240799123874 : True := True.intro
theorem PySem.W.Fast.tw5910811279673708625 : True := True.intro
theorem PySem.W.Fast.tw2449162550280140386 : True := True.intro
theorem PySem.W.Fast.tw14395131966714639012 : True := True.intro
theorem PySem.W.Fast.tw12162200746042502811 : True := True.intro
theorem PySem.W.Fast.tw8075191785540579064 : True := True.intro
theorem PySem.W.Fast.tw14302452240500066324 : True := True.intro
theorem PySem.W.Fast.tw8929188154481688921 : True := True.intro
theorem PySem.W.Fast.tw6281802647814130475 : True := True.intro
theorem PySem.W.Fast.tw9633295988120159167 : True := True.intro
theorem PySem.W.Fast.tw13713077988484862357 : True := True.intro
theorem PySem.W.Fast.tw7087779180499916759 : True := True.intro
theorem PySem.W.Fast.tw9562599951283987528 : True := True.intro
theorem PySem.W.Fast.tw10553451281974780440 : True := True.intro
theorem PySem.W.Fast.tw2175700993649919392 : True := True.intro
theorem PySem.W.Fast.tw2028988823368884960 : True := True.intro
theorem PySem.W.Fast.tw760956331366407269 : True := True.intro
theorem PySem.W.Fast.tw6351932978676979328 : True := True.intro
theorem PySem.W.Fast.tw13818119275541081212 : True := True.intro
theorem PySem.W.Fast.tw17629169775025053540 : True := True.intro
theorem PySem.W.Fast.tw17369591526486130560 : True := True.intro
theorem PySem.W.Fast.tw9610488965715675476 : True := True.intro
theorem PySem.W.Fast.tw11969629847747881497 : True := True.intro
theorem PySem.W.Fast.tw2451131042771712891 : True := True.intro
theorem PySem.W.Fast.tw16589861655173699882 : True := True.intro
theorem PySem.W.Fast.tw7627713531848378304 : True := True.intro
theorem PySem.W.Fast.tw8985236343523243098 : True := True.intro
theorem PySem.W.Fast.tw12143613121269915746 : True := True.intro
theorem PySem.W.Fast.tw8057647759042676330 : True := True.intro
theorem PySem.W.Fast.tw2170114311795578150 : True := True.intro
theorem PySem.W.Fast.tw16542816406704568605 : True := True.intro
theorem PySem.W.Fast.tw6202688702873086910 : True := True.intro
theorem PySem.W.Fast.tw2902742179917602974 : True := True.intro
theorem PySem.W.Fast.tw12477173925803833942 : True := True.intro
theorem PySem.W.Fast.tw12944848854098703303 : True := True.intro
theorem PySem.W.Fast.tw6313527560858762512 : True := True.intro
theorem PySem.W.Fast.tw13389998175858275939 : True := True.intro
theorem PySem.W.Fast.tw6928452717746643457 : True := True.intro
theorem PySem.W.Fast.tw10744516171838434680 : True := True.intro
theorem PySem.W.Fast.tw7181347773631767014 : True := True.intro
theorem PySem.W.Fast.tw93470039870560322 : True := True.intro
theorem PySem.W.Fast.tw16982657986386402097 : True := True.intro
theorem PySem.W.Fast.tw14883902575800438720 : True := True.intro
theorem PySem.W.Fast.tw7721745807306504240 : True := True.intro
theorem PySem.W.Fast.tw3203651714884100457 : True := True.intro
theorem PySem.W.Fast.tw3144711229280280522 : True := True.intro
theorem PySem.W.Fast.tw6971567528406522875 : True := True.intro
theorem PySem.W.Fast.tw13324742353458749465 : True := True.intro
theorem PySem.W.Fast.tw7726728081416740829 : True := True.intro
theorem PySem.W.Fast.tw17223993736284407258 : True := True.intro
theorem PySem.W.Fast.tw5612504334040991766 : True := True.intro
theorem PySem.W.Fast.tw15614106728763548539 : True := True.intro
theorem PySem.W.Fast.tw9561770386868728032 : True := True.intro
theorem PySem.W.Fast.tw14375732710274648993 : True := True.intro
theorem PySem.W.Fast.tw3168979918825634671 : True := True.intro
theorem PySem.W.Fast.tw18286081078392241477 : True := True.intro
theorem PySem.W.Fast.tw5695187244562001130 : True := True.intro
theorem PySem.W.Fast.tw9256897889748543081 : True := True.intro
theorem PySem.W.Fast.tw9475118908636466488 : True := True.intro
theorem PySem.W.Fast.tw286905086587986870 : True := True.intro
theorem PySem.W.Fast.tw15773636988346998042 : True := True.intro
theorem PySem.W.Fast.tw440404479214053399 : True := True.intro
theorem PySem.W.Fast.tw5176341386043783976 : True := True.intro
theorem PySem.W.Fast.tw17444515770774708394 : True := True.intro
theorem PySem.W.Fast.tw7160940098843321765 : True := True.intro
theorem PySem.W.Fast.tw5868354090034423304 : True := True.intro
theorem PySem.W.Fast.tw16480519276182257567 : True := True.intro
theorem PySem.W.Fast.tw4732907383304298675 : True := True.intro
theorem PySem.W.Fast.tw10542869550324802837 : True := True.intro
theorem PySem.W.Fast.tw389002213044243903 : True := True.intro
theorem PySem.W.Fast.tw14354811637314822976 : True := True.intro
theorem PySem.W.Fast.tw18405607970297625773 : True := True.intro
theorem PySem.W.Fast.tw7476520294092253536 : True := True.intro
theorem PySem.W.Fast.tw2157896950913012177 : True := True.intro
theorem PySem.W.Fast.tw12227457129806122208 : True := True.intro
theorem PySem.W.Fast.tw1190144678871679457 : True := True.intro
theorem PySem.W.Fast.tw11509778182015168845 : True := True.intro
theorem PySem.W.Fast.tw14159046074081431633 : True := True.intro
theorem PySem.W.Fast.tw13049787027757330642 : True := True.intro
theorem PySem.W.Fast.tw5932989032365717672 : True := True.intro
theorem PySem.W.Fast.tw977918732849636921 : True := True.intro
theorem PySem.W.Fast.tw10095582513732019967 : True := True.intro
theorem PySem.W.Fast.tw10116763074858914305 : True := True.intro
theorem PySem.W.Fast.tw7739832034122674552 : True := True.intro
theorem PySem.W.Fast.tw11458499640016841299 : True := True.intro
theorem PySem.W.Fast.tw16695801812073597298 : True := True.intro
theorem PySem.W.Fast.tw8302710137947049289 : True := True.intro
theorem PySem.W.Fast.tw16268971799200797725 : True := True.intro
theorem PySem.W.Fast.tw616148536914213871 : True := True.intro
theorem PySem.W.Fast.tw390384619588908126 : True := True.intro
theorem PySem.W.Fast.tw15823954821125373572 : True := True.intro
theorem PySem.W.Fast.tw11449502991076443369 : True := True.intro
theorem PySem.W.Fast.tw8553855136646184384 : True := True.intro
theorem PySem.W.Fast.tw1371133838637813753 : True := True.intro
theorem PySem.W.Fast.tw7867258518255028556 : True := True.intro
theorem PySem.W.Fast.tw1483949916321379198 : True := True.intro
theorem PySem.W.Fast.tw17080634801069728945 : True := True.intro
theorem PySem.W.Fast.tw18377420579699798191 : True := True.intro
theorem PySem.W.Fast.tw7631829353648037394 : True := True.intro
theorem PySem.W.Fast.tw9035525502562207635 : True := True.intro
theorem PySem.W.Fast.tw3934707958174164052 : True := True.intro
theorem PySem.W.Fast.tw5439442669801767010 : True := True.intro
theorem PySem.W.Fast.tw2402249007248029197 : True := True.intro
theorem PySem.W.Fast.tw18053488920560417772 : True := True.intro
theorem PySem.W.Fast.tw17056942469506520948 : True := True.intro
theorem PySem.W.Fast.tw380337425536875461 : True := True.intro
theorem PySem.W.Fast.tw5063210736291582483 : True := True.intro
theorem PySem.W.Fast.tw3954384675886259606 : True := True.intro
theorem PySem.W.Fast.tw2287427073274350213 : True := True.intro
theorem PySem.W.Fast.tw6130825510430677912 : True := True.intro
theorem PySem.W.Fast.tw11210286811200104712 : True := True.intro
theorem PySem.W.Fast.tw3731910195546187942 : True := True.intro
theorem PySem.W.Fast.tw14184492673227254275 : True := True.intro
theorem PySem.W.Fast.tw17599898482304505691 : True := True.intro
theorem PySem.W.Fast.tw1177227127513120331 : True := True.intro
theorem PySem.W.Fast.tw14701930322191054012 : True := True.intro
theorem PySem.W.Fast.tw17254275349100241089 : True := True.intro
theorem PySem.W.Fast.tw17113786361997429859 : True := True.intro
theorem PySem.W.Fast.tw14680585319575422716 : True := True.intro
theorem PySem.W.Fast.tw8813069223879856570 : True := True.intro
theorem PySem.W.Fast.tw3099043015569577240 : True := True.intro
theorem PySem.W.Fast.tw7198233210487868350 : True := True.intro
theorem PySem.W.Fast.tw7623258469853618108 : True := True.intro
theorem PySem.W.Fast.tw6413828017275004129 : True := True.intro
theorem PySem.W.Fast.tw15875658745219756172 : True := True.intro
theorem PySem.W.Fast.tw17263469435646859806 : True := True.intro
theorem PySem.W.Fast.tw12319390188698270625 : True := True.intro
theorem PySem.W.Fast.tw10591147313137478407 : True := True.intro
theorem PySem.W.Fast.tw12774055722188055402 : True := True.intro
theorem PySem.W.Fast.tw9986076389729824616 : True := True.intro
theorem PySem.W.Fast.tw4755256131229537816 : True := True.intro
theorem PySem.W.Fast.tw15815874747032901134 : True := True.intro
theorem PySem.W.Fast.tw11466111150715305540 : True := True.intro
theorem PySem.W.Fast.tw1747526637711351640 : True := True.intro
theorem PySem.W.Fast.tw13086867798730651499 : True := True.intro
theorem PySem.W.Fast.tw5540498329703659967 : True := True.intro
theorem PySem.W.Fast.tw17914449707379154691 : True := True.intro
theorem PySem.W.Fast.tw3193942401761548300 : True := True.intro
theorem PySem.W.Fast.tw647587996387972500 : True := True.intro
theorem PySem.W.Fast.tw1489301374647439036 : True := True.intro
theorem PySem.W.Fast.tw9074046125566452310 : True := True.intro
theorem PySem.W.Fast.tw12132203756600034566 : True := True.intro
theorem PySem.W.Fast.tw5407343409616979499 : True := True.intro
theorem PySem.W.Fast.tw12579173170343065807 : True := True.intro
theorem PySem.W.Fast.tw16389590475332805885 : True := True.intro
theorem PySem.W.Fast.tw3460621595697818987 : True := True.intro
theorem PySem.W.Fast.tw1869518644903036126 : True := True.intro
theorem PySem.W.Fast.tw4561438703041695030 : True := True.intro
theorem PySem.W.Fast.tw3346698198092310783 : True := True.intro
theorem PySem.W.Fast.tw3595412223813439249 : True := True.intro
theorem PySem.W.Fast.tw1649923814076402935 : True := True.intro
theorem PySem.W.Fast.tw15577402517983511978 : True := True.intro
theorem PySem.W.Fast.tw12749359331120352250 : True := True.intro
theorem PySem.W.Fast.tw15450854289263998789 : True := True.intro
theorem PySem.W.Fast.tw13468700957788502079 : True := True.intro
theorem PySem.W.Fast.tw10455598630038330529 : True := True.intro
theorem PySem.W.Fast.tw6696121450808701564 : True := True.intro
theorem PySem.W.Fast.tw12997848740669997584 : True := True.intro
theorem PySem.W.Fast.tw14788745451431412797 : True := True.intro
theorem PySem.W.Fast.tw13998602569208590356 : True := True.intro
theorem PySem.W.Fast.tw10403376783990057441 : True := True.intro
theorem PySem.W.Fast.tw7583030567684680168 : True := True.intro
theorem PySem.W.Fast.tw2603305838002687270 : True := True.intro
theorem PySem.W.Fast.tw5120723886964778113 : True := True.intro
theorem PySem.W.Fast.tw292609826081077096 : True := True.intro
theorem PySem.W.Fast.tw2302810534564128178 : True := True.intro
theorem PySem.W.Fast.tw6671016419906176902 : True := True.intro
theorem PySem.W.Fast.tw12734688416630859688 : True := True.intro
theorem PySem.W.Fast.tw9126537800810844548 : True := True.intro
theorem PySem.W.Fast.tw1766285520790512661 : True := True.intro
theorem PySem.W.Fast.tw15949471786545275237 : True := True.intro
theorem PySem.W.Fast.tw3410225276402065165 : True := True.intro
theorem PySem.W.Fast.tw261245310461861078 : True := True.intro
theorem PySem.W.Fast.tw10101322710213835322 : True := True.intro
theorem PySem.W.Fast.tw9865792774003532133 : True := True.intro
theorem PySem.W.Fast.tw9617786152839298532 : True := True.intro
theorem PySem.W.Fast.tw8041838682486127338 : True := True.intro
theorem PySem.W.Fast.tw15492074319844195432 : True := True.intro
theorem PySem.W.Fast.tw11241814638174983436 : True := True.intro
theorem PySem.W.Fast.tw3869836477412288365 : True := True.intro
theorem PySem.W.Fast.tw3974818843690351065 : True := True.intro
theorem PySem.W.Fast.tw11827266673688279131 : True := True.intro
theorem PySem.W.Fast.tw13804054742742866160 : True := True.intro
theorem PySem.W.Fast.tw11477961872162412555 : True := True.intro
theorem PySem.W.Fast.tw187113898364213283 : True := True.intro
theorem PySem.W.Fast.tw8181815517092778981 : True := True.intro
theorem PySem.W.Fast.tw17301210434985293414 : True := True.intro
theorem PySem.W.Fast.tw1505794027756314484 : True := True.intro
theorem PySem.W.Fast.tw16037772725772033272 : True := True.intro
theorem PySem.W.Fast.tw5133491653262356820 : True := True.intro
theorem PySem.W.Fast.tw3711676296554485445 : True := True.intro
theorem PySem.W.Fast.tw12719567107435804175 : True := True.intro
theorem PySem.W.Fast.tw14116425281575144827 : True := True.intro
theorem PySem.W.Fast.tw8591596008709846081 : True := True.intro
theorem PySem.W.Fast.tw9208634991731277616 : True := True.intro
theorem PySem.W.Fast.tw17637156382536471560 : True := True.intro
theorem PySem.W.Fast.tw10612821266416029674 : True := True.intro
theorem PySem.W.Fast.tw10807953640591158936 : True := True.intro
theorem PySem.W.Fast.tw15254631938170502847 : True := True.intro
theorem PySem.W.Fast.tw5458841833895920914 : True := True.intro
theorem PySem.W.Fast.tw9895723001512281940 : True := True.intro
theorem PySem.W.Fast.tw16731843148038363858 : True := True.intro
theorem PySem.W.Fast.tw470896203115789377 : True := True.intro
theorem PySem.W.Fast.tw16249447585315945099 : True := True.intro
theorem PySem.W.Fast.tw12389806509654758416 : True := True.intro
theorem PySem.W.Fast.tw4135814193701780826 : True := True.intro
theorem PySem.W.Fast.tw2495051023090392756 : True := True.intro
theorem PySem.W.Fast.tw5548659807985353339 : True := True.intro
theorem PySem.W.Fast.tw17215200099377146924 : True := True.intro
theorem PySem.W.Fast.tw15826217907917612798 : True := True.intro
theorem PySem.W.Fast.tw7510635873370348285 : True := True.intro
theorem PySem.W.Fast.tw10291724007883551487 : True := True.intro
theorem PySem.W.Fast.tw3244911595489867981 : True := True.intro
theorem PySem.W.Fast.tw13110334159272501494 : True := True.intro
theorem PySem.W.Fast.tw14952875276845976728 : True := True.intro
theorem PySem.W.Fast.tw9897768677944824576 : True := True.intro
theorem PySem.W.Fast.tw15905772090226488704 : True := True.intro
theorem PySem.W.Fast.tw6722943733940410271 : True := True.intro
theorem PySem.W.Fast.tw15893077408624541462 : True := True.intro
theorem PySem.W.Fast.tw4981899385434371318 : True := True.intro
theorem PySem.W.Fast.tw8444970952783350784 : True := True.intro
theorem PySem.W.Fast.tw8268852029471923118 : True := True.intro
theorem PySem.W.Fast.tw4537333404901097799 : True := True.intro
theorem PySem.W.Fast.tw8370488592165878297 : True := True.intro
theorem PySem.W.Fast.tw9152828200956221114 : True := True.intro
theorem PySem.W.Fast.tw17822996528461056229 : True := True.intro
theorem PySem.W.Fast.tw12123886885679531680 : True := True.intro
theorem PySem.W.Fast.tw17689025825519679573 : True := True.intro
theorem PySem.W.Fast.tw8929165819498505638 : True := True.intro
theorem PySem.W.Fast.tw9984990592188058349 : True := True.intro
theorem PySem.W.Fast.tw1815369805616639437 : True := True.intro
theorem PySem.W.Fast.tw9040442913953110168 : True := True.intro
theorem PySem.W.Fast.tw11459606834507366154 : True := True.intro
theorem PySem.W.Fast.tw14199821772448657955 : True := True.intro
theorem PySem.W.Fast.tw5121275123631549967 : True := True.intro
theorem PySem.W.Fast.tw15557944704705117461 : True := True.intro
theorem PySem.W.Fast.tw6398992835272218862 : True := True.intro
theorem PySem.W.Fast.tw2522989586748986105 : True := True.intro
theorem PySem.W.Fast.tw8141183847408068891 : True := True.intro
theorem PySem.W.Fast.tw12187063910471696417 : True := True.intro
theorem PySem.W.Fast.tw2058361309045614794 : True := True.intro
theorem PySem.W.Fast.tw2970992116684508672 : True := True.intro
theorem PySem.W.Fast.tw10234533390446152124 : True := True.intro
theorem PySem.W.Fast.tw10994967881413571299 : True := True.intro
theorem PySem.W.Fast.tw10184809993746782172 : True := True.intro
theorem PySem.W.Fast.tw7505320776891294706 : True := True.intro
theorem PySem.W.Fast.tw17539008284617305274 : True := True.intro
theorem PySem.W.Fast.tw1858986952936188319 : True := True.intro
theorem PySem.W.Fast.tw15639896911085291689 : True := True.intro
theorem PySem.W.Fast.tw13271631325158489144 : True := True.intro
theorem PySem.W.Fast.tw4924012894213182302 : True := True.intro
theorem PySem.W.Fast.tw13418713844355473996 : True := True.intro
theorem PySem.W.Fast.tw5231528067600421664 : True := True.intro
theorem PySem.W.Fast.tw16874488311694633023 : True := True.intro
theorem PySem.W.Fast.tw3847683953943693532 : True := True.intro
theorem PySem.W.Fast.tw4547789586593262845 : True := True.intro
theorem PySem.W.Fast.tw573822186039548534 : True := True.intro
theorem PySem.W.Fast.tw2066179108889671624 : True := True.intro
theorem PySem.W.Fast.tw3712847401180945614 : True := True.intro
theorem PySem.W.Fast.tw17265875069536671782 : True := True.intro
theorem PySem.W.Fast.tw2919265025934584945 : True := True.intro
theorem PySem.W.Fast.tw7487307571054136771 : True := True.intro
theorem PySem.W.Fast.tw306954037097980549 : True := True.intro
theorem PySem.W.Fast.tw4985398860775495899 : True := True.intro
theorem PySem.W.Fast.tw9767885617845971359 : True := True.intro
theorem PySem.W.Fast.tw11929789465845114957 : True := True.intro
theorem PySem.W.Fast.tw15766006353817468287 : True := True.intro
theorem PySem.W.Fast.tw9642095762955343671 : True := True.intro
theorem PySem.W.Fast.tw8848161547049100703 : True := True.intro
theorem PySem.W.Fast.tw17822314978217984706 : True := True.intro
theorem PySem.W.Fast.tw8559324927277859148 : True := True.intro
theorem PySem.W.Fast.tw5075463660465749669 : True := True.intro
theorem PySem.W.Fast.tw7825304946475280013 : True := True.intro
theorem PySem.W.Fast.tw15083212130376007889 : True := True.intro
theorem PySem.W.Fast.tw15048270258846460340 : True := True.intro
theorem PySem.W.Fast.tw1180775062525285646 : True := True.intro
theorem PySem.W.Fast.tw3101274372711004057 : True := True.intro
theorem PySem.W.Fast.tw8852677456661966500 : True := True.intro
theorem PySem.W.Fast.tw13159236888285973908 : True := True.intro
theorem PySem.W.Fast.tw13874679694899396217 : True := True.intro
theorem PySem.W.Fast.tw13922814158524028220 : True := True.intro
theorem PySem.W.Fast.tw17911371551136091528 : True := True.intro
theorem PySem.W.Fast.tw2255029361359520586 : True := True.intro
theorem PySem.W.Fast.tw15346271815492192267 : True := True.intro
theorem PySem.W.Fast.tw13794424763129949772 : True := True.intro
theorem PySem.W.Fast.tw2425739091718359309 : True := True.intro
theorem PySem.W.Fast.tw5408813270036316158 : True := True.intro
theorem PySem.W.Fast.tw2352930970625620392 : True := True.intro
theorem PySem.W.Fast.tw2360110857679543459 : True := True.intro
theorem PySem.W.Fast.tw17680092605356350988 : True := True.intro
theorem PySem.W.Fast.tw17299314771683240674 : True := True.intro
theorem PySem.W.Fast.tw4974139086206053700 : True := True.intro
theorem PySem.W.Fast.tw11138873513348962386 : True := True.intro
theorem PySem.W.Fast.tw15375718383955971166 : True := True.intro
theorem PySem.W.Fast.tw1454794139966778696 : True := True.intro
theorem PySem.W.Fast.tw1204300188145983277 : True := True.intro
theorem PySem.W.Fast.tw8690561133763789395 : True := True.intro
theorem PySem.W.Fast.tw2096591359143262818 : True := True.intro
theorem PySem.W.Fast.tw10327618026168386420 : True := True.intro
theorem PySem.W.Fast.tw8465544336762388643 : True := True.intro
theorem PySem.W.Fast.tw4437946859500425674 : True := True.intro
theorem PySem.W.Fast.tw1596600428815980416 : True := True.intro
theorem PySem.W.Fast.tw456162259596110503 : True := True.intro
theorem PySem.W.Fast.tw1026809475386322647 : True := True.intro
theorem PySem.W.Fast.tw5883362184911356725 : True := True.intro
theorem PySem.W.Fast.tw12886376199950583195 : True := True.intro
theorem PySem.W.Fast.tw18064969490435343144 : True := True.intro
theorem PySem.W.Fast.tw18350508743058958880 : True := True.intro
theorem PySem.W.Fast.tw8916476626652420278 : True := True.intro
theorem PySem.W.Fast.tw1875857965373507145 : True := True.intro
theorem PySem.W.Fast.tw14915930160848720419 : True := True.intro
theorem PySem.W.Fast.tw8746700656106550124 : True := True.intro
theorem PySem.W.Fast.tw6995472477314080659 : True := True.intro
theorem PySem.W.Fast.tw15128285385191339913 : True := True.intro
theorem PySem.W.Fast.tw13506460780341764336 : True := True.intro
theorem PySem.W.Fast.tw16366399719547587524 : True := True.intro
theorem PySem.W.Fast.tw5054465548778106318 : True := True.intro
theorem PySem.W.Fast.tw2112015204233455844 : True := True.intro
theorem PySem.W.Fast.tw17318565419254636586 : True := True.intro
theorem PySem.W.Fast.tw10102180557710955776 : True := True.intro
theorem PySem.W.Fast.tw7304054756981777503 : True := True.intro
theorem PySem.W.Fast.tw16505278097334818647 : True := True.intro
theorem PySem.W.Fast.tw10395388324659270596 : True := True.intro
theorem PySem.W.Fast.tw2500001678909657154 : True := True.intro
theorem PySem.W.Fast.tw17854473452492650173 : True := True.intro
theorem PySem.W.Fast.tw10038478498654027841 : True := True.intro
theorem PySem.W.Fast.tw2837619696880206282 : True := True.intro
theorem PySem.W.Fast.tw17985711801035612869 : True := True.intro
theorem PySem.W.Fast.tw6484913492687870033 : True := True.intro
theorem PySem.W.Fast.tw7871599686110639793 : True := True.intro
theorem PySem.W.Fast.tw17319746933727511916 : True := True.intro
theorem PySem.W.Fast.tw9270335842704344929 : True := True.intro
theorem PySem.W.Fast.tw17195839670658886942 : True := True.intro
theorem PySem.W.Fast.tw16252763574623750636 : True := True.intro
theorem PySem.W.Fast.tw5953380271966482690 : True := True.intro
theorem PySem.W.Fast.tw16501890585629640922 : True := True.intro
theorem PySem.W.Fast.tw8420679180239188147 : True := True.intro
theorem PySem.W.Fast.tw8417919880897519970 : True := True.intro
theorem PySem.W.Fast.tw12499689169573061017 : True := True.intro
theorem PySem.W.Fast.tw14198518245911452069 : True := True.intro
theorem PySem.W.Fast.tw2398673982585363959 : True := True.intro
theorem PySem.W.Fast.tw14499936216935427162 : True := True.intro
theorem PySem.W.Fast.tw1237007421494534234 : True := True.intro
theorem PySem.W.Fast.tw8168312557033475774 : True := True.intro
theorem PySem.W.Fast.tw14524976879541848615 : True := True.intro
theorem PySem.W.Fast.tw15691958282149473320 : True := True.intro
theorem PySem.W.Fast.tw14896948855394061113 : True := True.intro
theorem PySem.W.Fast.tw487065477959891176 : True := True.intro
theorem PySem.W.Fast.tw17015369208007245901 : True := True.intro
theorem PySem.W.Fast.tw16173418563917466664 : True := True.intro
theorem PySem.W.Fast.tw3462738535644330575 : True := True.intro
theorem PySem.W.Fast.tw14715343675727300563 : True := True.intro
theorem PySem.W.Fast.tw11853016764034094965 : True := True.intro
theorem PySem.W.Fast.tw182984335906376724 : True := True.intro
theorem PySem.W.Fast.tw16525972634519382597 : True := True.intro
theorem PySem.W.Fast.tw14243430537962729422 : True := True.intro
theorem PySem.W.Fast.tw10253791101003588535 : True := True.intro
theorem PySem.W.Fast.tw3614505065401056153 : True := True.intro
theorem PySem.W.Fast.tw7794141121093030456 : True := True.intro
theorem PySem.W.Fast.tw8272361608238254112 : True := True.intro
theorem PySem.W.Fast.tw5049795383362005482 : True := True.intro
theorem PySem.W.Fast.tw3632737932728645342 : True := True.intro
theorem PySem.W.Fast.tw6023420507414081697 : True := True.intro
theorem PySem.W.Fast.tw1602451545263688715 : True := True.intro
theorem PySem.W.Fast.tw3065135617925677372 : True := True.intro
theorem PySem.W.Fast.tw5237668992675387566 : True := True.intro
theorem PySem.W.Fast.tw15767929416964071389 : True := True.intro
theorem PySem.W.Fast.tw8534158773020669942 : True := True.intro
theorem PySem.W.Fast.tw8566955415904747705 : True := True.intro
theorem PySem.W.Fast.tw5701146389476868914 : True := True.intro
theorem PySem.W.Fast.tw8649570146217978181 : True := True.intro
theorem PySem.W.Fast.tw18076356099323582757 : True := True.intro
theorem PySem.W.Fast.tw15008105686805343672 : True := True.intro
theorem PySem.W.Fast.tw3502760957593135798 : True := True.intro
theorem PySem.W.Fast.tw15130515360258517860 : True := True.intro
theorem PySem.W.Fast.tw3396763810761916992 : True := True.intro
theorem PySem.W.Fast.tw16345601521623451944 : True := True.intro
theorem PySem.W.Fast.tw7608736771764630478 : True := True.intro
theorem PySem.W.Fast.tw17510486470745697434 : True := True.intro
theorem PySem.W.Fast.tw5884038438695965842 : True := True.intro
theorem PySem.W.Fast.tw1648409601802736224 : True := True.intro
theorem PySem.W.Fast.tw8964385196997078821 : True := True.intro
theorem PySem.W.Fast.tw9359934466766698571 : True := True.intro
theorem PySem.W.Fast.tw7689733835426203253 : True := True.intro
theorem PySem.W.Fast.tw4687808724238242130 : True := True.intro
theorem PySem.W.Fast.tw2921099371571612344 : True := True.intro
theorem PySem.W.Fast.tw2779913695071487829 : True := True.intro
theorem PySem.W.Fast.tw549762532329371844 : True := True.intro
theorem PySem.W.Fast.tw7075194420623521615 : True := True.intro
theorem PySem.W.Fast.tw596373296694203639 : True := True.intro
theorem PySem.W.Fast.tw15249210719819770476 : True := True.intro
theorem PySem.W.Fast.tw6585098094203378034 : True := True.intro
theorem PySem.W.Fast.tw12274009706932830408 : True := True.intro
theorem PySem.W.Fast.tw7989715566363824094 : True := True.intro
theorem PySem.W.Fast.tw1873960971809239712 : True := True.intro
theorem PySem.W.Fast.tw4296939824633705066 : True := True.intro
theorem PySem.W.Fast.tw8417692916886913152 : True := True.intro
theorem PySem.W.Fast.tw6460868791030423909 : True := True.intro
theorem PySem.W.Fast.tw5498023934066632344 : True := True.intro
theorem PySem.W.Fast.tw13773667669930541271 : True := True.intro
theorem PySem.W.Fast.tw1837999251684471690 : True := True.intro
theorem PySem.W.Fast.tw16971478925299261061 : True := True.intro
theorem PySem.W.Fast.tw13090848303783868671 : True := True.intro
theorem PySem.W.Fast.tw11133503621809123229 : True := True.intro
theorem PySem.W.Fast.tw7626017556636169677 : True := True.intro
theorem PySem.W.Fast.tw3196015618883987210 : True := True.intro
theorem PySem.W.Fast.tw369652565774272156 : True := True.intro
theorem PySem.W.Fast.tw16001809596394090445 : True := True.intro
theorem PySem.W.Fast.tw2599982261647505443 : True := True.intro
theorem PySem.W.Fast.tw5159079287332122610 : True := True.intro
theorem PySem.W.Fast.tw5543036347200725674 : True := True.intro
theorem PySem.W.Fast.tw2587308436187178417 : True := True.intro
theorem PySem.W.Fast.tw17388873706389656525 : True := True.intro
theorem PySem.W.Fast.tw10491333041189945299 : True := True.intro
theorem PySem.W.Fast.tw11982134438920638345 : True := True.intro
theorem PySem.W.Fast.tw9967362626409625729 : True := True.intro
theorem PySem.W.Fast.tw3871542920069755860 : True := True.intro
theorem PySem.W.Fast.tw8194557363154087776 : True := True.intro
theorem PySem.W.Fast.tw8250396755557515147 : True := True.intro
theorem PySem.W.Fast.tw9743436297964093007 : True := True.intro
theorem PySem.W.Fast.tw2953903693198257781 : True := True.intro
theorem PySem.W.Fast.tw12117575157437736910 : True := True.intro
theorem PySem.W.Fast.tw2129623883232787870 : True := True.intro
theorem PySem.W.Fast.tw5528208444960899644 : True := True.intro
theorem PySem.W.Fast.tw1262097643126149194 : True := True.intro
theorem PySem.W.Fast.tw2030549180696146088 : True := True.intro
theorem PySem.W.Fast.tw10752711041782263483 : True := True.intro
theorem PySem.W.Fast.tw12838797575270082988 : True := True.intro
theorem PySem.W.Fast.tw14531481170969108443 : True := True.intro
theorem PySem.W.Fast.tw9314682307308030446 : True := True.intro
theorem PySem.W.Fast.tw535428268565847487 : True := True.intro
theorem PySem.W.Fast.tw8050648729819042000 : True := True.intro
theorem PySem.W.Fast.tw12138178356735809283 : True := True.intro
theorem PySem.W.Fast.tw17479339367266397166 : True := True.intro
theorem PySem.W.Fast.tw4283197599580676114 : True := True.intro
theorem PySem.W.Fast.tw13448107029764672370 : True := True.intro
theorem PySem.W.Fast.tw17477195366200612318 : True := True.intro
theorem PySem.W.Fast.tw15342543321298613647 : True := True.intro
theorem PySem.W.Fast.tw8562795982336194089 : True := True.intro
theorem PySem.W.Fast.tw10351450161414050978 : True := True.intro
theorem PySem.W.Fast.tw6109977385129721876 : True := True.intro
theorem PySem.W.Fast.tw9987772524945706099 : True := True.intro
theorem PySem.W.Fast.tw514273973918287748 : True := True.intro
theorem PySem.W.Fast.tw1202393255858231577 : True := True.intro
theorem PySem.W.Fast.tw10441811157764451755 : True := True.intro
theorem PySem.W.Fast.tw12536219176591350176 : True := True.intro
theorem PySem.W.Fast.tw9243112210779065909 : True := True.intro
theorem PySem.W.Fast.tw8072748099502428794 : True := True.intro
theorem PySem.W.Fast.tw8280643919965867225 : True := True.intro
theorem PySem.W.Fast.tw17763592821986843359 : True := True.intro
theorem PySem.W.Fast.tw8485992246896072515 : True := True.intro
theorem PySem.W.Fast.tw806264404963655802 : True := True.intro
theorem PySem.W.Fast.tw2001478073400672182 : True := True.intro
theorem PySem.W.Fast.tw5844154445817810523 : True := True.intro
theorem PySem.W.Fast.tw4147952067448998029 : True := True.intro
theorem PySem.W.Fast.tw3863316906224976871 : True := True.intro
theorem PySem.W.Fast.tw2919092751379770727 : True := True.intro
theorem PySem.W.Fast.tw12297981936204358797 : True := True.intro
theorem PySem.W.Fast.tw17294731388989281341 : True := True.intro
theorem PySem.W.Fast.tw3963740245163912111 : True := True.intro
theorem PySem.W.Fast.tw5375611363049527535 : True := True.intro
theorem PySem.W.Fast.tw13612493103264329768 : True := True.intro
theorem PySem.W.Fast.tw7650885808655750755 : True := True.intro
theorem PySem.W.Fast.tw9483676802006162786 : True := True.intro
theorem PySem.W.Fast.tw5031459373107832089 : True := True.intro
theorem PySem.W.Fast.tw11801722840122377714 : True := True.intro
theorem PySem.W.Fast.tw11303745078608462492 : True := True.intro
theorem PySem.W.Fast.tw17272293873190200320 : True := True.intro
theorem PySem.W.Fast.tw16205466311663280209 : True := True.intro
theorem PySem.W.Fast.tw270573175172702640 : True := True.intro
theorem PySem.W.Fast.tw1703000842968183698 : True := True.intro
theorem PySem.W.Fast.tw5080438791908505504 : True := True.intro
theorem PySem.W.Fast.tw3225892756426888484 : True := True.intro
theorem PySem.W.Fast.tw2397014474375194640 : True := True.intro
theorem PySem.W.Fast.tw1479167248728168949 : True := True.intro
theorem PySem.W.Fast.tw13489614853008612877 : True := True.intro
theorem PySem.W.Fast.tw12247126877596357044 : True := True.intro
theorem PySem.W.Fast.tw14339574805222910779 : True := True.intro
theorem PySem.W.Fast.tw7557737208384134957 : True := True.intro
theorem PySem.W.Fast.tw7664566683889749823 : True := True.intro
theorem PySem.W.Fast.tw5671148153879100351 : True := True.intro
theorem PySem.W.Fast.tw11777863410581644620 : True := True.intro
theorem PySem.W.Fast.tw3024740685398198759 : True := True.intro
theorem PySem.W.Fast.tw3021916193304088201 : True := True.intro
theorem PySem.W.Fast.tw5595040419299317751 : True := True.intro
theorem PySem.W.Fast.tw2018188658125377839 : True := True.intro
theorem PySem.W.Fast.tw10624672077896373216 : True := True.intro
theorem PySem.W.Fast.tw9901878801410041832 : True := True.intro
theorem PySem.W.Fast.tw5578144959532820318 : True := True.intro
theorem PySem.W.Fast.tw1452422774964186870 : True := True.intro
theorem PySem.W.Fast.tw14361040758802477365 : True := True.intro
theorem PySem.W.Fast.tw12141064392553911820 : True := True.intro
theorem PySem.W.Fast.tw11994041147534972451 : True := True.intro
theorem PySem.W.Fast.tw6128039275089873552 : True := True.intro
theorem PySem.W.Fast.tw4868770004952342296 : True := True.intro
theorem PySem.W.Fast.tw18187428653309404202 : True := True.intro
theorem PySem.W.Fast.tw4094375724262431250 : True := True.intro
theorem PySem.W.Fast.tw12463416540067180877 : True := True.intro
theorem PySem.W.Fast.tw15316847103882099638 : True := True.intro
theorem PySem.W.Fast.tw1650196695880366756 : True := True.intro
theorem PySem.W.Fast.tw326622161119837754 : True := True.intro
theorem PySem.W.Fast.tw2758141576768828843 : True := True.intro
theorem PySem.W.Fast.tw9374626139118028477 : True := True.intro
theorem PySem.W.Fast.tw14169818199361002375 : True := True.intro
theorem PySem.W.Fast.tw16008179407237992329 : True := True.intro
theorem PySem.W.Fast.tw5340546388401020052 : True := True.intro
theorem PySem.W.Fast.tw9392052371480960008 : True := True.intro
theorem PySem.W.Fast.tw7193029881092051396 : True := True.intro
theorem PySem.W.Fast.tw15443202162752815020 : True := True.intro
theorem PySem.W.Fast.tw5831048376115246395 : True := True.intro
theorem PySem.W.Fast.tw10870466189729716896 : True := True.intro
theorem PySem.W.Fast.tw2451879645391380077 : True := True.intro
theorem PySem.W.Fast.tw11587514923015106323 : True := True.intro
theorem PySem.W.Fast.tw16088321005219637373 : True := True.intro
theorem PySem.W.Fast.tw25815985729203614 : True := True.intro
theorem PySem.W.Fast.tw4113261277799816873 : True := True.intro
theorem PySem.W.Fast.tw13120042105063598953 : True := True.intro
theorem PySem.W.Fast.tw11256475173355764729 : True := True.intro
theorem PySem.W.Fast.tw14609722175451898320 : True := True.intro
theorem PySem.W.Fast.tw10589131829244316780 : True := True.intro
theorem PySem.W.Fast.tw6816043393387875647 : True := True.intro
theorem PySem.W.Fast.tw5284687693252242697 : True := True.intro
theorem PySem.W.Fast.tw1317566782651033378 : True := True.intro
theorem PySem.W.Fast.tw12617767938394612012 : True := True.intro
theorem PySem.W.Fast.tw4070800434394424097 : True := True.intro
theorem PySem.W.Fast.tw17919755272155237608 : True := True.intro
theorem PySem.W.Fast.tw5259704289367493407 : True := True.intro
theorem PySem.W.Fast.tw6346806900761081819 : True := True.intro
theorem PySem.W.Fast.tw933179524068562685 : True := True.intro
theorem PySem.W.Fast.tw9082062335789964650 : True := True.intro
theorem PySem.W.Fast.tw16061774548372843806 : True := True.intro
theorem PySem.W.Fast.tw13455165554840043106 : True := True.intro
theorem PySem.W.Fast.tw6356407027191774768 : True := True.intro
theorem PySem.W.Fast.tw12566021126990234019 : True := True.intro
theorem PySem.W.Fast.tw6185985617645929556 : True := True.intro
theorem PySem.W.Fast.tw17398511913952853338 : True := True.intro
theorem PySem.W.Fast.tw4472496515248666841 : True := True.intro
theorem PySem.W.Fast.tw15712487594171120093 : True := True.intro
theorem PySem.W.Fast.tw8741941038122846489 : True := True.intro
theorem PySem.W.Fast.tw5407479052480094012 : True := True.intro
theorem PySem.W.Fast.tw18182521533277125645 : True := True.intro
theorem PySem.W.Fast.tw15061230130285583632 : True := True.intro
theorem PySem.W.Fast.tw9910118443366570796 : True := True.intro
theorem PySem.W.Fast.tw12249328215979980798 : True := True.intro
theorem PySem.W.Fast.tw12186410951152509857 : True := True.intro
theorem PySem.W.Fast.tw16014744848781147494 : True := True.intro
theorem PySem.W.Fast.tw1353219811707111800 : True := True.intro
theorem PySem.W.Fast.tw16512451097479085293 : True := True.intro
theorem PySem.W.Fast.tw10834928380505483402 : True := True.intro
theorem PySem.W.Fast.tw17869774580327774921 : True := True.intro
theorem PySem.W.Fast.tw6322624345745474860 : True := True.intro
theorem PySem.W.Fast.tw874031478199248627 : True := True.intro
theorem PySem.W.Fast.tw2409828435243627285 : True := True.intro
theorem PySem.W.Fast.tw747780198796738354 : True := True.intro
theorem PySem.W.Fast.tw15361297462199125920 : True := True.intro
theorem PySem.W.Fast.tw12122077248085636414 : True := True.intro
theorem PySem.W.Fast.tw12440957334860663738 : True := True.intro
theorem PySem.W.Fast.tw18146632567940072664 : True := True.intro
theorem PySem.W.Fast.tw4228568119366709112 : True := True.intro
theorem PySem.W.Fast.tw17492516784065455626 : True := True.intro
theorem PySem.W.Fast.tw13981720892433958870 : True := True.intro
theorem PySem.W.Fast.tw7184002915803902853 : True := True.intro
theorem PySem.W.Fast.tw4994598010473577692 : True := True.intro
theorem PySem.W.Fast.tw1360789095585734993 : True := True.intro
theorem PySem.W.Fast.tw9505218446848438976 : True := True.intro
theorem PySem.W.Fast.tw10223173802061816154 : True := True.intro
theorem PySem.W.Fast.tw18017701310950534693 : True := True.intro
theorem PySem.W.Fast.tw10010309674249203532 : True := True.intro
theorem PySem.W.Fast.tw8916007225354821899 : True := True.intro
theorem PySem.W.Fast.tw9556019627536308335 : True := True.intro
theorem PySem.W.Fast.tw16500525841415032170 : True := True.intro
theorem PySem.W.Fast.tw15991089707117345829 : True := True.intro
theorem PySem.W.Fast.tw3262307512675772798 : True := True.intro
theorem PySem.W.Fast.tw1240118206157184270 : True := True.intro
theorem PySem.W.Fast.tw4312055225117050420 : True := True.intro
theorem PySem.W.Fast.tw1190092511107488939 : True := True.intro
theorem PySem.W.Fast.tw7777180646237875582 : True := True.intro
theorem PySem.W.Fast.tw1008341675389997239 : True := True.intro
theorem PySem.W.Fast.tw5935882037535570500 : True := True.intro
theorem PySem.W.Fast.tw14192337797832942150 : True := True.intro
theorem PySem.W.Fast.tw9420370243292245591 : True := True.intro
theorem PySem.W.Fast.tw8634577871892683594 : True := True.intro
theorem PySem.W.Fast.tw12763502027273549204 : True := True.intro
theorem PySem.W.Fast.tw2698553453961764990 : True := True.intro
theorem PySem.W.Fast.tw17919232045524065447 : True := True.intro
theorem PySem.W.Fast.tw5995631099397717547 : True := True.intro
theorem PySem.W.Fast.tw3344701956108310845 : True := True.intro
theorem PySem.W.Fast.tw9612113801855230324 : True := True.intro
theorem PySem.W.Fast.tw5942572696169914696 : True := True.intro
theorem PySem.W.Fast.tw8660543138721768898 : True := True.intro
theorem PySem.W.Fast.tw6681460739490612210 : True := True.intro
theorem PySem.W.Fast.tw98742279694293965 : True := True.intro
theorem PySem.W.Fast.tw1155276559832531796 : True := True.intro
theorem PySem.W.Fast.tw16775266636419240407 : True := True.intro
theorem PySem.W.Fast.tw10603595680546376005 : True := True.intro
theorem PySem.W.Fast.tw6897188702690097602 : True := True.intro
theorem PySem.W.Fast.tw12611896233414544926 : True := True.intro
theorem PySem.W.Fast.tw17674255140529709609 : True := True.intro
theorem PySem.W.Fast.tw17103227294817363112 : True := True.intro
theorem PySem.W.Fast.tw15429628845685106368 : True := True.intro
theorem PySem.W.Fast.tw13302167753987883299 : True := True.intro
theorem PySem.W.Fast.tw5666776653731589688 : True := True.intro
theorem PySem.W.Fast.tw15520984361132904392 : True := True.intro
theorem PySem.W.Fast.tw760588228415339220 : True := True.intro
theorem PySem.W.Fast.tw13258782813764139269 : True := True.intro
theorem PySem.W.Fast.tw11943940461231969791 : True := True.intro
theorem PySem.W.Fast.tw10317228108256033789 : True := True.intro
theorem PySem.W.Fast.tw3403528145320640525 : True := True.intro
theorem PySem.W.Fast.tw4164769666266771378 : True := True.intro
theorem PySem.W.Fast.tw14163567831655091336 : True := True.intro
theorem PySem.W.Fast.tw9374161591453723909 : True := True.intro
theorem PySem.W.Fast.tw13122803401912705004 : True := True.intro
theorem PySem.W.Fast.tw14285560402947881591 : True := True.intro
theorem PySem.W.Fast.tw8916022864176779790 : True := True.intro
theorem PySem.W.Fast.tw3384476921639129276 : True := True.intro
theorem PySem.W.Fast.tw8419330011506490282 : True := True.intro
theorem PySem.W.Fast.tw6194383308315626966 : True := True.intro
theorem PySem.W.Fast.tw11656745824153515986 : True := True.intro
theorem PySem.W.Fast.tw1040078555725105023 : True := True.intro
theorem PySem.W.Fast.tw1461909228977607624 : True := True.intro
theorem PySem.W.Fast.tw15551073433392606219 : True := True.intro
theorem PySem.W.Fast.tw1386209861572280496 : True := True.intro
theorem PySem.W.Fast.tw3152474284157454913 : True := True.intro
theorem PySem.W.Fast.tw8221582101584425644 : True := True.intro
theorem PySem.W.Fast.tw15664524010427516563 : True := True.intro
theorem PySem.W.Fast.tw4452648193818236742 : True := True.intro
theorem PySem.W.Fast.tw1989675938482684469 : True := True.intro
theorem PySem.W.Fast.tw2946319267454949766 : True := True.intro
theorem PySem.W.Fast.tw16862009512611766827 : True := True.intro
theorem PySem.W.Fast.tw4600567117162675861 : True := True.intro
theorem PySem.W.Fast.tw3781153934210481939 : True := True.intro
theorem PySem.W.Fast.tw4440719094156450059 : True := True.intro
theorem PySem.W.Fast.tw4286899436068714389 : True := True.intro
theorem PySem.W.Fast.tw8221247278109207953 : True := True.intro
theorem PySem.W.Fast.tw8231001330972096269 : True := True.intro
theorem PySem.W.Fast.tw9218574035167128528 : True := True.intro
theorem PySem.W.Fast.tw8898530650611669215 : True := True.intro
theorem PySem.W.Fast.tw13935749846597563125 : True := True.intro
theorem PySem.W.Fast.tw1599961134293323485 : True := True.intro
theorem PySem.W.Fast.tw11019413500124366522 : True := True.intro
theorem PySem.W.Fast.tw4871048813425314272 : True := True.intro
theorem PySem.W.Fast.tw10375069036921869744 : True := True.intro
theorem PySem.W.Fast.tw15977398157910400751 : True := True.intro
theorem PySem.W.Fast.tw13042316191131099898 : True := True.intro
theorem PySem.W.Fast.tw168528005745956179 : True := True.intro
theorem PySem.W.Fast.tw17003120826133458516 : True := True.intro
theorem PySem.W.Fast.tw5987846238804608393 : True := True.intro
theorem PySem.W.Fast.tw4643457300795789268 : True := True.intro
theorem PySem.W.Fast.tw1879492133226086618 : True := True.intro
theorem PySem.W.Fast.tw13727230653397640788 : True := True.intro
theorem PySem.W.Fast.tw2233129717702252661 : True := True.intro
theorem PySem.W.Fast.tw13365295604477297921 : True := True.intro
theorem PySem.W.Fast.tw14108688129123778177 : True := True.intro
theorem PySem.W.Fast.tw523667453624868368 : True := True.intro
theorem PySem.W.Fast.tw8303278184750623156 : True := True.intro
theorem PySem.W.Fast.tw13140893905042380517 : True := True.intro
theorem PySem.W.Fast.tw8486121703480909818 : True := True.intro
theorem PySem.W.Fast.tw5608082129599783847 : True := True.intro
theorem PySem.W.Fast.tw6515057182444793119 : True := True.intro
theorem PySem.W.Fast.tw7053875022765389733 : True := True.intro
theorem PySem.W.Fast.tw12647208391343178198 : True := True.intro
theorem PySem.W.Fast.tw7692282306699864575 : True := True.intro
theorem PySem.W.Fast.tw8882760372389373540 : True := True.intro
theorem PySem.W.Fast.tw9416781863386546191 : True := True.intro
theorem PySem.W.Fast.tw15255072001227772852 : True := True.intro
theorem PySem.W.Fast.tw7513091900016920635 : True := True.intro
theorem PySem.W.Fast.tw8685047091322414748 : True := True.intro
theorem PySem.W.Fast.tw7421373824229471510 : True := True.intro
theorem PySem.W.Fast.tw11797398423431928511 : True := True.intro
theorem PySem.W.Fast.tw12095326359891577771 : True := True.intro
theorem PySem.W.Fast.tw15909348462104809345 : True := True.intro
theorem PySem.W.Fast.tw1443070556182847662 : True := True.intro
theorem PySem.W.Fast.tw7004385246420721388 : True := True.intro
theorem PySem.W.Fast.tw17684252226158967727 : True := True.intro
theorem PySem.W.Fast.tw1981239967599630693 : True := True.intro
theorem PySem.W.Fast.tw17675694888141408915 : True := True.intro
theorem PySem.W.Fast.tw8898121145995329810 : True := True.intro
theorem PySem.W.Fast.tw9683488283141935658 : True := True.intro
theorem PySem.W.Fast.tw12153314601492913185 : True := True.intro
theorem PySem.W.Fast.tw1074460152611858204 : True := True.intro
theorem PySem.W.Fast.tw7730210442478957962 : True := True.intro
theorem PySem.W.Fast.tw16329348883829871175 : True := True.intro
theorem PySem.W.Fast.tw1440400843776658232 : True := True.intro
theorem PySem.W.Fast.tw5674818120880701899 : True := True.intro
theorem PySem.W.Fast.tw13723137777108376755 : True := True.intro
theorem PySem.W.Fast.tw8079487507472876349 : True := True.intro
theorem PySem.W.Fast.tw12242071931711038803 : True := True.intro
theorem PySem.W.Fast.tw11527598818130396724 : True := True.intro
theorem PySem.W.Fast.tw9999929039880494886 : True := True.intro
theorem PySem.W.Fast.tw11940380970698439981 : True := True.intro
theorem PySem.W.Fast.tw18173113768943732310 : True := True.intro
theorem PySem.W.Fast.tw14863863219622332204 : True := True.intro
theorem PySem.W.Fast.tw1267173609799452365 : True := True.intro
theorem PySem.W.Fast.tw2893307988277981073 : True := True.intro
theorem PySem.W.Fast.tw10262335873927141233 : True := True.intro
theorem PySem.W.Fast.tw1306060315288688193 : True := True.intro
theorem PySem.W.Fast.tw17683694584600618269 : True := True.intro
theorem PySem.W.Fast.tw14555726863318377123 : True := True.intro
theorem PySem.W.Fast.tw6888399916491241059 : True := True.intro
theorem PySem.W.Fast.tw2159664417681045099 : True := True.intro
theorem PySem.W.Fast.tw12150853843276459353 : True := True.intro
theorem PySem.W.Fast.tw13766606869987421022 : True := True.intro
theorem PySem.W.Fast.tw15602717192357515815 : True := True.intro
theorem PySem.W.Fast.tw725100805832354553 : True := True.intro
theorem PySem.W.Fast.tw12612378276433302008 : True := True.intro
theorem PySem.W.Fast.tw7068755533125344484 : True := True.intro
theorem PySem.W.Fast.tw2488879535294710945 : True := True.intro
theorem PySem.W.Fast.tw1311521806282942712 : True := True.intro
theorem PySem.W.Fast.tw8429004159142139014 : True := True.intro
theorem PySem.W.Fast.tw17137940423262975920 : True := True.intro
theorem PySem.W.Fast.tw15787929655947325276 : True := True.intro
theorem PySem.W.Fast.tw12260446539271611787 : True := True.intro
theorem PySem.W.Fast.tw6974851385035639350 : True := True.intro
theorem PySem.W.Fast.tw8972105664869495114 : True := True.intro
theorem PySem.W.Fast.tw17700205679819899023 : True := True.intro
theorem PySem.W.Fast.tw8213723497731435689 : True := True.intro
theorem PySem.W.Fast.tw2561477691784457405 : True := True.intro
theorem PySem.W.Fast.tw13705886632798764390 : True := True.intro
theorem PySem.W.Fast.tw17029146624213441979 : True := True.intro
theorem PySem.W.Fast.tw7886182463057684939 : True := True.intro
theorem PySem.W.Fast.tw4888674081229626360 : True := True.intro
theorem PySem.W.Fast.tw16121485382234094008 : True := True.intro
theorem PySem.W.Fast.tw916988969988837335 : True := True.intro
theorem PySem.W.Fast.tw17067448053247062437 : True := True.intro
theorem PySem.W.Fast.tw9709405574642226308 : True := True.intro
theorem PySem.W.Fast.tw7970468875798623710 : True := True.intro
theorem PySem.W.Fast.tw6596402558877801676 : True := True.intro
theorem PySem.W.Fast.tw5817690011980498953 : True := True.intro
theorem PySem.W.Fast.tw10523644760984254498 : True := True.intro
theorem PySem.W.Fast.tw15358435065447534382 : True := True.intro
theorem PySem.W.Fast.tw8445214133034355794 : True := True.intro
theorem PySem.W.Fast.tw14447439138729214591 : True := True.intro
theorem PySem.W.Fast.tw5629418997482505937 : True := True.intro
theorem PySem.W.Fast.tw2410745288473765170 : True := True.intro
theorem PySem.W.Fast.tw11397072561717075507 : True := True.intro
theorem PySem.W.Fast.tw1205759389689177002 : True := True.intro
theorem PySem.W.Fast.tw6690940757556443359 : True := True.intro
theorem PySem.W.Fast.tw9449018429837552872 : True := True.intro
theorem PySem.W.Fast.tw5427797423192438388 : True := True.intro
theorem PySem.W.Fast.tw5188105139725052208 : True := True.intro
theorem PySem.W.Fast.tw2577551695173122520 : True := True.intro
theorem PySem.W.Fast.tw16978215101459885812 : True := True.intro
theorem PySem.W.Fast.tw6821052471912985133 : True := True.intro
theorem PySem.W.Fast.tw8227502635673857420 : True := True.intro
theorem PySem.W.Fast.tw8826804697564361291 : True := True.intro
theorem PySem.W.Fast.tw3008616417921931031 : True := True.intro
theorem PySem.W.Fast.tw15754747716121465005 : True := True.intro
theorem PySem.W.Fast.tw11072300307575375844 : True := True.intro
theorem PySem.W.Fast.tw9250833798098076144 : True := True.intro
theorem PySem.W.Fast.tw14276209687897301565 : True := True.intro
theorem PySem.W.Fast.tw17618053080768287497 : True := True.intro
theorem PySem.W.Fast.tw7301133889976079660 : True := True.intro
theorem PySem.W.Fast.tw9217163613709221987 : True := True.intro
theorem PySem.W.Fast.tw89177516908411463 : True := True.intro
theorem PySem.W.Fast.tw4841566295658685742 : True := True.intro
theorem PySem.W.Fast.tw8077814965266642297 : True := True.intro
theorem PySem.W.Fast.tw1032252570047867713 : True := True.intro
theorem PySem.W.Fast.tw12395739692588007932 : True := True.intro
theorem PySem.W.Fast.tw16228949705227596879 : True := True.intro
theorem PySem.W.Fast.tw2385839939034069049 : True := True.intro
theorem PySem.W.Fast.tw16131080028767661076 : True := True.intro
theorem PySem.W.Fast.tw1106990259982000842 : True := True.intro
theorem PySem.W.Fast.tw17060501091379969258 : True := True.intro
theorem PySem.W.Fast.tw14982604090668277271 : True := True.intro
theorem PySem.W.Fast.tw8763139001212341545 : True := True.intro
theorem PySem.W.Fast.tw3611701407860537854 : True := True.intro
theorem PySem.W.Fast.tw13130070641632760401 : True := True.intro
theorem PySem.W.Fast.tw16178819434071326566 : True := True.intro
theorem PySem.W.Fast.tw5942801811632699654 : True := True.intro
theorem PySem.W.Fast.tw2232530345557858859 : True := True.intro
theorem PySem.W.Fast.tw10960341846841683389 : True := True.intro
theorem PySem.W.Fast.tw7619143078376641379 : True := True.intro
theorem PySem.W.Fast.tw11722926562174217928 : True := True.intro
theorem PySem.W.Fast.tw17051954116541999984 : True := True.intro
theorem PySem.W.Fast.tw4479156171572860809 : True := True.intro
theorem PySem.W.Fast.tw6150112903092357712 : True := True.intro
theorem PySem.W.Fast.tw11660017420857225849 : True := True.intro
theorem PySem.W.Fast.tw1059851447069805979 : True := True.intro
theorem PySem.W.Fast.tw9479616552487444198 : True := True.intro
theorem PySem.W.Fast.tw5648719871727588978 : True := True.intro
theorem PySem.W.Fast.tw7820825499096662635 : True := True.intro
theorem PySem.W.Fast.tw761761170513861764 : True := True.intro
theorem PySem.W.Fast.tw12552198150678745 : True := True.intro
theorem PySem.W.Fast.tw13102582119812423936 : True := True.intro
theorem PySem.W.Fast.tw11130860772245065689 : True := True.intro
theorem PySem.W.Fast.tw2189285200558138970 : True := True.intro
theorem PySem.W.Fast.tw15134819754926954096 : True := True.intro
theorem PySem.W.Fast.tw5689113697754645434 : True := True.intro
theorem PySem.W.Fast.tw15010703830735459019 : True := True.intro
theorem PySem.W.Fast.tw3952598355818888130 : True := True.intro
theorem PySem.W.Fast.tw11253429232001622404 : True := True.intro
theorem PySem.W.Fast.tw803391035545762342 : True := True.intro
theorem PySem.W.Fast.tw10331400291447384115 : True := True.intro
theorem PySem.W.Fast.tw12199728520174752775 : True := True.intro
theorem PySem.W.Fast.tw15266165936019537003 : True := True.intro
theorem PySem.W.Fast.tw11952490176069483408 : True := True.intro
theorem PySem.W.Fast.tw5157116922390668180 : True := True.intro
theorem PySem.W.Fast.tw12034814288713519400 : True := True.intro
theorem PySem.W.Fast.tw12852900574479526034 : True := True.intro
theorem PySem.W.Fast.tw8731670454422253417 : True := True.intro
theorem PySem.W.Fast.tw9169891891667828211 : True := True.intro
theorem PySem.W.Fast.tw4125585792618254666 : True := True.intro
theorem PySem.W.Fast.tw14700579972059658657 : True := True.intro
theorem PySem.W.Fast.tw10691111039214187881 : True := True.intro
theorem PySem.W.Fast.tw1072673430788599460 : True := True.intro
theorem PySem.W.Fast.tw13636595702627812347 : True := True.intro
theorem PySem.W.Fast.tw4831985259557931295 : True := True.intro
theorem PySem.W.Fast.tw2127834334836372266 : True := True.intro
theorem PySem.W.Fast.tw6346669951954844722 : True := True.intro
theorem PySem.W.Fast.tw15485449147505115899 : True := True.intro
theorem PySem.W.Fast.tw8202248227592603035 : True := True.intro
theorem PySem.W.Fast.tw3649924360561637269 : True := True.intro
theorem PySem.W.Fast.tw9167789765673824222 : True := True.intro
theorem PySem.W.Fast.tw3624372739311135009 : True := True.intro
theorem PySem.W.Fast.tw12944152233494430901 : True := True.intro
theorem PySem.W.Fast.tw6825271323862622710 : True := True.intro
theorem PySem.W.Fast.tw15530561550441008639 : True := True.intro
theorem PySem.W.Fast.tw7048546858393589270 : True := True.intro
theorem PySem.W.Fast.tw15197224008004208975 : True := True.intro
theorem PySem.W.Fast.tw7765115956081093072 : True := True.intro
theorem PySem.W.Fast.tw9511165381901608219 : True := True.intro
theorem PySem.W.Fast.tw2443066711756319740 : True := True.intro
theorem PySem.W.Fast.tw16816173833959216876 : True := True.intro
theorem PySem.W.Fast.tw8654052456828434497 : True := True.intro
theorem PySem.W.Fast.tw7389455393871563707 : True := True.intro
theorem PySem.W.Fast.tw5247729991056936993 : True := True.intro
theorem PySem.W.Fast.tw1163822206291703828 : True := True.intro
theorem PySem.W.Fast.tw3670131635055976287 : True := True.intro
theorem PySem.W.Fast.tw4731878128452757160 : True := True.intro
theorem PySem.W.Fast.tw7871821764511098993 : True := True.intro
theorem PySem.W.Fast.tw10980081502637994716 : True := True.intro
theorem PySem.W.Fast.tw14929719511050942785 : True := True.intro
theorem PySem.W.Fast.tw12027712058936593860 : True := True.intro
theorem PySem.W.Fast.tw14414983480776361718 : True := True.intro
theorem PySem.W.Fast.tw1030563230000278940 : True := True.intro
theorem PySem.W.Fast.tw14061471376445704736 : True := True.intro
theorem PySem.W.Fast.tw4823956064546692832 : True := True.intro
theorem PySem.W.Fast.tw5616210577766238585 : True := True.intro
theorem PySem.W.Fast.tw16939127465066354081 : True := True.intro
theorem PySem.W.Fast.tw1826536779203560471 : True := True.intro
theorem PySem.W.Fast.tw14324536545477580334 : True := True.intro
theorem PySem.W.Fast.tw3815570761435441307 : True := True.intro
theorem PySem.W.Fast.tw17816556348058365975 : True := True.intro
theorem PySem.W.Fast.tw16482414723426473596 : True := True.intro
theorem PySem.W.Fast.tw17882506406527597367 : True := True.intro
theorem PySem.W.Fast.tw16886742672354258805 : True := True.intro
theorem PySem.W.Fast.tw7113295936265788007 : True := True.intro
theorem PySem.W.Fast.tw1949858475501622711 : True := True.intro
theorem PySem.W.Fast.tw9516648267864331324 : True := True.intro
theorem PySem.W.Fast.tw235278626837245325 : True := True.intro
theorem PySem.W.Fast.tw17306676107453478989 : True := True.intro
theorem PySem.W.Fast.tw9255518280039589238 : True := True.intro
theorem PySem.W.Fast.tw8150926014784906451 : True := True.intro
theorem PySem.W.Fast.tw14731675465542837857 : True := True.intro
theorem PySem.W.Fast.tw6503505152445913829 : True := True.intro
theorem PySem.W.Fast.tw7633355745810608276 : True := True.intro
theorem PySem.W.Fast.tw10103284199288443882 : True := True.intro
theorem PySem.W.Fast.tw3540141776733210229 : True := True.intro
theorem PySem.W.Fast.tw2851863790720956150 : True := True.intro
theorem PySem.W.Fast.tw7869091284717641643 : True := True.intro
theorem PySem.W.Fast.tw16958093839624642234 : True := True.intro
theorem PySem.W.Fast.tw16201213225793585843 : True := True.intro
theorem PySem.W.Fast.tw1756922546127973658 : True := True.intro
theorem PySem.W.Fast.tw7463509066597261996 : True := True.intro
theorem PySem.W.Fast.tw5220042703106728017 : True := True.intro
theorem PySem.W.Fast.tw8701425566112631313 : True := True.intro
theorem PySem.W.Fast.tw6463100976883815749 : True := True.intro
theorem PySem.W.Fast.tw7087702081267626422 : True := True.intro
theorem PySem.W.Fast.tw6420446979869048916 : True := True.intro
theorem PySem.W.Fast.tw1902043894915825114 : True := True.intro
theorem PySem.W.Fast.tw9312284764334260695 : True := True.intro
theorem PySem.W.Fast.tw15024399870844755889 : True := True.intro
theorem PySem.W.Fast.tw13746969575297358982 : True := True.intro
theorem PySem.W.Fast.tw6524127101069910810 : True := True.intro
theorem PySem.W.Fast.tw545004791852097403 : True := True.intro
theorem PySem.W.Fast.tw8988173768218813751 : True := True.intro
theorem PySem.W.Fast.tw12698929625442396655 : True := True.intro
theorem PySem.W.Fast.tw17682496046198930158 : True := True.intro
theorem PySem.W.Fast.tw17229897911897412982 : True := True.intro
theorem PySem.W.Fast.tw14011418588275501656 : True := True.intro
theorem PySem.W.Fast.tw16316211565493654459 : True := True.intro
theorem PySem.W.Fast.tw14541584560644976705 : True := True.intro
theorem PySem.W.Fast.tw2915911031979189759 : True := True.intro
theorem PySem.W.Fast.tw16954634170146626304 : True := True.intro
theorem PySem.W.Fast.tw6920562049833903126 : True := True.intro
theorem PySem.W.Fast.tw10553692561257158671 : True := True.intro
theorem PySem.W.Fast.tw15507330637726478734 : True := True.intro
theorem PySem.W.Fast.tw8767539312385454194 : True := True.intro
theorem PySem.W.Fast.tw2223098579730754461 : True := True.intro
theorem PySem.W.Fast.tw7970388759047414960 : True := True.intro
theorem PySem.W.Fast.tw13056441358653012894 : True := True.intro
theorem PySem.W.Fast.tw11628475777664184871 : True := True.intro
theorem PySem.W.Fast.tw316377885296751122 : True := True.intro
theorem PySem.W.Fast.tw15417894868824293015 : True := True.intro
theorem PySem.W.Fast.tw16626599111736034609 : True := True.intro
theorem PySem.W.Fast.tw8575327649608213040 : True := True.intro
theorem PySem.W.Fast.tw18420661937038614906 : True := True.intro
theorem PySem.W.Fast.tw9370020386759619846 : True := True.intro
theorem PySem.W.Fast.tw8702063475133653675 : True := True.intro
theorem PySem.W.Fast.tw10849579077628165736 : True := True.intro
theorem PySem.W.Fast.tw11903895840227240007 : True := True.intro
theorem PySem.W.Fast.tw2527323709481601507 : True := True.intro
theorem PySem.W.Fast.tw12297443659104901648 : True := True.intro
theorem PySem.W.Fast.tw10797969546460429275 : True := True.intro
theorem PySem.W.Fast.tw3996065469675443397 : True := True.intro
theorem PySem.W.Fast.tw13383617474941072268 : True := True.intro
theorem PySem.W.Fast.tw5517746803462608347 : True := True.intro
theorem PySem.W.Fast.tw12527323063247312926 : True := True.intro
theorem PySem.W.Fast.tw4405623798273115639 : True := True.intro
theorem PySem.W.Fast.tw17567359528827752900 : True := True.intro
theorem PySem.W.Fast.tw35124037050211290 : True := True.intro
theorem PySem.W.Fast.tw1490485083712567898 : True := True.intro
theorem PySem.W.Fast.tw2040346374311523788 : True := True.intro
theorem PySem.W.Fast.tw10103899729045242142 : True := True.intro
theorem PySem.W.Fast.tw15971200071653827659 : True := True.intro
theorem PySem.W.Fast.tw12730377329077035164 : True := True.intro
theorem PySem.W.Fast.tw8910187366690236483 : True := True.intro
theorem PySem.W.Fast.tw15676706945202860229 : True := True.intro
theorem PySem.W.Fast.tw17356088789797354066 : True := True.intro
theorem PySem.W.Fast.tw10276675216486071192 : True := True.intro
theorem PySem.W.Fast.tw8958837808825737391 : True := True.intro
theorem PySem.W.Fast.tw11247908140671787523 : True := True.intro
theorem PySem.W.Fast.tw10446494147862020862 : True := True.intro
theorem PySem.W.Fast.tw15798585363124413810 : True := True.intro
theorem PySem.W.Fast.tw10098125202171254314 : True := True.intro
theorem PySem.W.Fast.tw16669665298238568924 : True := True.intro
theorem PySem.W.Fast.tw12513417665978113047 : True := True.intro
theorem PySem.W.Fast.tw10465650866343711386 : True := True.intro
theorem PySem.W.Fast.tw17144129020629769005 : True := True.intro
theorem PySem.W.Fast.tw2173649915378285445 : True := True.intro
theorem PySem.W.Fast.tw7629442729821698465 : True := True.intro
theorem PySem.W.Fast.tw4680356544363988393 : True := True.intro
theorem PySem.W.Fast.tw5491945506765012767 : True := True.intro
theorem PySem.W.Fast.tw2218533619294064889 : True := True.intro
theorem PySem.W.Fast.tw6549918348605913035 : True := True.intro
theorem PySem.W.Fast.tw6013062691758968710 : True := True.intro
theorem PySem.W.Fast.tw5026854412337427579 : True := True.intro
theorem PySem.W.Fast.tw6711180319206145098 : True := True.intro
theorem PySem.W.Fast.tw2608241143638058559 : True := True.intro
theorem PySem.W.Fast.tw2145535805918661203 : True := True.intro
theorem PySem.W.Fast.tw8785182681494335080 : True := True.intro
theorem PySem.W.Fast.tw5489597655292400789 : True := True.intro
theorem PySem.W.Fast.tw5886142280453028323 : True := True.intro
theorem PySem.W.Fast.tw7334023445949068008 : True := True.intro
theorem PySem.W.Fast.tw11797452765427693719 : True := True.intro
theorem PySem.W.Fast.tw8202738120999660199 : True := True.intro
theorem PySem.W.Fast.tw13987114124219415672 : True := True.intro
theorem PySem.W.Fast.tw11522748427747135315 : True := True.intro
theorem PySem.W.Fast.tw10913327738175287306 : True := True.intro
theorem PySem.W.Fast.tw8474831525568732922 : True := True.intro
theorem PySem.W.Fast.tw13529989441692180500 : True := True.intro
theorem PySem.W.Fast.tw12667065778064365014 : True := True.intro
theorem PySem.W.Fast.tw7872225702927391252 : True := True.intro
theorem PySem.W.Fast.tw12660573674884371946 : True := True.intro
theorem PySem.W.Fast.tw6275859369803650818 : True := True.intro
theorem PySem.W.Fast.tw4449141091615628808 : True := True.intro
theorem PySem.W.Fast.tw5903170841040106289 : True := True.intro
theorem PySem.W.Fast.tw1480951376888904853 : True := True.intro
theorem PySem.W.Fast.tw15472592020330876259 : True := True.intro
theorem PySem.W.Fast.tw15190100412493203089 : True := True.intro
theorem PySem.W.Fast.tw4089294120894495242 : True := True.intro
theorem PySem.W.Fast.tw13377199020073451516 : True := True.intro
theorem PySem.W.Fast.tw3748697068842167269 : True := True.intro
theorem PySem.W.Fast.tw6885871936771970151 : True := True.intro
theorem PySem.W.Fast.tw17266855107546855280 : True := True.intro
theorem PySem.W.Fast.tw18371878502878272173 : True := True.intro
theorem PySem.W.Fast.tw4410530717785390905 : True := True.intro
theorem PySem.W.Fast.tw9834160737360819365 : True := True.intro
theorem PySem.W.Fast.tw17787912850112606842 : True := True.intro
theorem PySem.W.Fast.tw2959331817780724941 : True := True.intro
theorem PySem.W.Fast.tw155634349182801387 : True := True.intro
theorem PySem.W.Fast.tw8839344368831691451 : True := True.intro
theorem PySem.W.Fast.tw11662697853772101163 : True := True.intro
theorem PySem.W.Fast.tw10008239899029734372 : True := True.intro
theorem PySem.W.Fast.tw17642190746817761057 : True := True.intro
theorem PySem.W.Fast.tw8998318069138625912 : True := True.intro
theorem PySem.W.Fast.tw14561296769828949219 : True := True.intro
theorem PySem.W.Fast.tw14968503476178688857 : True := True.intro
theorem PySem.W.Fast.tw14060593047041600211 : True := True.intro
theorem PySem.W.Fast.tw10069564263382233585 : True := True.intro
theorem PySem.W.Fast.tw3201828572081609440 : True := True.intro
theorem PySem.W.Fast.tw8356106863058825898 : True := True.intro
theorem PySem.W.Fast.tw4901097956879985818 : True := True.intro
theorem PySem.W.Fast.tw4745388580534499523 : True := True.intro
theorem PySem.W.Fast.tw13587327487864232650 : True := True.intro
theorem PySem.W.Fast.tw10819354588301885511 : True := True.intro
theorem PySem.W.Fast.tw8834762830314010799 : True := True.intro
theorem PySem.W.Fast.tw5700315147016222995 : True := True.intro
theorem PySem.W.Fast.tw9077122126466113030 : True := True.intro
theorem PySem.W.Fast.tw18153409292113543800 : True := True.intro
theorem PySem.W.Fast.tw9401051850653034927 : True := True.intro
theorem PySem.W.Fast.tw17404847926267084868 : True := True.intro
theorem PySem.W.Fast.tw4539446150478466764 : True := True.intro
theorem PySem.W.Fast.tw2049355832357916093 : True := True.intro
theorem PySem.W.Fast.tw4015759965284638459 : True := True.intro
theorem PySem.W.Fast.tw18133030735220260878 : True := True.intro
theorem PySem.W.Fast.tw5934269433250785638 : True := True.intro
theorem PySem.W.Fast.tw12612362417445470735 : True := True.intro
theorem PySem.W.Fast.tw3899674253138236005 : True := True.intro
theorem PySem.W.Fast.tw12893170194757638184 : True := True.intro
theorem PySem.W.Fast.tw4548943902707402494 : True := True.intro
theorem PySem.W.Fast.tw14718015610580582807 : True := True.intro
theorem PySem.W.Fast.tw12007137510957588370 : True := True.intro
theorem PySem.W.Fast.tw6574457227506875674 : True := True.intro
theorem PySem.W.Fast.tw4896082633301595636 : True := True.intro
theorem PySem.W.Fast.tw9204417544271663658 : True := True.intro
theorem PySem.W.Fast.tw10030326059919099698 : True := True.intro
theorem PySem.W.Fast.tw5365858994248599098 : True := True.intro
theorem PySem.W.Fast.tw13811084864125061148 : True := True.intro
theorem PySem.W.Fast.tw7214907529125194277 : True := True.intro
theorem PySem.W.Fast.tw4002127157369627000 : True := True.intro
theorem PySem.W.Fast.tw10363827445404483412 : True := True.intro
theorem PySem.W.Fast.tw1748137314044491 : True := True.intro
theorem PySem.W.Fast.tw15122984679498155399 : True := True.intro
theorem PySem.W.Fast.tw15011687727760260112 : True := True.intro
theorem PySem.W.Fast.tw9039352906288682677 : True := True.intro
theorem PySem.W.Fast.tw116429707002809972 : True := True.intro
theorem PySem.W.Fast.tw16641675798762495188 : True := True.intro
theorem PySem.W.Fast.tw1557855942615283707 : True := True.intro
theorem PySem.W.Fast.tw4244204336758084483 : True := True.intro
theorem PySem.W.Fast.tw10847533088353432037 : True := True.intro
theorem PySem.W.Fast.tw5579724061022471078 : True := True.intro
theorem PySem.W.Fast.tw8831586435721629936 : True := True.intro
theorem PySem.W.Fast.tw13196235453315802309 : True := True.intro
theorem PySem.W.Fast.tw14290112876141377691 : True := True.intro
theorem PySem.W.Fast.tw3463171003708630159 : True := True.intro
theorem PySem.W.Fast.tw10729437036953784204 : True := True.intro
theorem PySem.W.Fast.tw4071988178279762599 : True := True.intro
theorem PySem.W.Fast.tw10763913059153343728 : True := True.intro
theorem PySem.W.Fast.tw7475977247867849183 : True := True.intro
theorem PySem.W.Fast.tw16008640099157333143 : True := True.intro
theorem PySem.W.Fast.tw15042328326206072469 : True := True.intro
theorem PySem.W.Fast.tw1743789892601938031 : True := True.intro
theorem PySem.W.Fast.tw9440070163917517508 : True := True.intro
theorem PySem.W.Fast.tw13197819728116378622 : True := True.intro
theorem PySem.W.Fast.tw1896402702669751534 : True := True.intro
theorem PySem.W.Fast.tw2280945701644202937 : True := True.intro
theorem PySem.W.Fast.tw205073713340465048 : True := True.intro
theorem PySem.W.Fast.tw17991854602020520999 : True := True.intro
theorem PySem.W.Fast.tw11489900807730367698 : True := True.intro
theorem PySem.W.Fast.tw11456367898901344190 : True := True.intro
theorem PySem.W.Fast.tw2728796952008748199 : True := True.intro
theorem PySem.W.Fast.tw15233422279880925748 : True := True.intro
theorem PySem.W.Fast.tw6713027482550689890 : True := True.intro
theorem PySem.W.Fast.tw18323354533850932649 : True := True.intro
theorem PySem.W.Fast.tw12360043223909795879 : True := True.intro
theorem PySem.W.Fast.tw10896297833692733547 : True := True.intro
theorem PySem.W.Fast.tw3018492331382814691 : True := True.intro
theorem PySem.W.Fast.tw2184570752735100054 : True := True.intro
theorem PySem.W.Fast.tw8938628755580660905 : True := True.intro
theorem PySem.W.Fast.tw8982945234119268508 : True := True.intro
theorem PySem.W.Fast.tw11142003868208558198 : True := True.intro
theorem PySem.W.Fast.tw8784563674646288411 : True := True.intro
theorem PySem.W.Fast.tw346649775309784589 : True := True.intro
theorem PySem.W.Fast.tw53077546827427427 : True := True.intro
theorem PySem.W.Fast.tw8653394375975772082 : True := True.intro
theorem PySem.W.Fast.tw2644284712471323468 : True := True.intro
theorem PySem.W.Fast.tw4966969413327016457 : True := True.intro
theorem PySem.W.Fast.tw7005565635866413557 : True := True.intro
theorem PySem.W.Fast.tw10702984005793370726 : True := True.intro
theorem PySem.W.Fast.tw7263492066469550504 : True := True.intro
theorem PySem.W.Fast.tw10854230648755350119 : True := True.intro
theorem PySem.W.Fast.tw15275656769213007606 : True := True.intro
theorem PySem.W.Fast.tw6667931561433948508 : True := True.intro
theorem PySem.W.Fast.tw10230532548889463044 : True := True.intro
theorem PySem.W.Fast.tw89004185919660709 : True := True.intro
theorem PySem.W.Fast.tw5685264233158889736 : True := True.intro
theorem PySem.W.Fast.tw9004478591115803969 : True := True.intro
theorem PySem.W.Fast.tw2191153145065401626 : True := True.intro
theorem PySem.W.Fast.tw18364279176701903780 : True := True.intro
theorem PySem.W.Fast.tw14603222762867383748 : True := True.intro
theorem PySem.W.Fast.tw17671380312713032455 : True := True.intro
theorem PySem.W.Fast.tw22701661177070410 : True := True.intro
theorem PySem.W.Fast.tw3349196934631718718 : True := True.intro
theorem PySem.W.Fast.tw723809708356453534 : True := True.intro
theorem PySem.W.Fast.tw1029889770118771397 : True := True.intro
theorem PySem.W.Fast.tw14545949729882328981 : True := True.intro
theorem PySem.W.Fast.tw10240481047930046406 : True := True.intro
theorem PySem.W.Fast.tw7390813715317258971 : True := True.intro
theorem PySem.W.Fast.tw12310191430004323142 : True := True.intro
theorem PySem.W.Fast.tw1430730521067030617 : True := True.intro
theorem PySem.W.Fast.tw1378028154376129881 : True := True.intro
theorem PySem.W.Fast.tw12465531489063746689 : True := True.intro
theorem PySem.W.Fast.tw2904582217740774557 : True := True.intro
theorem PySem.W.Fast.tw14064707587822814278 : True := True.intro
theorem PySem.W.Fast.tw15634719126123186976 : True := True.intro
theorem PySem.W.Fast.tw6988208949809993676 : True := True.intro
theorem PySem.W.Fast.tw2887628859479890170 : True := True.intro
theorem PySem.W.Fast.tw6726152267567105361 : True := True.intro
theorem PySem.W.Fast.tw2486271937795309212 : True := True.intro
theorem PySem.W.Fast.tw5196876027097749994 : True := True.intro
theorem PySem.W.Fast.tw4783291388486765885 : True := True.intro
theorem PySem.W.Fast.tw12352868877620166924 : True := True.intro
theorem PySem.W.Fast.tw6807228806109119297 : True := True.intro
theorem PySem.W.Fast.tw13073131421162870165 : True := True.intro
theorem PySem.W.Fast.tw7141321254266258201 : True := True.intro
theorem PySem.W.Fast.tw2575468996198929103 : True := True.intro
theorem PySem.W.Fast.tw3210942007838893657 : True := True.intro
theorem PySem.W.Fast.tw14444808046349758083 : True := True.intro
theorem PySem.W.Fast.tw9791502992696178308 : True := True.intro
theorem PySem.W.Fast.tw1883901100634200199 : True := True.intro
theorem PySem.W.Fast.tw10828063215565904337 : True := True.intro
theorem PySem.W.Fast.tw16657709702631918795 : True := True.intro
theorem PySem.W.Fast.tw1229463338328354607 : True := True.intro
theorem PySem.W.Fast.tw9603549173141430286 : True := True.intro
theorem PySem.W.Fast.tw15216028598496747638 : True := True.intro
theorem PySem.W.Fast.tw2350928643919365250 : True := True.intro
theorem PySem.W.Fast.tw4072227877867121607 : True := True.intro
theorem PySem.W.Fast.tw17090967650602416067 : True := True.intro
theorem PySem.W.Fast.tw801799918910264811 : True := True.intro
theorem PySem.W.Fast.tw4476720712156748448 : True := True.intro
theorem PySem.W.Fast.tw9425378336139891633 : True := True.intro
theorem PySem.W.Fast.tw4718728320607272574 : True := True.intro
theorem PySem.W.Fast.tw8931111391021365512 : True := True.intro
theorem PySem.W.Fast.tw15354419909450923876 : True := True.intro
theorem PySem.W.Fast.tw2295783054906968032 : True := True.intro
theorem PySem.W.Fast.tw7240120581302716578 : True := True.intro
theorem PySem.W.Fast.tw16710448511079513714 : True := True.intro
theorem PySem.W.Fast.tw15955874766662000998 : True := True.intro
theorem PySem.W.Fast.tw13031876598065366486 : True := True.intro
theorem PySem.W.Fast.tw13697784370957858938 : True := True.intro
theorem PySem.W.Fast.tw7959279106619839669 : True := True.intro
theorem PySem.W.Fast.tw14867739284751221229 : True := True.intro
theorem PySem.W.Fast.tw13400180114357821321 : True := True.intro
theorem PySem.W.Fast.tw15932205498892644361 : True := True.intro
theorem PySem.W.Fast.tw9999973753812081880 : True := True.intro
theorem PySem.W.Fast.tw12379056906327175550 : True := True.intro
theorem PySem.W.Fast.tw9311598090418455028 : True := True.intro
theorem PySem.W.Fast.tw16657643811238617181 : True := True.intro
theorem PySem.W.Fast.tw242976045643491235 : True := True.intro
theorem PySem.W.Fast.tw401373538128024946 : True := True.intro
theorem PySem.W.Fast.tw2023975781931389802 : True := True.intro
theorem PySem.W.Fast.tw17158977918232951708 : True := True.intro
theorem PySem.W.Fast.tw3511143167799609083 : True := True.intro
theorem PySem.W.Fast.tw18229547503966431555 : True := True.intro
theorem PySem.W.Fast.tw18304059242008422217 : True := True.intro
theorem PySem.W.Fast.tw5015605258854059580 : True := True.intro
theorem PySem.W.Fast.tw13674745618765168532 : True := True.intro
theorem PySem.W.Fast.tw12322999966983114611 : True := True.intro
theorem PySem.W.Fast.tw14022243296470490141 : True := True.intro
theorem PySem.W.Fast.tw15688920506634765306 : True := True.intro
theorem PySem.W.Fast.tw8568075031285736039 : True := True.intro
theorem PySem.W.Fast.tw11177296687993132087 : True := True.intro
theorem PySem.W.Fast.tw3620421339202094192 : True := True.intro
theorem PySem.W.Fast.tw17042840492260561484 : True := True.intro
theorem PySem.W.Fast.tw13419435430868667932 : True := True.intro
theorem PySem.W.Fast.tw13075247870361813585 : True := True.intro
theorem PySem.W.Fast.tw13563835517595646971 : True := True.intro
theorem PySem.W.Fast.tw1851894228718766861 : True := True.intro
theorem PySem.W.Fast.tw15309596161775812350 : True := True.intro
theorem PySem.W.Fast.tw2201996892162874413 : True := True.intro
theorem PySem.W.Fast.tw17321735085605232116 : True := True.intro
theorem PySem.W.Fast.tw13684659641985184680 : True := True.intro
theorem PySem.W.Fast.tw5855538828639822465 : True := True.intro
theorem PySem.W.Fast.tw6398673743350811117 : True := True.intro
theorem PySem.W.Fast.tw12473404966234936010 : True := True.intro
theorem PySem.W.Fast.tw1617991325819746521 : True := True.intro
theorem PySem.W.Fast.tw10729870013437474532 : True := True.intro
theorem PySem.W.Fast.tw16377851489168584181 : True := True.intro
theorem PySem.W.Fast.tw2244327493701744841 : True := True.intro
theorem PySem.W.Fast.tw8880243250497579515 : True := True.intro
theorem PySem.W.Fast.tw5961934803103194611 : True := True.intro
theorem PySem.W.Fast.tw16358865267613445438 : True := True.intro
theorem PySem.W.Fast.tw9888991323324920285 : True := True.intro
theorem PySem.W.Fast.tw12151332316136728854 : True := True.intro
theorem PySem.W.Fast.tw17503007323760418666 : True := True.intro
theorem PySem.W.Fast.tw18413940709015354161 : True := True.intro
theorem PySem.W.Fast.tw5524657992942638465 : True := True.intro
theorem PySem.W.Fast.tw1788764308394567048 : True := True.intro
theorem PySem.W.Fast.tw4026404777971821720 : True := True.intro
theorem PySem.W.Fast.tw16859571456064746521 : True := True.intro
theorem PySem.W.Fast.tw4089644181145238481 : True := True.intro
theorem PySem.W.Fast.tw2842702864484939826 : True := True.intro
theorem PySem.W.Fast.tw13504325722155993508 : True := True.intro
theorem PySem.W.Fast.tw16100516337057988264 : True := True.intro
theorem PySem.W.Fast.tw8028480220607521803 : True := True.intro
theorem PySem.W.Fast.tw10774152146879829252 : True := True.intro
theorem PySem.W.Fast.tw3667807381802255721 : True := True.intro
theorem PySem.W.Fast.tw2087604751653953878 : True := True.intro
theorem PySem.W.Fast.tw8786715869747481896 : True := True.intro
theorem PySem.W.Fast.tw7098959278550305652 : True := True.intro
theorem PySem.W.Fast.tw2798111651095775574 : True := True.intro
theorem PySem.W.Fast.tw8046445421824353578 : True := True.intro
theorem PySem.W.Fast.tw2465189481583171212 : True := True.intro
theorem PySem.W.Fast.tw9806787360578585192 : True := True.intro
theorem PySem.W.Fast.tw13040447469896610592 : True := True.intro
theorem PySem.W.Fast.tw10426710029451704750 : True := True.intro
theorem PySem.W.Fast.tw12029689246590460486 : True := True.intro
theorem PySem.W.Fast.tw16040466428410301895 : True := True.intro
theorem PySem.W.Fast.tw15800216165331781628 : True := True.intro
theorem PySem.W.Fast.tw3769388000526388379 : True := True.intro
theorem PySem.W.Fast.tw768567792225844015 : True := True.intro
theorem PySem.W.Fast.tw906218415050742345 : True := True.intro
theorem PySem.W.Fast.tw9912236001178941533 : True := True.intro
theorem PySem.W.Fast.tw16445308333963245859 : True := True.intro
theorem PySem.W.Fast.tw2868171353300008454 : True := True.intro
theorem PySem.W.Fast.tw17892083855034419814 : True := True.intro
theorem PySem.W.Fast.tw11080023637096765736 : True := True.intro
theorem PySem.W.Fast.tw11897282790282812267 : True := True.intro
theorem PySem.W.Fast.tw8678169515411497900 : True := True.intro
theorem PySem.W.Fast.tw4834521051019735663 : True := True.intro
theorem PySem.W.Fast.tw13260331975959905871 : True := True.intro
theorem PySem.W.Fast.tw552310876376226627 : True := True.intro
theorem PySem.W.Fast.tw6847482532021056316 : True := True.intro
theorem PySem.W.Fast.tw7680597786602321174 : True := True.intro
theorem PySem.W.Fast.tw2508803313770816100 : True := True.intro
theorem PySem.W.Fast.tw15099516655107543911 : True := True.intro
theorem PySem.W.Fast.tw8428331304679531915 : True := True.intro
theorem PySem.W.Fast.tw2802050151823341036 : True := True.intro
theorem PySem.W.Fast.tw5852224726760522854 : True := True.intro
theorem PySem.W.Fast.tw2498732229542626980 : True := True.intro
theorem PySem.W.Fast.tw3709807385131316354 : True := True.intro
theorem PySem.W.Fast.tw13179177400219309845 : True := True.intro
theorem PySem.W.Fast.tw16062629525371787501 : True := True.intro
theorem PySem.W.Fast.tw6199005819743097502 : True := True.intro
theorem PySem.W.Fast.tw10210787604595452823 : True := True.intro
theorem PySem.W.Fast.tw15437605069456586611 : True := True.intro
theorem PySem.W.Fast.tw14051677438917061483 : True := True.intro
theorem PySem.W.Fast.tw9649796324443262309 : True := True.intro
theorem PySem.W.Fast.tw2218589142826433461 : True := True.intro
theorem PySem.W.Fast.tw3456619036151997001 : True := True.intro
theorem PySem.W.Fast.tw14605803558025415036 : True := True.intro
theorem PySem.W.Fast.tw480562883442969139 : True := True.intro
theorem PySem.W.Fast.tw751619871492438973 : True := True.intro
theorem PySem.W.Fast.tw15918394322864946786 : True := True.intro
theorem PySem.W.Fast.tw5407111693636313707 : True := True.intro
theorem PySem.W.Fast.tw16859273240449265177 : True := True.intro
theorem PySem.W.Fast.tw898865896853379881 : True := True.intro
theorem PySem.W.Fast.tw13089528800419622790 : True := True.intro
theorem PySem.W.Fast.tw8210427458408438936 : True := True.intro
theorem PySem.W.Fast.tw16603099878256109870 : True := True.intro
theorem PySem.W.Fast.tw519265277416953991 : True := True.intro
theorem PySem.W.Fast.tw2218868245403434686 : True := True.intro
theorem PySem.W.Fast.tw9822971574952881284 : True := True.intro
theorem PySem.W.Fast.tw3091486386667113311 : True := True.intro
theorem PySem.W.Fast.tw3160088547177694227 : True := True.intro
theorem PySem.W.Fast.tw11777192031209791688 : True := True.intro
theorem PySem.W.Fast.tw11701934100239880459 : True := True.intro
theorem PySem.W.Fast.tw12288395004836448790 : True := True.intro
theorem PySem.W.Fast.tw6953098832844662257 : True := True.intro
theorem PySem.W.Fast.tw15770429718472820524 : True := True.intro
theorem PySem.W.Fast.tw4235248059159422301 : True := True.intro
theorem PySem.W.Fast.tw17201162115752426836 : True := True.intro
theorem PySem.W.Fast.tw8466781613688831256 : True := True.intro
theorem PySem.W.Fast.tw14548296868930171685 : True := True.intro
theorem PySem.W.Fast.tw9066609085474121307 : True := True.intro
theorem PySem.W.Fast.tw11423647738942226111 : True := True.intro
theorem PySem.W.Fast.tw14286219386704999532 : True := True.intro
theorem PySem.W.Fast.tw14964405334522073644 : True := True.intro
theorem PySem.W.Fast.tw14558972685887233251 : True := True.intro
theorem PySem.W.Fast.tw4036954496561493063 : True := True.intro
theorem PySem.W.Fast.tw16127751951549532179 : True := True.intro
theorem PySem.W.Fast.tw17741760024096335964 : True := True.intro
theorem PySem.W.Fast.tw14758531975251051322 : True := True.intro
theorem PySem.W.Fast.tw2921269467809818730 : True := True.intro
theorem PySem.W.Fast.tw17056261023969675348 : True := True.intro
theorem PySem.W.Fast.tw5843880221805143478 : True := True.intro
theorem PySem.W.Fast.tw4142201316720542634 : True := True.intro
theorem PySem.W.Fast.tw3840381018116284930 : True := True.intro
theorem PySem.W.Fast.tw15471338788179346859 : True := True.intro
theorem PySem.W.Fast.tw8622125320235721775 : True := True.intro
theorem PySem.W.Fast.tw17743905766693524956 : True := True.intro
theorem PySem.W.Fast.tw135710000589483950 : True := True.intro
theorem PySem.W.Fast.tw9539218491577931677 : True := True.intro
theorem PySem.W.Fast.tw5709015202427223256 : True := True.intro
theorem PySem.W.Fast.tw12787914226991605382 : True := True.intro
theorem PySem.W.Fast.tw2325545366682380746 : True := True.intro
theorem PySem.W.Fast.tw17050869830415176270 : True := True.intro
theorem PySem.W.Fast.tw17282290083411806481 : True := True.intro
theorem PySem.W.Fast.tw4870278585313856093 : True := True.intro
theorem PySem.W.Fast.tw8798591520211248342 : True := True.intro
theorem PySem.W.Fast.tw8342266951974933366 : True := True.intro
theorem PySem.W.Fast.tw4217208619815850959 : True := True.intro
theorem PySem.W.Fast.tw17712049691035730786 : True := True.intro
theorem PySem.W.Fast.tw7207332442886656812 : True := True.intro
theorem PySem.W.Fast.tw2487682572254133084 : True := True.intro
theorem PySem.W.Fast.tw16928291195525277184 : True := True.intro
theorem PySem.W.Fast.tw1479825797248026332 : True := True.intro
theorem PySem.W.Fast.tw11529445210297054688 : True := True.intro
theorem PySem.W.Fast.tw286628428636950276 : True := True.intro
theorem PySem.W.Fast.tw13539762085753780388 : True := True.intro
theorem PySem.W.Fast.tw6962453401278137154 : True := True.intro
theorem PySem.W.Fast.tw12487617803636340382 : True := True.intro
theorem PySem.W.Fast.tw3909287843078882712 : True := True.intro
theorem PySem.W.Fast.tw400865563233823707 : True := True.intro
theorem PySem.W.Fast.tw2327036210264611630 : True := True.intro
theorem PySem.W.Fast.tw10022072215489743294 : True := True.intro
theorem PySem.W.Fast.tw16194580403442521688 : True := True.intro
theorem PySem.W.Fast.tw14702644947094908622 : True := True.intro
theorem PySem.W.Fast.tw17194677197487829523 : True := True.intro
theorem PySem.W.Fast.tw11026030265257096873 : True := True.intro
theorem PySem.W.Fast.tw5436788823096740002 : True := True.intro
theorem PySem.W.Fast.tw9302366390651423431 : True := True.intro
theorem PySem.W.Fast.tw3650190375519245184 : True := True.intro
theorem PySem.W.Fast.tw8566172586510294903 : True := True.intro
theorem PySem.W.Fast.tw13624986577215699353 : True := True.intro
theorem PySem.W.Fast.tw11210785131590817209 : True := True.intro
theorem PySem.W.Fast.tw14162601888128591507 : True := True.intro
theorem PySem.W.Fast.tw11194122945668281152 : True := True.intro
theorem PySem.W.Fast.tw17423575745498312311 : True := True.intro
theorem PySem.W.Fast.tw13251808989982641706 : True := True.intro
theorem PySem.W.Fast.tw7183813944173732794 : True := True.intro
theorem PySem.W.Fast.tw2023798997481642845 : True := True.intro
theorem PySem.W.Fast.tw16751523656370352907 : True := True.intro
theorem PySem.W.Fast.tw10338722201828456295 : True := True.intro
theorem PySem.W.Fast.tw17459953322106990105 : True := True.intro
theorem PySem.W.Fast.tw17924643348093984788 : True := True.intro
theorem PySem.W.Fast.tw6115410916282463124 : True := True.intro
theorem PySem.W.Fast.tw621108818904459315 : True := True.intro
theorem PySem.W.Fast.tw5020101662886219814 : True := True.intro
theorem PySem.W.Fast.tw10723505904181569934 : True := True.intro
theorem PySem.W.Fast.tw8219963105508232327 : True := True.intro
theorem PySem.W.Fast.tw17407180466880624389 : True := True.intro
theorem PySem.W.Fast.tw8930864210929370412 : True := True.intro
theorem PySem.W.Fast.tw17519319392879763046 : True := True.intro
theorem PySem.W.Fast.tw16179227722344782807 : True := True.intro
theorem PySem.W.Fast.tw3062803991239635750 : True := True.intro
theorem PySem.W.Fast.tw6428054962706809291 : True := True.intro
theorem PySem.W.Fast.tw17375593217209684450 : True := True.intro
theorem PySem.W.Fast.tw12217577119044670092 : True := True.intro
theorem PySem.W.Fast.tw12012486477654887283 : True := True.intro
theorem PySem.W.Fast.tw4100701301969232918 : True := True.intro
theorem PySem.W.Fast.tw10137548447716852081 : True := True.intro
theorem PySem.W.Fast.tw4939885549177560675 : True := True.intro
theorem PySem.W.Fast.tw12321167365799138200 : True := True.intro
theorem PySem.W.Fast.tw474603228272800887 : True := True.intro
theorem PySem.W.Fast.tw5342233340563338896 : True := True.intro
theorem PySem.W.Fast.tw12450732612755760907 : True := True.intro
theorem PySem.W.Fast.tw14274539903349791624 : True := True.intro
theorem PySem.W.Fast.tw17711933214842790584 : True := True.intro
theorem PySem.W.Fast.tw4433580852916957886 : True := True.intro
theorem PySem.W.Fast.tw2129657381522160436 : True := True.intro
theorem PySem.W.Fast.tw17003744034367912535 : True := True.intro
theorem PySem.W.Fast.tw3231697686204133797 : True := True.intro
theorem PySem.W.Fast.tw4885861830327169031 : True := True.intro
theorem PySem.W.Fast.tw7531619813321689875 : True := True.intro
theorem PySem.W.Fast.tw483525547355859515 : True := True.intro
theorem PySem.W.Fast.tw10419380814412070585 : True := True.intro
theorem PySem.W.Fast.tw4410331600930834878 : True := True.intro
theorem PySem.W.Fast.tw8866099871335452765 : True := True.intro
theorem PySem.W.Fast.tw727161437550615901 : True := True.intro
theorem PySem.W.Fast.tw5288214058093129228 : True := True.intro
theorem PySem.W.Fast.tw4774045978874157062 : True := True.intro
theorem PySem.W.Fast.tw15394247170080347189 : True := True.intro
theorem PySem.W.Fast.tw15559587770624315708 : True := True.intro
theorem PySem.W.Fast.tw6888815094017437885 : True := True.intro
theorem PySem.W.Fast.tw14967549492974326540 : True := True.intro
theorem PySem.W.Fast.tw11248438601407923646 : True := True.intro
theorem PySem.W.Fast.tw10591803874165741150 : True := True.intro
theorem PySem.W.Fast.tw10895767364444318639 : True := True.intro
theorem PySem.W.Fast.tw7685431170238660506 : True := True.intro
theorem PySem.W.Fast.tw9646343646882328412 : True := True.intro
theorem PySem.W.Fast.tw15782340484411752098 : True := True.intro
theorem PySem.W.Fast.tw7693088827256125928 : True := True.intro
theorem PySem.W.Fast.tw9575312017871388177 : True := True.intro
theorem PySem.W.Fast.tw15055964988790346867 : True := True.intro
theorem PySem.W.Fast.tw12378161114023966437 : True := True.intro
theorem PySem.W.Fast.tw10020084803319696112 : True := True.intro
theorem PySem.W.Fast.tw14011750299460524238 : True := True.intro
theorem PySem.W.Fast.tw7556183532563264470 : True := True.intro
theorem PySem.W.Fast.tw8531303358173839347 : True := True.intro
theorem PySem.W.Fast.tw1273942666162807461 : True := True.intro
theorem PySem.W.Fast.tw210664473979770211 : True := True.intro
theorem PySem.W.Fast.tw8013339893919672468 : True := True.intro
theorem PySem.W.Fast.tw7935507599322852590 : True := True.intro
theorem PySem.W.Fast.tw14239356396459924875 : True := True.intro
theorem PySem.W.Fast.tw8363961725560229800 : True := True.intro
theorem PySem.W.Fast.tw8289449312087560129 : True := True.intro
theorem PySem.W.Fast.tw16887385066422355003 : True := True.intro
theorem PySem.W.Fast.tw1414707575374647983 : True := True.intro
theorem PySem.W.Fast.tw6369336005731554834 : True := True.intro
theorem PySem.W.Fast.tw6671020222553001449 : True := True.intro
theorem PySem.W.Fast.tw11828187389990338264 : True := True.intro
theorem PySem.W.Fast.tw8808243492461739502 : True := True.intro
theorem PySem.W.Fast.tw22625222809597517 : True := True.intro
theorem PySem.W.Fast.tw16839067479110464422 : True := True.intro
theorem PySem.W.Fast.tw11333269970663847730 : True := True.intro
theorem PySem.W.Fast.tw8578387404843612589 : True := True.intro
theorem PySem.W.Fast.tw8349763727650311321 : True := True.intro
theorem PySem.W.Fast.tw9681681527716643786 : True := True.intro
theorem PySem.W.Fast.tw16784716336232176851 : True := True.intro
theorem PySem.W.Fast.tw8420300634392179327 : True := True.intro
theorem PySem.W.Fast.tw8389644857194715350 : True := True.intro
theorem PySem.W.Fast.tw14582464985154724626 : True := True.intro
theorem PySem.W.Fast.tw11179842267828822016 : True := True.intro
theorem PySem.W.Fast.tw10471434318429597728 : True := True.intro
theorem PySem.W.Fast.tw3996266238354619203 : True := True.intro
theorem PySem.W.Fast.tw11649753936461739905 : True := True.intro
theorem PySem.W.Fast.tw5672931629658772175 : True := True.intro
theorem PySem.W.Fast.tw15689710013914529743 : True := True.intro
theorem PySem.W.Fast.tw9536793883655624269 : True := True.intro
theorem PySem.W.Fast.tw1044608371950173988 : True := True.intro
theorem PySem.W.Fast.tw14407368275776135010 : True := True.intro
theorem PySem.W.Fast.tw12718707411521565601 : True := True.intro
theorem PySem.W.Fast.tw13123250182939466488 : True := True.intro
theorem PySem.W.Fast.tw7802298109746818796 : True := True.intro
theorem PySem.W.Fast.tw6016105250647105738 : True := True.intro
theorem PySem.W.Fast.tw10538417773958793589 : True := True.intro
theorem PySem.W.Fast.tw15062571021593085199 : True := True.intro
theorem PySem.W.Fast.tw13629735987414789452 : True := True.intro
theorem PySem.W.Fast.tw9964775098954090306 : True := True.intro
theorem PySem.W.Fast.tw16048730655191810811 : True := True.intro
theorem PySem.W.Fast.tw15940992362104610436 : True := True.intro
theorem PySem.W.Fast.tw8201329940249924094 : True := True.intro
theorem PySem.W.Fast.tw1236636089252732648 : True := True.intro
theorem PySem.W.Fast.tw5160889099293510081 : True := True.intro
theorem PySem.W.Fast.tw3835249807055384912 : True := True.intro
theorem PySem.W.Fast.tw16434338903880159836 : True := True.intro
theorem PySem.W.Fast.tw16604171106200513573 : True := True.intro
theorem PySem.W.Fast.tw14566028310566092323 : True := True.intro
theorem PySem.W.Fast.tw2609145308812121388 : True := True.intro
theorem PySem.W.Fast.tw14803890892140990818 : True := True.intro
theorem PySem.W.Fast.tw3577348704115383040 : True := True.intro
theorem PySem.W.Fast.tw7378143178454829178 : True := True.intro
theorem PySem.W.Fast.tw7025425256296057865 : True := True.intro
theorem PySem.W.Fast.tw11156315610717700868 : True := True.intro
theorem PySem.W.Fast.tw2270270673297661065 : True := True.intro
theorem PySem.W.Fast.tw39099204839214963 : True := True.intro
theorem PySem.W.Fast.tw2347652419076312392 : True := True.intro
theorem PySem.W.Fast.tw9445945301319470595 : True := True.intro
theorem PySem.W.Fast.tw1670606641044440905 : True := True.intro
theorem PySem.W.Fast.tw14104959446276369725 : True := True.intro
theorem PySem.W.Fast.tw7135167024408550082 : True := True.intro
theorem PySem.W.Fast.tw9305857463129005672 : True := True.intro
theorem PySem.W.Fast.tw12201292632830567273 : True := True.intro
theorem PySem.W.Fast.tw12372635012601050152 : True := True.intro
theorem PySem.W.Fast.tw1001094020485502906 : True := True.intro
theorem PySem.W.Fast.tw9444942279456843583 : True := True.intro
theorem PySem.W.Fast.tw4257475304264591584 : True := True.intro
theorem PySem.W.Fast.tw17473041907342879306 : True := True.intro
theorem PySem.W.Fast.tw2296421957003946747 : True := True.intro
theorem PySem.W.Fast.tw15277127221714847186 : True := True.intro
theorem PySem.W.Fast.tw9785016821473745876 : True := True.intro
theorem PySem.W.Fast.tw11185583251657818979 : True := True.intro
theorem PySem.W.Fast.tw3220810760631127086 : True := True.intro
theorem PySem.W.Fast.tw13571344290552514656 : True := True.intro
theorem PySem.W.Fast.tw17479136344313691311 : True := True.intro
theorem PySem.W.Fast.tw16797260644568910469 : True := True.intro
theorem PySem.W.Fast.tw7394241435300434747 : True := True.intro
theorem PySem.W.Fast.tw2509772167780379074 : True := True.intro
theorem PySem.W.Fast.tw10527885062409443454 : True := True.intro
theorem PySem.W.Fast.tw18067690790360709667 : True := True.intro
theorem PySem.W.Fast.tw18443285381531010646 : True := True.intro
theorem PySem.W.Fast.tw9465064670732219224 : True := True.intro
theorem PySem.W.Fast.tw16395907776265000743 : True := True.intro
theorem PySem.W.Fast.tw10831504232316471355 : True := True.intro
theorem PySem.W.Fast.tw4209301183541297571 : True := True.intro
theorem PySem.W.Fast.tw5570178529009487634 : True := True.intro
theorem PySem.W.Fast.tw833107850402910554 : True := True.intro
theorem PySem.W.Fast.tw17747236718503115616 : True := True.intro
theorem PySem.W.Fast.tw5730261127245998430 : True := True.intro
theorem PySem.W.Fast.tw257258961601686328 : True := True.intro
theorem PySem.W.Fast.tw5307198879882290042 : True := True.intro
theorem PySem.W.Fast.tw14360330857003794467 : True := True.intro
theorem PySem.W.Fast.tw1325082059154986978 : True := True.intro
theorem PySem.W.Fast.tw14705638971193289265 : True := True.intro
theorem PySem.W.Fast.tw15652601753646947279 : True := True.intro
theorem PySem.W.Fast.tw1787975642473650198 : True := True.intro
theorem PySem.W.Fast.tw10894245536913294291 : True := True.intro
theorem PySem.W.Fast.tw2744707886748160103 : True := True.intro
theorem PySem.W.Fast.tw14897774215290742022 : True := True.intro
theorem PySem.W.Fast.tw819195479593844116 : True := True.intro
theorem PySem.W.Fast.tw17610194928778004230 : True := True.intro
theorem PySem.W.Fast.tw5189415418662466598 : True := True.intro
theorem PySem.W.Fast.tw10184109066807572623 : True := True.intro
theorem PySem.W.Fast.tw6394545188200674274 : True := True.intro
theorem PySem.W.Fast.tw14517572329699965195 : True := True.intro
theorem PySem.W.Fast.tw18303766684261826611 : True := True.intro
theorem PySem.W.Fast.tw15186880191292409235 : True := True.intro
theorem PySem.W.Fast.tw6147411467048220098 : True := True.intro
theorem PySem.W.Fast.tw14807208909612159256 : True := True.intro
theorem PySem.W.Fast.tw7279111651076675437 : True := True.intro
theorem PySem.W.Fast.tw14533154978229409043 : True := True.intro
theorem PySem.W.Fast.tw11295272936525258524 : True := True.intro
theorem PySem.W.Fast.tw16326568570409293756 : True := True.intro
theorem PySem.W.Fast.tw9360733374516583279 : True := True.intro
theorem PySem.W.Fast.tw9278122827064488328 : True := True.intro
theorem PySem.W.Fast.tw11495899077237425519 : True := True.intro
theorem PySem.W.Fast.tw14751213162525249693 : True := True.intro
theorem PySem.W.Fast.tw4989231664710197006 : True := True.intro
theorem PySem.W.Fast.tw11361935511767753077 : True := True.intro
theorem PySem.W.Fast.tw15237853585199418805 : True := True.intro
theorem PySem.W.Fast.tw7403620600287137222 : True := True.intro
theorem PySem.W.Fast.tw7010195383829160647 : True := True.intro
theorem PySem.W.Fast.tw14466386486060364145 : True := True.intro
theorem PySem.W.Fast.tw4412813232458306624 : True := True.intro
theorem PySem.W.Fast.tw6326115078492527779 : True := True.intro
theorem PySem.W.Fast.tw7053545908331339875 : True := True.intro
theorem PySem.W.Fast.tw13539875528963445546 : True := True.intro
theorem PySem.W.Fast.tw58502038867304148 : True := True.intro
theorem PySem.W.Fast.tw1747386742578314798 : True := True.intro
theorem PySem.W.Fast.tw754042004859336653 : True := True.intro
theorem PySem.W.Fast.tw10555598636941375332 : True := True.intro
theorem PySem.W.Fast.tw10667102959470835434 : True := True.intro
theorem PySem.W.Fast.tw4690973568539233025 : True := True.intro
theorem PySem.W.Fast.tw13099835474473431185 : True := True.intro
theorem PySem.W.Fast.tw17629584784971607243 : True := True.intro
theorem PySem.W.Fast.tw12742037222923202553 : True := True.intro
theorem PySem.W.Fast.tw9594076755302961247 : True := True.intro
theorem PySem.W.Fast.tw3161443704410258056 : True := True.intro
theorem PySem.W.Fast.tw5929623638966533293 : True := True.intro
theorem PySem.W.Fast.tw7211940554662382170 : True := True.intro
theorem PySem.W.Fast.tw4760755546377626530 : True := True.intro
theorem PySem.W.Fast.tw8005021916900944801 : True := True.intro
theorem PySem.W.Fast.tw5346110041577255359 : True := True.intro
theorem PySem.W.Fast.tw10807171784571845729 : True := True.intro
theorem PySem.W.Fast.tw15359197373405589408 : True := True.intro
theorem PySem.W.Fast.tw11877400005351344435 : True := True.intro
theorem PySem.W.Fast.tw10936064515111927383 : True := True.intro
theorem PySem.W.Fast.tw14171311424064739704 : True := True.intro
theorem PySem.W.Fast.tw7287085810955583519 : True := True.intro
theorem PySem.W.Fast.tw5400652695939840366 : True := True.intro
theorem PySem.W.Fast.tw16919771176461808044 : True := True.intro
theorem PySem.W.Fast.tw17893811495327172281 : True := True.intro
theorem PySem.W.Fast.tw1807164255553978360 : True := True.intro
theorem PySem.W.Fast.tw143405408932696480 : True := True.intro
theorem PySem.W.Fast.tw7622321368708015419 : True := True.intro
theorem PySem.W.Fast.tw9812917163728288322 : True := True.intro
theorem PySem.W.Fast.tw16646598716350875364 : True := True.intro
theorem PySem.W.Fast.tw6948838379803337740 : True := True.intro
theorem PySem.W.Fast.tw17525142298568566060 : True := True.intro
theorem PySem.W.Fast.tw1419584139776925472 : True := True.intro
theorem PySem.W.Fast.tw7099319108399174886 : True := True.intro
theorem PySem.W.Fast.tw11433740808026947187 : True := True.intro
theorem PySem.W.Fast.tw14189729551193542549 : True := True.intro
theorem PySem.W.Fast.tw15177476060320628141 : True := True.intro
theorem PySem.W.Fast.tw17632174886166477810 : True := True.intro
theorem PySem.W.Fast.tw1032898087579920275 : True := True.intro
theorem PySem.W.Fast.tw14638531846363359454 : True := True.intro
theorem PySem.W.Fast.tw11115548320764406992 : True := True.intro
theorem PySem.W.Fast.tw16771444593444945082 : True := True.intro
theorem PySem.W.Fast.tw16952723259050453422 : True := True.intro
theorem PySem.W.Fast.tw3749691333099720554 : True := True.intro
theorem PySem.W.Fast.tw5952098598389609963 : True := True.intro
theorem PySem.W.Fast.tw6695248079996860351 : True := True.intro
theorem PySem.W.Fast.tw15346695990876160564 : True := True.intro
theorem PySem.W.Fast.tw8693885410160403035 : True := True.intro
theorem PySem.W.Fast.tw1513200061224879490 : True := True.intro
theorem PySem.W.Fast.tw6301637419531262040 : True := True.intro
theorem PySem.W.Fast.tw2880269612353694759 : True := True.intro
theorem PySem.W.Fast.tw7882062862861274135 : True := True.intro
theorem PySem.W.Fast.tw16900951699458417304 : True := True.intro
theorem PySem.W.Fast.tw7799837537870403055 : True := True.intro
theorem PySem.W.Fast.tw9519266839438327209 : True := True.intro
theorem PySem.W.Fast.tw15998287348259425960 : True := True.intro
theorem PySem.W.Fast.tw17128520432445090133 : True := True.intro
theorem PySem.W.Fast.tw7615770572235234594 : True := True.intro
theorem PySem.W.Fast.tw8812425414706023191 : True := True.intro
theorem PySem.W.Fast.tw15699495717707628314 : True := True.intro
theorem PySem.W.Fast.tw14018780726745514967 : True := True.intro
theorem PySem.W.Fast.tw11331177056017107558 : True := True.intro
theorem PySem.W.Fast.tw8669248115253455556 : True := True.intro
theorem PySem.W.Fast.tw7153020047350924590 : True := True.intro
theorem PySem.W.Fast.tw1100234458100106846 : True := True.intro
theorem PySem.W.Fast.tw9372712743730027378 : True := True.intro
theorem PySem.W.Fast.tw9520393856103472019 : True := True.intro
theorem PySem.W.Fast.tw16727285337978263808 : True := True.intro
theorem PySem.W.Fast.tw11689425329620320038 : True := True.intro
theorem PySem.W.Fast.tw57995863468447203 : True := True.intro
theorem PySem.W.Fast.tw2016958279792446843 : True := True.intro
theorem PySem.W.Fast.tw10806200879670525564 : True := True.intro
theorem PySem.W.Fast.tw5088504897690012859 : True := True.intro
theorem PySem.W.Fast.tw875092264031583230 : True := True.intro
theorem PySem.W.Fast.tw5321944096971459648 : True := True.intro
open PySem PySem.W PyProof.Rows in
set_option maxRecDepth 100000 in
set_option maxHeartbeats 0 in
theorem PySem.Challenge.cw_neverlate_k82_servers_holds : PySem.Challenge.rw_neverlate_k82_servers.Holds := by
  w_on; o_law; k_head; (case hw => w_witness2)
  k_fill
  refine My.walk (l := PySem.Challenge.rw_neverlate_k82_servers) rfl rfl (fun w h Y => PySem.W.kIn_of Y) ?hF
  case hF =>
    intro w mg fa h KX G hmg
    refine' My.all_mk KX G hmg ?z_abs ?z_all ?z_bool ?z_divmod ?z_enumerate ?z_int ?z_isinstance ?z_len ?z_list ?z_max ?z_min ?z_range ?z_set ?z_str ?z_sum ?z_tuple ?z_zip ?z_LONGEST_NAME ?z_MOST_KINDS ?z_MOST_UNITS ?z_MOST_WAYS ?z_NAME_CHARACTERS ?gC_Task ?pg_Task ?hd_Task ?po_Task ?sa_Task ?na_Task_name ?na_Task_kinds ?na_Task_ways ?mk_Task ?kc_Task ?g_law_row ?l_law_row ?c_law_row ?k_law_row ?g_law_numbers ?l_law_numbers ?c_law_numbers ?k_law_numbers ?g_is_integer ?l_is_integer ?c_is_integer ?k_is_integer ?g_is_name ?l_is_name ?c_is_name ?k_is_name ?g_is_kind ?l_is_kind ?c_is_kind ?k_is_kind ?g_is_way ?l_is_way ?c_is_way ?k_is_way ?g_are_different ?l_are_different ?c_are_different ?k_are_different ?g_are_kinds ?l_are_kinds ?c_are_kinds ?k_are_kinds ?g_are_ways ?l_are_ways ?c_are_ways ?k_are_ways ?at_Task_init__ ?is_Task_init__ ?l_Task_init__ ?c_Task_init__ ?k_Task_init__ ?at_Task_kind_number ?is_Task_kind_number ?l_Task_kind_number ?c_Task_kind_number ?k_Task_kind_number ?at_Task_kind ?is_Task_kind ?l_Task_kind ?c_Task_kind ?k_Task_kind ?at_Task_ways_from ?is_Task_ways_from ?l_Task_ways_from ?c_Task_ways_from ?k_Task_ways_from ?g_steps ?l_steps ?c_steps ?k_steps ?g_best_step ?l_best_step ?c_best_step ?k_best_step ?g_rows ?l_rows ?c_rows ?k_rows ?g_demands ?l_demands ?c_demands ?k_demands ?g_joint_demands ?l_joint_demands ?c_joint_demands ?k_joint_demands ?g_law_kinds ?l_law_kinds ?c_law_kinds ?k_law_kinds ?g_law_ways ?l_law_ways ?c_law_ways ?k_law_ways ?g_server_table ?l_server_table ?c_server_table ?k_server_table ?dq_server_table_offset ?dq_server_table_capacity ?g_server_supply ?l_server_supply ?c_server_supply ?k_server_supply ?dq_server_supply_capacity ?g_quotient_up ?l_quotient_up ?c_quotient_up ?k_quotient_up ?g_needed_capacity ?l_needed_capacity ?c_needed_capacity ?k_needed_capacity ?g_is_enough ?l_is_enough ?c_is_enough ?k_is_enough ?g_needed_budget ?l_needed_budget ?c_needed_budget ?k_needed_budget ?dq_needed_budget_capacity ?g_longest_period ?l_longest_period ?c_longest_period ?k_longest_period ?g_law_is_integer ?l_law_is_integer ?c_law_is_integer ?k_law_is_integer ?g_law_is_integero ?l_law_is_integero ?c_law_is_integero ?k_law_is_integero ?g_law_leasts ?l_law_leasts ?c_law_leasts ?k_law_leasts ?g_law_demands ?l_law_demands ?c_law_demands ?k_law_demands ?g_law_server ?l_law_server ?c_law_server ?k_law_server ?g_law_enough ?l_law_enough ?c_law_enough ?k_law_enough ?g_law_reserved ?l_law_reserved ?c_law_reserved ?k_law_reserved ?g_law_budget ?l_law_budget ?c_law_budget ?k_law_budget ?g_law_is ?l_law_is ?c_law_is ?k_law_is ?g_law_needs ?l_law_needs ?c_law_needs ?k_law_needs ?g_law ?l_law ?c_law ?k_law
    (case z_abs => k_is)
    (case z_all => k_is)
    (case z_bool => k_is)
    (case z_divmod => k_is)
    (case z_enumerate => k_is)
    (case z_int => k_is)
    (case z_isinstance => k_is)
    (case z_len => k_is)
    (case z_list => k_is)
    (case z_max => k_is)
    (case z_min => k_is)
    (case z_range => k_is)
    (case z_set => k_is)
    (case z_str => k_is)
    (case z_sum => k_is)
    (case z_tuple => k_is)
    (case z_zip => k_is)
    (case z_LONGEST_NAME => k_is)
    (case z_MOST_KINDS => k_is)
    (case z_MOST_UNITS => k_is)
    (case z_MOST_WAYS => k_is)
    (case z_NAME_CHARACTERS => k_is)
    (case gC_Task => k_is)
    (case pg_Task => k_is)
    (case hd_Task => k_is)
    (case po_Task => k_is)
    (case sa_Task => k_is)
    (case na_Task_name => k_is)
    (case na_Task_kinds => k_is)
    (case na_Task_ways => k_is)
    (case mk_Task => k_is)
    (case kc_Task => k_is)
    (case g_law_row => k_is)
    (case l_law_row => k_is)
    (case c_law_row => k_is)
    (case k_law_row => k_is)
    (case g_law_numbers => k_is)
    (case l_law_numbers => k_is)
    (case c_law_numbers => k_is)
    (case k_law_numbers => k_is)
    (case g_is_integer => k_is)
    (case l_is_integer => k_is)
    (case c_is_integer => k_is)
    (case k_is_integer => k_is)
    (case g_is_name => k_is)
    (case l_is_name => k_is)
    (case c_is_name => k_is)
    (case k_is_name => k_is)
    (case g_is_kind => k_is)
    (case l_is_kind => k_is)
    (case c_is_kind => k_is)
    (case k_is_kind => k_is)
    (case g_is_way => k_is)
    (case l_is_way => k_is)
    (case c_is_way => k_is)
    (case k_is_way => k_is)
    (case g_are_different => k_is)
    (case l_are_different => k_is)
    (case c_are_different => k_is)
    (case k_are_different => k_is)
    (case g_are_kinds => k_is)
    (case l_are_kinds => k_is)
    (case c_are_kinds => k_is)
    (case k_are_kinds => k_is)
    (case g_are_ways => k_is)
    (case l_are_ways => k_is)
    (case c_are_ways => k_is)
    (case k_are_ways => k_is)
    (case at_Task_init__ => k_is)
    (case is_Task_init__ => k_is)
    (case l_Task_init__ => k_is)
    (case c_Task_init__ => k_is)
    (case k_Task_init__ => k_is)
    (case at_Task_kind_number => k_is)
    (case is_Task_kind_number => k_is)
    (case l_Task_kind_number => k_is)
    (case c_Task_kind_number => k_is)
    (case k_Task_kind_number => k_is)
    (case at_Task_kind => k_is)
    (case is_Task_kind => k_is)
    (case l_Task_kind => k_is)
    (case c_Task_kind => k_is)
    (case k_Task_kind => k_is)
    (case at_Task_ways_from => k_is)
    (case is_Task_ways_from => k_is)
    (case l_Task_ways_from => k_is)
    (case c_Task_ways_from => k_is)
    (case k_Task_ways_from => k_is)
    (case g_steps => k_is)
    (case l_steps => k_is)
    (case c_steps => k_is)
    (case k_steps => k_is)
    (case g_best_step => k_is)
    (case l_best_step => k_is)
    (case c_best_step => k_is)
    (case k_best_step => k_is)
    (case g_rows => k_is)
    (case l_rows => k_is)
    (case c_rows => k_is)
    (case k_rows => k_is)
    (case g_demands => k_is)
    (case l_demands => k_is)
    (case c_demands => k_is)
    (case k_demands => k_is)
    (case g_joint_demands => k_is)
    (case l_joint_demands => k_is)
    (case c_joint_demands => k_is)
    (case k_joint_demands => k_is)
    (case g_law_kinds => k_is)
    (case l_law_kinds => k_is)
    (case c_law_kinds => k_is)
    (case k_law_kinds => k_is)
    (case g_law_ways => k_is)
    (case l_law_ways => k_is)
    (case c_law_ways => k_is)
    (case k_law_ways => k_is)
    (case g_server_table => k_is)
    (case l_server_table => k_is)
    (case c_server_table => k_is)
    (case k_server_table => k_is)
    (case dq_server_table_offset => k_is)
    (case dq_server_table_capacity => k_is)
    (case g_server_supply => k_is)
    (case l_server_supply => k_is)
    (case c_server_supply => k_is)
    (case k_server_supply => k_is)
    (case dq_server_supply_capacity => k_is)
    (case g_quotient_up => k_is)
    (case l_quotient_up => k_is)
    (case c_quotient_up => k_is)
    (case k_quotient_up => k_is)
    (case g_needed_capacity => k_is)
    (case l_needed_capacity => k_is)
    (case c_needed_capacity => k_is)
    (case k_needed_capacity => k_is)
    (case g_is_enough => k_is)
    (case l_is_enough => k_is)
    (case c_is_enough => k_is)
    (case k_is_enough => k_is)
    (case g_needed_budget => k_is)
    (case l_needed_budget => k_is)
    (case c_needed_budget => k_is)
    (case k_needed_budget => k_is)
    (case dq_needed_budget_capacity => k_is)
    (case g_longest_period => k_is)
    (case l_longest_period => k_is)
    (case c_longest_period => k_is)
    (case k_longest_period => k_is)
    (case g_law_is_integer => k_is)
    (case l_law_is_integer => k_is)
    (case c_law_is_integer => k_is)
    (case k_law_is_integer => k_is)
    (case g_law_is_integero => k_is)
    (case l_law_is_integero => k_is)
    (case c_law_is_integero => k_is)
    (case k_law_is_integero => k_is)
    (case g_law_leasts => k_is)
    (case l_law_leasts => k_is)
    (case c_law_leasts => k_is)
    (case k_law_leasts => k_is)
    (case g_law_demands => k_is)
    (case l_law_demands => k_is)
    (case c_law_demands => k_is)
    (case k_law_demands => k_is)
    (case g_law_server => k_is)
    (case l_law_server => k_is)
    (case c_law_server => k_is)
    (case k_law_server => k_is)
    (case g_law_enough => k_is)
    (case l_law_enough => k_is)
    (case c_law_enough => k_is)
    (case k_law_enough => k_is)
    (case g_law_reserved => k_is)
    (case l_law_reserved => k_is)
    (case c_law_reserved => k_is)
    (case k_law_reserved => k_is)
    (case g_law_budget => k_is)
    (case l_law_budget => k_is)
    (case c_law_budget => k_is)
    (case k_law_budget => k_is)
    (case g_law_is => k_is)
    (case l_law_is => k_is)
    (case c_law_is => k_is)
    (case k_law_is => k_is)
    (case g_law_needs => k_is)
    (case l_law_needs => k_is)
    (case c_law_needs => k_is)
    (case k_law_needs => k_is)
    (case g_law => k_is)
    (case l_law => k_is)
    (case c_law => k_is)
    (case k_law => k_is)
