import PyProof.Rows.All
import Wide.All
import OpenK.AllK
import Wide.FinOn
import HandS.ForMost
import HandS.ForExc
import HandS.IsInst
import HandS.Style
import HandS.Flow
import HandS.NoneIn
import KE.DataEq
import HandS.Text
import HandS.TupAny
import HandS.Iter
import HandS.Comp
import HandS.TupMul
import PyProof.ReprRoads
import PyProof.RowDictHeap
import HandS.ExcInit
import HandS.ExcIs
import HandS.ExcField
import HandS.ExcValue
import HandS.ExcBuiltin
import KE.KExcIs
import PyProof.ReprLen
import PySem.Challenge.RW_whoseword_k03_errors_by_hand
set_option Elab.async false
set_option linter.all false
set_option autoImplicit false
set_option Elab.async false
set_option linter.all false
set_option autoImplicit false
set_option maxRecDepth 100000
set_option maxHeartbeats 2000000
/-! Data: values as trees, without the heap -/
namespace DL
open PySem L2

/-- a value with all that hangs on it -/
inductive D where
  | non | bl (b : Bool) | int (i : Int) | str (x : Str)
  | lst (xs : List D) | tup (xs : List D)
  | dic (kvs : List (Key × D))
  | obj (C : Addr) (fs : List (Str × D))
  | ty (n : String) | cref (C : Addr)
deriving Inhabited

variable (K : PySem.W.Frag)

mutual
/-- in the heap H the value v is the tree -/
def DR (H : Hp) : D → V → Prop
  | .non, v => v = V.non
  | .bl b, v => v = V.bl b
  | .int i, v => v = V.int i
  | .str x, v => v = V.str x
  | .lst ds, v => ∃ a xs, v = V.ref a ∧ H a = some (.lst xs) ∧ DRs H ds xs
  | .tup ds, v => ∃ a xs, v = V.ref a ∧ SqT K H a xs ∧ DRs H ds xs
  | .dic ds, v => ∃ a xs, v = V.ref a ∧ H a = some (.dK xs) ∧ DRk H ds xs
  | .obj C ds, v => ∃ a dx xs, v = V.ref a ∧ H a = some (.ins C dx xs) ∧ DRf H ds xs
  | .ty n, v => v = V.ty n
  | .cref C, v => v = V.ref C
def DRs (H : Hp) : List D → List V → Prop
  | [], vs => vs = []
  | d :: ds, vs => ∃ x xs, vs = x :: xs ∧ DR H d x ∧ DRs H ds xs
def DRk (H : Hp) : List (Key × D) → List (Key × V) → Prop
  | [], vs => vs = []
  | (k, d) :: ds, vs => ∃ x xs, vs = (k, x) :: xs ∧ DR H d x ∧ DRk H ds xs
def DRf (H : Hp) : List (Str × D) → List (Str × V) → Prop
  | [], vs => vs = []
  | (k, d) :: ds, vs => ∃ x xs, vs = (k, x) :: xs ∧ DR H d x ∧ DRf H ds xs
end

/-- all that H has, H' has -/
def Ex (H H' : Hp) : Prop := ∀ a o, H a = some o → H' a = some o
theorem Ex.rfl' {H : Hp} : Ex H H := fun _ _ h => h
theorem Ex.tr {H H1 H2 : Hp} (a : Ex H H1) (b : Ex H1 H2) : Ex H H2 := fun x o h => b x o (a x o h)
theorem Ex.up {H : Hp} {p : Addr} {o : HO} (h : H p = none) : Ex H (upd H p o) := fun a u e => by
  rw [upd_ne (ne_of_none e h)]; exact e
theorem Ex.sqt {K : PySem.W.Frag} {H H' : Hp} {a : Addr} {xs : List V} (e : Ex H H') (h : SqT K H a xs) : SqT K H' a xs := by
  rcases h with (h | ⟨o, h⟩) | h
  · exact .inl (.inl (e _ _ h))
  · exact .inl (.inr ⟨o, e _ _ h⟩)
  · exact .inr h
theorem Ex.sql {K : PySem.W.Frag} {H H' : Hp} {a : Addr} {xs : List V} (e : Ex H H') (h : SqL K H a xs) : SqL K H' a xs := by
  rcases h with (h | ⟨o, h⟩) | h
  · exact .inl (.inl (e _ _ h))
  · exact .inl (.inr ⟨o, e _ _ h⟩)
  · exact .inr h
theorem Ex.none {H H' : Hp} (e : Ex H H') {a : Addr} (h : H' a = none) : H a = none := by
  cases q : H a with
  | none => rfl
  | some o => rw [e a o q] at h; cases h

variable {K : PySem.W.Frag}
mutual
theorem DR.mono {H H' : Hp} (e : Ex H H') : ∀ (d : D) (v : V), DR K H d v → DR K H' d v
  | .non, _, h => h
  | .bl _, _, h => h
  | .int _, _, h => h
  | .str _, _, h => h
  | .lst ds, _, h => by
    obtain ⟨a, xs, h1, h2, h3⟩ := h
    exact ⟨a, xs, h1, e _ _ h2, DRs.mono e ds xs h3⟩
  | .tup ds, _, h => by
    obtain ⟨a, xs, h1, h2, h3⟩ := h
    exact ⟨a, xs, h1, e.sqt h2, DRs.mono e ds xs h3⟩
  | .dic ds, _, h => by
    obtain ⟨a, xs, h1, h2, h3⟩ := h
    exact ⟨a, xs, h1, e _ _ h2, DRk.mono e ds xs h3⟩
  | .obj C ds, _, h => by
    obtain ⟨a, dx, xs, h1, h2, h3⟩ := h
    exact ⟨a, dx, xs, h1, e _ _ h2, DRf.mono e ds xs h3⟩
  | .ty _, _, h => h
  | .cref _, _, h => h
theorem DRs.mono {H H' : Hp} (e : Ex H H') : ∀ (d : List D) (v : List V), DRs K H d v → DRs K H' d v
  | [], _, h => h
  | d :: ds, _, h => by
    obtain ⟨x, xs, h1, h2, h3⟩ := h
    exact ⟨x, xs, h1, DR.mono e d x h2, DRs.mono e ds xs h3⟩
theorem DRk.mono {H H' : Hp} (e : Ex H H') : ∀ (d : List (Key × D)) (v : List (Key × V)), DRk K H d v → DRk K H' d v
  | [], _, h => h
  | (k, d) :: ds, _, h => by
    obtain ⟨x, xs, h1, h2, h3⟩ := h
    exact ⟨x, xs, h1, DR.mono e d x h2, DRk.mono e ds xs h3⟩
theorem DRf.mono {H H' : Hp} (e : Ex H H') : ∀ (d : List (Str × D)) (v : List (Str × V)), DRf K H d v → DRf K H' d v
  | [], _, h => h
  | (k, d) :: ds, _, h => by
    obtain ⟨x, xs, h1, h2, h3⟩ := h
    exact ⟨x, xs, h1, DR.mono e d x h2, DRf.mono e ds xs h3⟩
end
theorem DR.up {H H' : Hp} {d : D} {v : V} (h : DR K H d v) (e : Ex H H') : DR K H' d v := DR.mono e d v h
theorem DRs.up {H H' : Hp} {d : List D} {v : List V} (h : DRs K H d v) (e : Ex H H') : DRs K H' d v := DRs.mono e d v h

/-! lists of trees -/
theorem DRs.len : ∀ {ds : List D} {vs : List V} {H : Hp}, DRs K H ds vs → vs.length = ds.length
  | [], _, _, h => by cases (show _ = [] from h); rfl
  | d :: ds, _, H, h => by
    obtain ⟨x, xs, rfl, _, h3⟩ := h
    have := DRs.len (H := H) h3
    simp [this]
theorem DRs.get : ∀ {ds : List D} {vs : List V} {H : Hp} {i : Nat} {d : D}, DRs K H ds vs → ds[i]? = some d → ∃ v, vs[i]? = some v ∧ DR K H d v
  | [], _, _, _, _, _, e => by simp at e
  | d :: ds, _, H, 0, _, h, e => by
    obtain ⟨x, xs, rfl, h2, _⟩ := h
    simp at e; subst e
    exact ⟨x, rfl, h2⟩
  | d :: ds, _, H, i + 1, _, h, e => by
    obtain ⟨x, xs, rfl, _, h3⟩ := h
    obtain ⟨v, a, b⟩ := DRs.get (i := i) h3 (by simpa using e)
    exact ⟨v, by simpa using a, b⟩
theorem DRs.getV {ds : List D} {vs : List V} {H : Hp} {i : Nat} {v : V} (h : DRs K H ds vs) (e : vs[i]? = some v) : ∃ d, ds[i]? = some d ∧ DR K H d v := by
  have hl := h.len
  have hi : i < ds.length := by rw [← hl]; exact (List.getElem?_eq_some_iff.mp e).1
  obtain ⟨w, a, b⟩ := h.get (i := i) (d := ds[i]) (by simp [hi])
  rw [e] at a; cases a
  exact ⟨_, by simp [hi], b⟩
theorem DRs.app : ∀ {ds es : List D} {vs ws : List V} {H : Hp}, DRs K H ds vs → DRs K H es ws → DRs K H (ds ++ es) (vs ++ ws)
  | [], _, _, _, _, h, g => by cases (show _ = [] from h); exact g
  | d :: ds, es, _, ws, H, h, g => by
    obtain ⟨x, xs, rfl, h2, h3⟩ := h
    exact ⟨x, xs ++ ws, rfl, h2, DRs.app h3 g⟩
theorem DRs.one {H : Hp} {d : D} {v : V} (h : DR K H d v) : DRs K H [d] [v] := ⟨v, [], rfl, h, rfl⟩
theorem DRs.take : ∀ {ds : List D} {vs : List V} {H : Hp} (n : Nat), DRs K H ds vs → DRs K H (ds.take n) (vs.take n)
  | _, _, _, 0, _ => by simp [DRs]
  | [], _, _, n + 1, h => by cases (show _ = [] from h); simp [DRs]
  | d :: ds, _, H, n + 1, h => by
    obtain ⟨x, xs, rfl, h2, h3⟩ := h
    exact ⟨x, xs.take n, rfl, h2, DRs.take n h3⟩
theorem DRs.drop : ∀ {ds : List D} {vs : List V} {H : Hp} (n : Nat), DRs K H ds vs → DRs K H (ds.drop n) (vs.drop n)
  | _, _, _, 0, h => by simpa using h
  | [], _, _, n + 1, h => by cases (show _ = [] from h); simp [DRs]
  | d :: ds, _, H, n + 1, h => by
    obtain ⟨x, xs, rfl, h2, h3⟩ := h
    exact DRs.drop n h3
theorem DRs.set : ∀ {ds : List D} {vs : List V} {H : Hp} {d : D} {v : V} (n : Nat), DRs K H ds vs → DR K H d v → DRs K H (ds.set n d) (vs.set n v)
  | [], _, _, _, _, _, h, _ => by cases (show _ = [] from h); simp [DRs]
  | d :: ds, _, H, e, w, 0, h, g => by
    obtain ⟨x, xs, rfl, h2, h3⟩ := h
    exact ⟨w, xs, rfl, g, h3⟩
  | d :: ds, _, H, e, w, n + 1, h, g => by
    obtain ⟨x, xs, rfl, h2, h3⟩ := h
    exact ⟨x, _, rfl, h2, DRs.set n h3 g⟩
theorem DRs.rev {H : Hp} : ∀ {ds : List D} {vs : List V}, DRs K H ds vs → DRs K H ds.reverse vs.reverse
  | [], _, h => by cases (show _ = [] from h); simp [DRs]
  | d :: ds, _, h => by
    obtain ⟨x, xs, rfl, h2, h3⟩ := h
    rw [List.reverse_cons, List.reverse_cons]
    exact DRs.app (DRs.rev h3) (DRs.one h2)
theorem DRs.ints {H : Hp} : ∀ {ns : List Int} {vs : List V}, DRs K H (ns.map D.int) vs → vs = ns.map V.int
  | [], _, h => h
  | n :: ns, _, h => by
    obtain ⟨x, xs, rfl, h2, h3⟩ := h
    rw [show x = V.int n from h2, DRs.ints h3]; rfl
theorem DRs.of_ints {H : Hp} : ∀ {ns : List Int}, DRs K H (ns.map D.int) (ns.map V.int)
  | [] => rfl
  | n :: ns => ⟨_, _, rfl, rfl, DRs.of_ints⟩
theorem DRs.strs {H : Hp} : ∀ {ns : List Str} {vs : List V}, DRs K H (ns.map D.str) vs → vs = ns.map V.str
  | [], _, h => h
  | n :: ns, _, h => by
    obtain ⟨x, xs, rfl, h2, h3⟩ := h
    rw [show x = V.str n from h2, DRs.strs h3]; rfl
theorem DRs.of_strs {H : Hp} : ∀ {ns : List Str}, DRs K H (ns.map D.str) (ns.map V.str)
  | [] => rfl
  | n :: ns => ⟨_, _, rfl, rfl, DRs.of_strs⟩
theorem DRs.bls {H : Hp} : ∀ {ns : List Bool} {vs : List V}, DRs K H (ns.map D.bl) vs → vs = ns.map V.bl
  | [], _, h => h
  | n :: ns, _, h => by
    obtain ⟨x, xs, rfl, h2, h3⟩ := h
    rw [show x = V.bl n from h2, DRs.bls h3]; rfl

/-! a step that only lays new things: B, the trees' heap, within H -/
structure Grow (B H B' H' : Hp) : Prop where
  b : Ex B B'
  h : Ex H H'
  i : Ex B' H'
  n : ∀ a, H a ≠ none → B a = none → B' a = none
theorem Grow.id {B H : Hp} (i : Ex B H) : Grow B H B H := ⟨Ex.rfl', Ex.rfl', i, fun _ _ h => h⟩
theorem Grow.tr {B H B1 H1 B2 H2 : Hp} (a : Grow B H B1 H1) (b : Grow B1 H1 B2 H2) : Grow B H B2 H2 :=
  ⟨a.b.tr b.b, a.h.tr b.h, b.i, fun x h1 h2 => b.n x (fun e => h1 (a.h.none e)) (a.n x h1 h2)⟩
/-- something new, and a tree -/
theorem Grow.new {B H : Hp} {p : Addr} {o : HO} (i : Ex B H) (hp : H p = none) : Grow B H (upd B p o) (upd H p o) := by
  have bp : B p = none := i.none hp
  refine ⟨Ex.up bp, Ex.up hp, fun a u e => ?_, fun a h1 h2 => ?_⟩
  · by_cases h : a = p
    · subst h; rw [upd_same] at e ⊢; exact e
    · rw [upd_ne h] at e ⊢; exact i _ _ e
  · by_cases h : a = p
    · subst h; exact absurd hp h1
    · rw [upd_ne h]; exact h2
/-- something new, no tree yet -/
theorem Grow.out {B H : Hp} {p : Addr} {o : HO} (i : Ex B H) (hp : H p = none) : Grow B H B (upd H p o) :=
  ⟨Ex.rfl', Ex.up hp, i.tr (Ex.up hp), fun _ _ h => h⟩

/-! what the slots hold -/
inductive S where
  | un | d (x : D) | own (p : Addr) (xs : List D) | fd (p : Addr) | raw (v : V)

/-- a source of draws: a list of two ints -/
def FeedAt (H : Hp) (p : Addr) : Prop := ∃ a b, H p = some (.lst [.int a, .int b])

structure G where
  K : PySem.W.Frag
  B0 : Hp
  H0 : Hp
  /-- the address that a caller lets us write -/
  fd : Option Addr

def SlotOk (g : G) (B H : Hp) (o : Option (Option V)) : S → Prop
  | .un => True
  | .d x => ∃ v, o = some (some v) ∧ DR g.K B x v
  | .own p xs => o = some (some (.ref p)) ∧ B p = none ∧ (g.H0 p = none ∧ g.fd ≠ some p) ∧ ∃ vs, H p = some (.lst vs) ∧ DRs g.K B xs vs
  | .fd p => o = some (some (.ref p)) ∧ B p = none ∧ (g.H0 p = none ∨ g.fd = some p) ∧ FeedAt H p
  | .raw v => o = some (some v)

def S.ad : S → List Addr
  | .own p _ => [p]
  | .fd p => [p]
  | _ => []
def ads (ρ : List S) : List Addr := ρ.flatMap S.ad

/-- the heap part -/
structure Hps (g : G) (B H : Hp) : Prop where
  i : Ex B H
  b0 : Ex g.B0 B
  h0 : ∀ a o, g.fd ≠ some a → g.H0 a = some o → H a = some o
  nw : ∀ a, g.H0 a ≠ none → g.B0 a = none → B a = none
  fd : ∀ p, g.fd = some p → FeedAt H p ∧ B p = none

structure Rel (g : G) (B H : Hp) (σ : St) (ρ : List S) : Prop where
  hp : Hps g B H
  len : σ.length = ρ.length
  sl : ∀ (i : Nat) (s : S), ρ[i]? = some s → SlotOk g B H σ[i]? s
  nd : (ads ρ).Nodup

section
variable {g : G} {B H B' H' : Hp} {σ : St} {ρ : List S}
theorem Hps.grow (r : Hps g B H) (k : Grow B H B' H') : Hps g B' H' := by
  refine ⟨k.i, r.b0.tr k.b, fun a o n e => k.h _ _ (r.h0 a o n e), fun a n e => ?_, fun p e => ?_⟩
  · by_cases hf : g.fd = some a
    · obtain ⟨⟨x, y, hx⟩, h2⟩ := r.fd a hf
      exact k.n a (by rw [hx]; exact fun z => nomatch z) h2
    · refine k.n a (fun z => ?_) (r.nw a n e)
      cases q : g.H0 a with
      | none => exact n q
      | some o => rw [r.h0 a o hf q] at z; cases z
  · obtain ⟨⟨x, y, hx⟩, h2⟩ := r.fd p e
    exact ⟨⟨x, y, k.h _ _ hx⟩, k.n p (by rw [hx]; exact fun z => nomatch z) h2⟩
theorem SlotOk.grow {o : Option (Option V)} {s : S} (h : SlotOk g B H o s) (k : Grow B H B' H') : SlotOk g B' H' o s := by
  cases s with
  | un => trivial
  | d x => obtain ⟨v, e, h⟩ := h; exact ⟨v, e, h.up k.b⟩
  | own p xs =>
    obtain ⟨e, h1, h2, vs, h3, h4⟩ := h
    exact ⟨e, k.n p (by rw [h3]; exact fun z => nomatch z) h1, h2, vs, k.h _ _ h3, h4.up k.b⟩
  | fd p =>
    obtain ⟨e, h1, h2, x, y, h3⟩ := h
    exact ⟨e, k.n p (by rw [h3]; exact fun z => nomatch z) h1, h2, x, y, k.h _ _ h3⟩
  | raw v => exact h
theorem Rel.grow (r : Rel g B H σ ρ) (k : Grow B H B' H') : Rel g B' H' σ ρ :=
  ⟨r.hp.grow k, r.len, fun i s e => (r.sl i s e).grow k, r.nd⟩
end

/-! judgements over data -/
/-- the machine's own reading of a piece -/
def WE (X : Cx) (e : Expr) : TE := fun σ H Q => ∀ pins s, Inv X pins σ H s → wpAny (model X.prog X.w) X.A (eval e X.env) (EP X pins σ Q) X.xe s
def WT (X : Cx) (e : Expr) : TT := fun σ H Q => ∀ pins s, Inv X pins σ H s → wpAny (model X.prog X.w) X.A (isTrue e X.env (eval e X.env)) (TP X pins σ Q) X.xe s
def WW (X : Cx) (e : Expr) : TT := fun σ H Q => ∀ whole pins s, Inv X pins σ H s → wpAny (model X.prog X.w) X.A (isTrue e X.env whole) (TP X pins σ Q) X.xe s
def WA (X : Cx) (es : List Expr) : TA := fun σ H Q => ∀ pos pins s, Inv X pins σ H s → wpAny (model X.prog X.w) X.A (spliced (backTo pos (starEach es X.env))) (AP X pins σ Q) X.xe s
def WS (X : Cx) (st : Stmt) : TS := fun Dn σ H => ∀ pins s, Inv X pins σ H s → wpAny (model X.prog X.w) X.A (exec st X.env) (SP X pins Dn) X.xe s
def WSs (X : Cx) (st : List Stmt) : TS := fun Dn σ H => ∀ pins s, Inv X pins σ H s → wpAny (model X.prog X.w) X.A (execs st X.env) (SP X pins Dn) X.xe s
def WG (X : Cx) (e : Expr) : TG := fun v σ H Q => ∀ pins s u, Inv X pins σ H s → RelV v u → wpAny (model X.prog X.w) X.A (assign e X.env u) (fun _ s' => ∃ σ' H', Inv X pins σ' H' s' ∧ Q σ' H') X.xe s
section
variable {X : Cx}
theorem pW {e : Expr} : PE X e (WE X e) := ⟨fun pins s σ H Q I h => h pins s I⟩
theorem tW {e : Expr} : PT X e (WT X e) := ⟨fun pins s σ H Q I h => h pins s I⟩
theorem wW {e : Expr} : PW X e (WW X e) := ⟨fun wh pins s σ H Q I h => h wh pins s I⟩
theorem aW {es : List Expr} : PA X es (WA X es) := ⟨fun pos pins s σ H Q I h => h pos pins s I⟩
theorem sW {st : Stmt} : PS X st (WS X st) := ⟨fun pins s σ H Dn I h => h pins s I⟩
theorem ssW {st : List Stmt} : PSs X st (WSs X st) := ⟨fun pins s σ H Dn I h => h pins s I⟩
theorem gW {e : Expr} : PG X e (WG X e) := ⟨fun pins s σ H v u Q I r h => h pins s u I r⟩
theorem _root_.L2.PE.w {e : Expr} {t : TE} (h : PE X e t) {σ : St} {H : Hp} {Q : VK} (q : t σ H Q) : WE X e σ H Q := fun pins s I => h.run pins s σ H Q I q
theorem _root_.L2.PT.w {e : Expr} {t : TT} (h : PT X e t) {σ : St} {H : Hp} {Q : Bool → Hp → Prop} (q : t σ H Q) : WT X e σ H Q := fun pins s I => h.run pins s σ H Q I q
theorem _root_.L2.PW.w {e : Expr} {t : TT} (h : PW X e t) {σ : St} {H : Hp} {Q : Bool → Hp → Prop} (q : t σ H Q) : WW X e σ H Q := fun wh pins s I => h.run wh pins s σ H Q I q
theorem _root_.L2.PA.w {es : List Expr} {t : TA} (h : PA X es t) {σ : St} {H : Hp} {Q : List V → Hp → Prop} (q : t σ H Q) : WA X es σ H Q := fun pos pins s I => h.run pos pins s σ H Q I q
theorem _root_.L2.PS.w {st : Stmt} {t : TS} (h : PS X st t) {σ : St} {H : Hp} {Dn : Ends} (q : t Dn σ H) : WS X st Dn σ H := fun pins s I => h.run pins s σ H Dn I q
theorem _root_.L2.PSs.w {st : List Stmt} {t : TS} (h : PSs X st t) {σ : St} {H : Hp} {Dn : Ends} (q : t Dn σ H) : WSs X st Dn σ H := fun pins s I => h.run pins s σ H Dn I q
theorem _root_.L2.PG.w {e : Expr} {t : TG} (h : PG X e t) {v : V} {σ : St} {H : Hp} {Q : St → Hp → Prop} (q : t v σ H Q) : WG X e v σ H Q := fun pins s u I r => h.run pins s σ H v u Q I r q
end

section
variable (X : Cx) (g : G)
/-- from slots ρ the expression gives a tree of which R holds -/
structure DE (e : Expr) (ρ : List S) (R : D → Prop) : Prop where
  go : ∀ σ B H Q, Rel g B H σ ρ →
  (∀ v d B' H', Ex B B' → Rel g B' H' σ ρ → DR g.K B' d v → R d → Q v H') → WE X e σ H Q
/-- a new list that nothing else knows -/
structure DN (e : Expr) (ρ : List S) (R : List D → Prop) : Prop where
  go : ∀ σ B H Q, Rel g B H σ ρ →
  (∀ p vs ds B' H', Ex B B' → Rel g B' H' σ ρ → B' p = none → g.H0 p = none → p ∉ ads ρ → g.fd ≠ some p → H' p = some (.lst vs) → DRs g.K B' ds vs → R ds → Q (.ref p) H') → WE X e σ H Q
structure DT (e : Expr) (ρ : List S) (R : Bool → Prop) : Prop where
  go : ∀ σ B H Q, Rel g B H σ ρ →
  (∀ b B' H', Ex B B' → Rel g B' H' σ ρ → R b → Q b H') → WT X e σ H Q
structure DW (e : Expr) (ρ : List S) (R : Bool → Prop) : Prop where
  go : ∀ σ B H Q, Rel g B H σ ρ →
  (∀ b B' H', Ex B B' → Rel g B' H' σ ρ → R b → Q b H') → WW X e σ H Q
structure DA (es : List Expr) (ρ : List S) (R : List D → Prop) : Prop where
  go : ∀ σ B H Q, Rel g B H σ ρ →
  (∀ vs ds B' H', Ex B B' → Rel g B' H' σ ρ → DRs g.K B' ds vs → R ds → Q vs H') → WA X es σ H Q

/-- how a statement ends -/
inductive O where
  | nx (ρ : List S) | rt (d : D) | rn (xs : List D) | bk (ρ : List S) | ct (ρ : List S)
structure Ends' (g : G) (B : Hp) (R : O → Prop) (Dn : Ends) : Prop where
  nx : ∀ σ ρ B' H', Ex B B' → Rel g B' H' σ ρ → R (.nx ρ) → Dn.nx σ H'
  rt : ∀ v d B' H', Ex B B' → Hps g B' H' → DR g.K B' d v → R (.rt d) → Dn.rt v H'
  rn : ∀ p vs ds B' H', Ex B B' → Hps g B' H' → B' p = none → g.H0 p = none → H' p = some (.lst vs) → DRs g.K B' ds vs → R (.rn ds) → Dn.rt (.ref p) H'
  bk : ∀ σ ρ B' H', Ex B B' → Rel g B' H' σ ρ → R (.bk ρ) → Dn.bk σ H'
  ct : ∀ σ ρ B' H', Ex B B' → Rel g B' H' σ ρ → R (.ct ρ) → Dn.ct σ H'
structure DS (st : Stmt) (ρ : List S) (R : O → Prop) : Prop where
  go : ∀ σ B H Dn, Rel g B H σ ρ → Ends' g B R Dn → WS X st Dn σ H
structure DSs (st : List Stmt) (ρ : List S) (R : O → Prop) : Prop where
  go : ∀ σ B H Dn, Rel g B H σ ρ → Ends' g B R Dn → WSs X st Dn σ H
end
theorem Ends'.mono {g : G} {B B1 : Hp} {R : O → Prop} {Dn : Ends} (k : Ends' g B R Dn) (e : Ex B B1) : Ends' g B1 R Dn :=
  ⟨fun σ ρ B' H' a => k.nx σ ρ B' H' (e.tr a), fun v d B' H' a => k.rt v d B' H' (e.tr a), fun p vs ds B' H' a => k.rn p vs ds B' H' (e.tr a), fun σ ρ B' H' a => k.bk σ ρ B' H' (e.tr a), fun σ ρ B' H' a => k.ct σ ρ B' H' (e.tr a)⟩
end DL
set_option Elab.async false
set_option linter.all false
set_option autoImplicit false
set_option maxRecDepth 100000
set_option maxHeartbeats 2000000
/-! Data: the rules for expressions -/
namespace DL
open PySem L2

section
variable {g : G} {B H : Hp} {σ : St} {ρ : List S}
theorem Hps.fresh (r : Hps g B H) {p : Addr} (h : H p = none) : g.H0 p = none ∧ g.fd ≠ some p := by
  have nf : g.fd ≠ some p := fun e => by
    obtain ⟨⟨x, y, hx⟩, _⟩ := r.fd p e
    rw [h] at hx; cases hx
  refine ⟨?_, nf⟩
  cases q : g.H0 p with
  | none => rfl
  | some o => rw [r.h0 p o nf q] at h; cases h
theorem mem_ads {p : Addr} : p ∈ ads ρ → ∃ (i : Nat) (s : S), ρ[i]? = some s ∧ p ∈ s.ad := fun h => by
  obtain ⟨s, hs, hp⟩ := List.mem_flatMap.mp h
  obtain ⟨i, hi⟩ := List.mem_iff_getElem?.mp hs
  exact ⟨i, s, hi, hp⟩
/-- the addresses of the slots are objects of H, outside of B -/
theorem Rel.ad (r : Rel g B H σ ρ) {p : Addr} (h : p ∈ ads ρ) : (∃ vs, H p = some (.lst vs)) ∧ B p = none ∧ (g.H0 p = none ∨ g.fd = some p) := by
  obtain ⟨i, s, hi, hp⟩ := mem_ads h
  have ok := r.sl i s hi
  cases s with
  | un => cases hp
  | d x => cases hp
  | raw v => cases hp
  | own q xs =>
    have e : p = q := by simpa [S.ad] using hp
    subst e
    obtain ⟨_, h1, h2, vs, h3, _⟩ := ok
    exact ⟨⟨vs, h3⟩, h1, .inl h2.1⟩
  | fd q =>
    have e : p = q := by simpa [S.ad] using hp
    subst e
    obtain ⟨_, h1, h2, x, y, h3⟩ := ok
    exact ⟨⟨_, h3⟩, h1, h2⟩
theorem Rel.fresh (r : Rel g B H σ ρ) {p : Addr} (h : H p = none) : p ∉ ads ρ := fun q => by
  obtain ⟨⟨vs, e⟩, _⟩ := r.ad q
  rw [h] at e; cases e
/-- a new list that nobody knows becomes a tree -/
theorem Hps.freeze (r : Hps g B H) {p : Addr} {o : HO} (h : H p = some o) (hb : B p = none) (h0 : g.H0 p = none) (hf : g.fd ≠ some p) : Hps g (upd B p o) H := by
  refine ⟨fun a u e => ?_, r.b0.tr (Ex.up hb), r.h0, fun a n e => ?_, fun q e => ?_⟩
  · by_cases c : a = p
    · subst c; rw [upd_same] at e; cases e; exact h
    · rw [upd_ne c] at e; exact r.i _ _ e
  · by_cases c : a = p
    · subst c; exact absurd h0 n
    · rw [upd_ne c]; exact r.nw a n e
  · obtain ⟨h1, h2⟩ := r.fd q e
    refine ⟨h1, ?_⟩
    by_cases c : q = p
    · subst c; exact absurd e hf
    · rw [upd_ne c]; exact h2
theorem SlotOk.freeze {o : Option (Option V)} {s : S} {p : Addr} {u : HO} (h : SlotOk g B H o s) (hb : B p = none) (hn : p ∉ s.ad) : SlotOk g (upd B p u) H o s := by
  have e : Ex B (upd B p u) := Ex.up hb
  cases s with
  | un => trivial
  | d x => obtain ⟨v, h1, h2⟩ := h; exact ⟨v, h1, h2.up e⟩
  | own q xs =>
    obtain ⟨h1, h2, h3, vs, h4, h5⟩ := h
    have ne : q ≠ p := fun z => hn (by simp [S.ad, z])
    exact ⟨h1, by rw [upd_ne ne]; exact h2, h3, vs, h4, h5.up e⟩
  | fd q =>
    obtain ⟨h1, h2, h3, h4⟩ := h
    have ne : q ≠ p := fun z => hn (by simp [S.ad, z])
    exact ⟨h1, by rw [upd_ne ne]; exact h2, h3, h4⟩
  | raw v => exact h
theorem ad_sub {i : Nat} {s : S} (h : ρ[i]? = some s) {p : Addr} (hp : p ∈ s.ad) : p ∈ ads ρ := List.mem_flatMap.mpr ⟨s, List.mem_of_getElem? h, hp⟩
theorem Rel.freeze (r : Rel g B H σ ρ) {p : Addr} {o : HO} (h : H p = some o) (hb : B p = none) (h0 : g.H0 p = none) (hf : g.fd ≠ some p) (hn : p ∉ ads ρ) : Rel g (upd B p o) H σ ρ :=
  ⟨r.hp.freeze h hb h0 hf, r.len, fun i s e => (r.sl i s e).freeze hb fun z => hn (ad_sub e z), r.nd⟩
end

section
variable {X : Cx} {g : G} {ρ : List S}
/-- a new list as a tree -/
theorem de_n {e : Expr} {R : D → Prop} (h : DN X g e ρ fun xs => R (.lst xs)) : DE X g e ρ R := .mk fun σ B H Q r k =>
  h.go σ B H Q r fun p vs ds B' H' e1 r1 hb h0 hn hf hp hd hR =>
    k _ (.lst ds) (upd B' p (.lst vs)) H' (e1.tr (Ex.up hb)) (r1.freeze hp hb h0 hf hn) ⟨p, vs, rfl, upd_same, hd.up (Ex.up hb)⟩ hR
theorem de_mono {e : Expr} {R R' : D → Prop} (h : DE X g e ρ R) (m : ∀ d, R d → R' d) : DE X g e ρ R' := .mk fun σ B H Q r k => h.go σ B H Q r fun v d B' H' a b c x => k v d B' H' a b c (m d x)
theorem dn_mono {e : Expr} {R R' : List D → Prop} (h : DN X g e ρ R) (m : ∀ d, R d → R' d) : DN X g e ρ R' := .mk fun σ B H Q r k => h.go σ B H Q r fun p vs ds B' H' a1 a2 a3 a4 a5 a6 a7 a8 x => k p vs ds B' H' a1 a2 a3 a4 a5 a6 a7 a8 (m ds x)
theorem dt_mono {e : Expr} {R R' : Bool → Prop} (h : DT X g e ρ R) (m : ∀ d, R d → R' d) : DT X g e ρ R' := .mk fun σ B H Q r k => h.go σ B H Q r fun b B' H' a1 a2 x => k b B' H' a1 a2 (m b x)

/-! names, constants -/
theorem de_name (i : Nat) {x : Str} {pos : Pos} {d : D} {R : D → Prop} (hs : ρ[i]? = some (.d d)) (h : R d) (hN : X.N[i]? = some x := by rfl)
    (hv : Vis X.env.scope x := by first | exact Or.inl rfl | exact Or.inr (Or.inl rfl) | exact Or.inr (Or.inr rfl)) (hd : (x == ("__debug__" : Str)) = false := by decide) (hcd : (x == ("__classdict__" : Str)) = false := by decide) :
    DE X g (.Name x pos) ρ R := .mk fun σ B H Q r k => (pe_var hN hv hd hcd).w (by
  obtain ⟨v, e, hd⟩ := r.sl i _ hs
  exact ⟨v, e, k v d B H Ex.rfl' r hd h⟩)
theorem de_int {i : Int} {j pos} {R : D → Prop} (h : R (.int i)) : DE X g (.Constant (.int i) j pos) ρ R := .mk fun σ B H Q r k => pe_int.w (k _ (.int i) B H Ex.rfl' r rfl h)
theorem de_str {i : Str} {j pos} {R : D → Prop} (h : R (.str i)) : DE X g (.Constant (.str i) j pos) ρ R := .mk fun σ B H Q r k => pe_str.w (k _ (.str i) B H Ex.rfl' r rfl h)
theorem de_bl {i : Bool} {j pos} {R : D → Prop} (h : R (.bl i)) : DE X g (.Constant (.bool i) j pos) ρ R := .mk fun σ B H Q r k => pe_bl.w (k _ (.bl i) B H Ex.rfl' r rfl h)
theorem de_non {j pos} {R : D → Prop} (h : R .non) : DE X g (.Constant .none j pos) ρ R := .mk fun σ B H Q r k => pe_non.w (k _ .non B H Ex.rfl' r rfl h)
/-- a module's constant -/
theorem de_glob {x : Str} {v : V} {u : Value} {pos : Pos} {d : D} {R : D → Prop} (hm : X.mg x = some u) (rv : RelV v u) (hd : ∀ B, DR g.K B d v) (h : R d) (hg : Gl X x := by rfl) (hdb : (x == ("__debug__" : Str)) = false := by decide) :
    DE X g (.Name x pos) ρ R := .mk fun σ B H Q r k => (pe_glob hg hm rv hdb).w (k v d B H Ex.rfl' r (hd B) h)

/-! two values, one value: what a rule over values gives of trees -/
def OD (g : G) (r : R2) (x y : D) (R : D → Prop) : Prop := ∀ B H v w Q, Ex B H → DR g.K B x v → DR g.K B y w →
  (∀ z d B' H', Grow B H B' H' → DR g.K B' d z → R d → Q z H') → r v w H Q
def ON (g : G) (r : R2) (x y : D) (R : List D → Prop) : Prop := ∀ B H v w Q, Ex B H → DR g.K B x v → DR g.K B y w →
  (∀ p vs ds B' H', Grow B H B' H' → H p = none → B' p = none → H' p = some (.lst vs) → DRs g.K B' ds vs → R ds → Q (.ref p) H') → r v w H Q
theorem de_bin {op : Operator} {r : R2} {a b : Expr} {pos : Pos} {R : D → Prop} (ho : OpR X (binaryOp op) r) (h : DE X g a ρ fun x => DE X g b ρ fun y => OD g r x y R) : DE X g (.BinOp a op b pos) ρ R := .mk fun σ B H Q rl k =>
  (pe_op ho pW pW).w (h.go σ B H _ rl fun v x B1 H1 e1 r1 dx hx => hx.go σ B1 H1 _ r1 fun w y B2 H2 e2 r2 dy hy => hy B2 H2 v w Q r2.hp.i (dx.up e2) dy fun z d B' H' gr dz hR =>
    k z d B' H' (e1.tr (e2.tr gr.b)) (r2.grow gr) dz hR)
theorem dn_bin {op : Operator} {r : R2} {a b : Expr} {pos : Pos} {R : List D → Prop} (ho : OpR X (binaryOp op) r) (h : DE X g a ρ fun x => DE X g b ρ fun y => ON g r x y R) : DN X g (.BinOp a op b pos) ρ R := .mk fun σ B H Q rl k =>
  (pe_op ho pW pW).w (h.go σ B H _ rl fun v x B1 H1 e1 r1 dx hx => hx.go σ B1 H1 _ r1 fun w y B2 H2 e2 r2 dy hy => hy B2 H2 v w Q r2.hp.i (dx.up e2) dy fun p vs ds B' H' gr hp hb h1 h2 hR =>
    k p vs ds B' H' (e1.tr (e2.tr gr.b)) (r2.grow gr) hb (r2.hp.fresh hp).1 (r2.fresh hp) (r2.hp.fresh hp).2 h1 h2 hR)
theorem de_cmp {op : CmpOp} {r : R2} {a b : Expr} {pos : Pos} {R : D → Prop} (ho : OpR X (compareOp op) r) (hm : behindInMarks op b = false) (h : DE X g a ρ fun x => DE X g b ρ fun y => OD g r x y R) : DE X g (.Compare a [op] [b] pos) ρ R := .mk fun σ B H Q rl k =>
  (pe_cmpR ho pW pW hm).w (h.go σ B H _ rl fun v x B1 H1 e1 r1 dx hx => hx.go σ B1 H1 _ r1 fun w y B2 H2 e2 r2 dy hy => hy B2 H2 v w Q r2.hp.i (dx.up e2) dy fun z d B' H' gr dz hR =>
    k z d B' H' (e1.tr (e2.tr gr.b)) (r2.grow gr) dz hR)
theorem dt_cmp {op : CmpOp} {r : R2} {a b : Expr} {pos : Pos} {R : Bool → Prop} (ho : OpR X (compareOp op) r) (hm : behindInMarks op b = false) (h : DE X g a ρ fun x => DE X g b ρ fun y => OD g r x y fun z => ∃ c, z = .bl c ∧ R c) : DT X g (.Compare a [op] [b] pos) ρ R := .mk fun σ B H Q rl k =>
  (pt_cmpR ho pW pW hm).w (h.go σ B H _ rl fun v x B1 H1 e1 r1 dx hx => hx.go σ B1 H1 _ r1 fun w y B2 H2 e2 r2 dy hy => hy B2 H2 v w _ r2.hp.i (dx.up e2) dy fun z d B' H' gr dz ⟨c, ec, hR⟩ => by
    subst ec
    exact ⟨c, dz, k c B' H' (e1.tr (e2.tr gr.b)) (r2.grow gr) hR⟩)
theorem de_ix {r : R2} {a b : Expr} {pos : Pos} {R : D → Prop} (ho : IxR X r) (h : DE X g a ρ fun x => DE X g b ρ fun y => OD g r x y R) (hs : PlainIx b := by exact fun _ _ => rfl) : DE X g (.Subscript a b pos) ρ R := .mk fun σ B H Q rl k =>
  (pe_ix ho pW pW hs).w (h.go σ B H _ rl fun v x B1 H1 e1 r1 dx hx => hx.go σ B1 H1 _ r1 fun w y B2 H2 e2 r2 dy hy => hy B2 H2 v w Q r2.hp.i (dx.up e2) dy fun z d B' H' gr dz hR =>
    k z d B' H' (e1.tr (e2.tr gr.b)) (r2.grow gr) dz hR)
/-! operators on ints -/
theorem od_I {C : Int → Int → Prop} {f : Int → Int → Int} {x y : D} {R : D → Prop} (h : ∃ i j, x = .int i ∧ y = .int j ∧ C i j ∧ R (.int (f i j))) : OD g (rI C fun i j => .int (f i j)) x y R := fun B H v w Q e dx dy k => by
  obtain ⟨i, j, rfl, rfl, hc, hR⟩ := h
  cases (show v = V.int i from dx)
  cases (show w = V.int j from dy)
  exact ⟨i, j, rfl, rfl, hc, k _ (.int (f i j)) B H (Grow.id e) rfl hR⟩
theorem od_I0 {f : Int → Int → Int} {x y : D} {R : D → Prop} (h : ∃ i j, x = .int i ∧ y = .int j ∧ R (.int (f i j))) : OD g (rI0 fun i j => .int (f i j)) x y R := fun B H v w Q e dx dy k => by
  obtain ⟨i, j, rfl, rfl, hR⟩ := h
  cases (show v = V.int i from dx)
  cases (show w = V.int j from dy)
  exact ⟨i, j, rfl, rfl, k _ (.int (f i j)) B H (Grow.id e) rfl hR⟩
theorem od_B0 {f : Int → Int → Bool} {x y : D} {R : D → Prop} (h : ∃ i j, x = .int i ∧ y = .int j ∧ R (.bl (f i j))) : OD g (rI0 fun i j => .bl (f i j)) x y R := fun B H v w Q e dx dy k => by
  obtain ⟨i, j, rfl, rfl, hR⟩ := h
  cases (show v = V.int i from dx)
  cases (show w = V.int j from dy)
  exact ⟨i, j, rfl, rfl, k _ (.bl (f i j)) B H (Grow.id e) rfl hR⟩
variable {a b : Expr} {pos : Pos} {R : D → Prop}
theorem de_add (h : DE X g a ρ fun x => DE X g b ρ fun y => ∃ i j, x = .int i ∧ y = .int j ∧ R (.int (i + j))) : DE X g (.BinOp a .Add b pos) ρ R := de_bin op_add (de_mono h fun _ h => de_mono h fun _ h => od_I0 h)
theorem de_sub (h : DE X g a ρ fun x => DE X g b ρ fun y => ∃ i j, x = .int i ∧ y = .int j ∧ R (.int (i - j))) : DE X g (.BinOp a .Sub b pos) ρ R := de_bin op_sub (de_mono h fun _ h => de_mono h fun _ h => od_I0 h)
theorem de_mul (h : DE X g a ρ fun x => DE X g b ρ fun y => ∃ i j, x = .int i ∧ y = .int j ∧ CMul i j ∧ R (.int (i * j))) : DE X g (.BinOp a .Mult b pos) ρ R := de_bin op_mul (de_mono h fun _ h => de_mono h fun _ h => od_I h)
theorem de_mod (h : DE X g a ρ fun x => DE X g b ρ fun y => ∃ i j, x = .int i ∧ y = .int j ∧ 0 < j ∧ R (.int (i % j))) : DE X g (.BinOp a .Mod b pos) ρ R := de_bin op_mod (de_mono h fun _ h => de_mono h fun _ h => od_I (C := fun _ j => 0 < j) h)
theorem de_fdiv (h : DE X g a ρ fun x => DE X g b ρ fun y => ∃ i j, x = .int i ∧ y = .int j ∧ CDiv i j ∧ R (.int (i / j))) : DE X g (.BinOp a .FloorDiv b pos) ρ R := de_bin op_fdiv (de_mono h fun _ h => de_mono h fun _ h => od_I h)
theorem de_pow (h : DE X g a ρ fun x => DE X g b ρ fun y => ∃ i j, x = .int i ∧ y = .int j ∧ CPow i j ∧ R (.int (i ^ j.toNat))) : DE X g (.BinOp a .Pow b pos) ρ R := de_bin op_pow (de_mono h fun _ h => de_mono h fun _ h => od_I (f := fun i j => i ^ j.toNat) h)
theorem de_xor (h : DE X g a ρ fun x => DE X g b ρ fun y => ∃ i j, x = .int i ∧ y = .int j ∧ R (.int (Builtin.bitXor i j))) : DE X g (.BinOp a .BitXor b pos) ρ R := de_bin op_xor (de_mono h fun _ h => de_mono h fun _ h => od_I0 (f := fun i j => Builtin.bitXor i j) h)
theorem de_neg (h : DE X g a ρ fun x => ∃ i, x = .int i ∧ R (.int (-i))) : DE X g (.UnaryOp .USub a pos) ρ R := .mk fun σ B H Q rl k =>
  (pe_un un_neg pW).w (h.go σ B H _ rl fun v x B1 H1 e1 r1 dx ⟨i, ei, hR⟩ => by subst ei; exact ⟨i, dx, k _ (.int (-i)) B1 H1 e1 r1 rfl hR⟩)
/-! comparisons of ints -/
variable {Rb : Bool → Prop}
theorem de_lt (h : DE X g a ρ fun x => DE X g b ρ fun y => ∃ i j, x = .int i ∧ y = .int j ∧ R (.bl (decide (i < j)))) : DE X g (.Compare a [.Lt] [b] pos) ρ R := de_cmp op_lt (nomark _) (de_mono h fun _ h => de_mono h fun _ h => od_B0 h)
theorem de_le (h : DE X g a ρ fun x => DE X g b ρ fun y => ∃ i j, x = .int i ∧ y = .int j ∧ R (.bl (decide (i ≤ j)))) : DE X g (.Compare a [.LtE] [b] pos) ρ R := de_cmp op_le (nomark _) (de_mono h fun _ h => de_mono h fun _ h => od_B0 h)
theorem de_gt (h : DE X g a ρ fun x => DE X g b ρ fun y => ∃ i j, x = .int i ∧ y = .int j ∧ R (.bl (decide (j < i)))) : DE X g (.Compare a [.Gt] [b] pos) ρ R := de_cmp op_gt (nomark _) (de_mono h fun _ h => de_mono h fun _ h => od_B0 (f := fun i j => decide (j < i)) h)
theorem de_ge (h : DE X g a ρ fun x => DE X g b ρ fun y => ∃ i j, x = .int i ∧ y = .int j ∧ R (.bl (decide (j ≤ i)))) : DE X g (.Compare a [.GtE] [b] pos) ρ R := de_cmp op_ge (nomark _) (de_mono h fun _ h => de_mono h fun _ h => od_B0 (f := fun i j => decide (j ≤ i)) h)
theorem dt_lt (h : DE X g a ρ fun x => DE X g b ρ fun y => ∃ i j, x = .int i ∧ y = .int j ∧ Rb (decide (i < j))) : DT X g (.Compare a [.Lt] [b] pos) ρ Rb := dt_cmp op_lt (nomark _) (de_mono h fun _ h => de_mono h fun _ ⟨i, j, h1, h2, h3⟩ => od_B0 ⟨i, j, h1, h2, _, rfl, h3⟩)
theorem dt_le (h : DE X g a ρ fun x => DE X g b ρ fun y => ∃ i j, x = .int i ∧ y = .int j ∧ Rb (decide (i ≤ j))) : DT X g (.Compare a [.LtE] [b] pos) ρ Rb := dt_cmp op_le (nomark _) (de_mono h fun _ h => de_mono h fun _ ⟨i, j, h1, h2, h3⟩ => od_B0 ⟨i, j, h1, h2, _, rfl, h3⟩)
theorem dt_gt (h : DE X g a ρ fun x => DE X g b ρ fun y => ∃ i j, x = .int i ∧ y = .int j ∧ Rb (decide (j < i))) : DT X g (.Compare a [.Gt] [b] pos) ρ Rb := dt_cmp op_gt (nomark _) (de_mono h fun _ h => de_mono h fun _ ⟨i, j, h1, h2, h3⟩ => od_B0 (f := fun i j => decide (j < i)) ⟨i, j, h1, h2, _, rfl, h3⟩)
theorem dt_ge (h : DE X g a ρ fun x => DE X g b ρ fun y => ∃ i j, x = .int i ∧ y = .int j ∧ Rb (decide (j ≤ i))) : DT X g (.Compare a [.GtE] [b] pos) ρ Rb := dt_cmp op_ge (nomark _) (de_mono h fun _ h => de_mono h fun _ ⟨i, j, h1, h2, h3⟩ => od_B0 (f := fun i j => decide (j ≤ i)) ⟨i, j, h1, h2, _, rfl, h3⟩)

/-! tests -/
theorem dt_val {e : Expr} (h : DE X g e ρ fun x => ∃ c, x = .bl c ∧ Rb c) (he : ∀ whole, isTrue e X.env whole = (do let v ← whole; standAt e.pos; holding [v] (truthy v)) := by intro _; rfl) : DT X g e ρ Rb := .mk fun σ B H Q rl k =>
  (pt_val pW he).w (h.go σ B H _ rl fun v x B1 H1 e1 r1 dx ⟨c, ec, hR⟩ => by subst ec; exact ⟨c, dx, k c B1 H1 e1 r1 hR⟩)
theorem dt_not (h : DT X g a ρ fun c => Rb (!c)) : DT X g (.UnaryOp .Not a pos) ρ Rb := .mk fun σ B H Q rl k =>
  (pt_not tW).w (h.go σ B H _ rl fun c B1 H1 e1 r1 hR => k _ B1 H1 e1 r1 hR)
theorem dt_w {e : Expr} (h : DW X g e ρ Rb) : DT X g e ρ Rb := .mk fun σ B H Q rl k => (wW.pt).w (h.go σ B H Q rl k)
theorem dw_and1 (h : DT X g a ρ Rb) : DW X g (.BoolOp .And [a] pos) ρ Rb := .mk fun σ B H Q rl k => (pw_and1 tW).w (h.go σ B H Q rl k)
theorem dw_or1 (h : DT X g a ρ Rb) : DW X g (.BoolOp .Or [a] pos) ρ Rb := .mk fun σ B H Q rl k => (pw_or1 tW).w (h.go σ B H Q rl k)
variable {rest : List Expr}
theorem dw_and (h : DT X g a ρ fun c => if c = true then DW X g (.BoolOp .And (b :: rest) pos) ρ Rb else Rb false) : DW X g (.BoolOp .And (a :: b :: rest) pos) ρ Rb := .mk fun σ B H Q rl k =>
  (pw_and tW wW).w (h.go σ B H _ rl fun c B1 H1 e1 r1 hR => by
    cases c with
    | true => exact hR.go σ B1 H1 Q r1 fun b B' H' e2 => k b B' H' (e1.tr e2)
    | false => exact k false B1 H1 e1 r1 hR)
theorem dw_or (h : DT X g a ρ fun c => if c = true then Rb true else DW X g (.BoolOp .Or (b :: rest) pos) ρ Rb) : DW X g (.BoolOp .Or (a :: b :: rest) pos) ρ Rb := .mk fun σ B H Q rl k =>
  (pw_or tW wW).w (h.go σ B H _ rl fun c B1 H1 e1 r1 hR => by
    cases c with
    | true => exact k true B1 H1 e1 r1 hR
    | false => exact hR.go σ B1 H1 Q r1 fun b B' H' e2 => k b B' H' (e1.tr e2))
theorem de_one {op} (h : DE X g a ρ R) : DE X g (.BoolOp op [a] pos) ρ R := .mk fun σ B H Q rl k => (pe_one pW).w (h.go σ B H Q rl k)
theorem de_and (h : DE X g a ρ fun x => ∃ c, x = .bl c ∧ if c = true then DE X g (.BoolOp .And (b :: rest) pos) ρ R else R (.bl false)) : DE X g (.BoolOp .And (a :: b :: rest) pos) ρ R := .mk fun σ B H Q rl k =>
  (pe_and pW pW).w (h.go σ B H _ rl fun v x B1 H1 e1 r1 dx ⟨c, ec, hR⟩ => by
    subst ec
    refine ⟨c, dx, ?_⟩
    cases c with
    | true => exact hR.go σ B1 H1 Q r1 fun v d B' H' e2 => k v d B' H' (e1.tr e2)
    | false => exact k _ (.bl false) B1 H1 e1 r1 rfl hR)
theorem de_or (h : DE X g a ρ fun x => ∃ c, x = .bl c ∧ if c = true then R (.bl true) else DE X g (.BoolOp .Or (b :: rest) pos) ρ R) : DE X g (.BoolOp .Or (a :: b :: rest) pos) ρ R := .mk fun σ B H Q rl k =>
  (pe_or pW pW).w (h.go σ B H _ rl fun v x B1 H1 e1 r1 dx ⟨c, ec, hR⟩ => by
    subst ec
    refine ⟨c, dx, ?_⟩
    cases c with
    | true => exact k _ (.bl true) B1 H1 e1 r1 rfl hR
    | false => exact hR.go σ B1 H1 Q r1 fun v d B' H' e2 => k v d B' H' (e1.tr e2))
theorem de_not (h : DE X g a ρ fun x => ∃ c, x = .bl c ∧ R (.bl (!c))) : DE X g (.UnaryOp .Not a pos) ρ R := .mk fun σ B H Q rl k =>
  (pe_not pW).w (h.go σ B H _ rl fun v x B1 H1 e1 r1 dx ⟨c, ec, hR⟩ => by subst ec; exact ⟨c, dx, k _ (.bl (!c)) B1 H1 e1 r1 rfl hR⟩)
theorem de_ifexp {c : Expr} (h : DT X g c ρ fun t => if t = true then DE X g a ρ R else DE X g b ρ R) : DE X g (.IfExp c a b pos) ρ R := .mk fun σ B H Q rl k =>
  (pe_ifExp tW pW pW).w (h.go σ B H _ rl fun t B1 H1 e1 r1 hR => by
    cases t with
    | true => exact hR.go σ B1 H1 Q r1 fun v d B' H' e2 => k v d B' H' (e1.tr e2)
    | false => exact hR.go σ B1 H1 Q r1 fun v d B' H' e2 => k v d B' H' (e1.tr e2))

/-! argument lists, displays -/
theorem da_nil {Rs : List D → Prop} (h : Rs []) : DA X g [] ρ Rs := .mk fun σ B H Q rl k => pa_nil.w (k [] [] B H Ex.rfl' rl rfl h)
theorem da_cons {e : Expr} {es : List Expr} {Rs : List D → Prop} (h : DE X g e ρ fun x => DA X g es ρ fun xs => Rs (x :: xs)) (hs : starEach (e :: es) X.env = (false, eval e X.env) :: starEach es X.env := by rfl) : DA X g (e :: es) ρ Rs := .mk fun σ B H Q rl k =>
  (pa_cons pW aW hs).w (h.go σ B H _ rl fun v x B1 H1 e1 r1 dx hx => hx.go σ B1 H1 _ r1 fun vs ds B2 H2 e2 r2 ds2 hR => k (v :: vs) (x :: ds) B2 H2 (e1.tr e2) r2 ⟨v, vs, rfl, dx.up e2, ds2⟩ hR)
theorem de_tup {es : List Expr} {x1} (h : DA X g es ρ fun ds => ds.length ≤ sizeLine ∧ R (.tup ds)) : DE X g (.Tuple es x1 pos) ρ R := .mk fun σ B H Q rl k =>
  (pe_tup aW).w (h.go σ B H _ rl fun vs ds B1 H1 e1 r1 dx ⟨hl, hR⟩ => ⟨by rw [dx.len]; exact hl, fun p hp =>
    have gr := Grow.new (o := .tup vs) r1.hp.i hp
    k _ (.tup ds) (upd B1 p (.tup vs)) (upd H1 p (.tup vs)) (e1.tr gr.b) (r1.grow gr) ⟨p, vs, rfl, SqT.of upd_same, dx.up gr.b⟩ hR⟩)
theorem dn_lst {es : List Expr} {Rs : List D → Prop} (h : DA X g es ρ fun ds => ds.length ≤ sizeLine ∧ Rs ds) : DN X g (.List es pos) ρ Rs := .mk fun σ B H Q rl k =>
  (pe_lst aW).w (h.go σ B H _ rl fun vs ds B1 H1 e1 r1 dx ⟨hl, hR⟩ => ⟨by rw [dx.len]; exact hl, fun p hp =>
    have gr := Grow.out (o := .lst vs) r1.hp.i hp
    k p vs ds B1 (upd H1 p (.lst vs)) (e1.tr gr.b) (r1.grow gr) (r1.hp.i.none hp) (r1.hp.fresh hp).1 (r1.fresh hp) (r1.hp.fresh hp).2 upd_same dx hR⟩)

/-! calls of built-ins -/
def CD (g : G) (r : List V → Hp → VK → Prop) (ds : List D) (R : D → Prop) : Prop := ∀ B H vs Q, Ex B H → DRs g.K B ds vs →
  (∀ z d B' H', Grow B H B' H' → DR g.K B' d z → R d → Q z H') → r vs H Q
def CN (g : G) (r : List V → Hp → VK → Prop) (ds : List D) (R : List D → Prop) : Prop := ∀ B H vs Q, Ex B H → DRs g.K B ds vs →
  (∀ p vs ds B' H', Grow B H B' H' → H p = none → B' p = none → H' p = some (.lst vs) → DRs g.K B' ds vs → R ds → Q (.ref p) H') → r vs H Q
section
variable {x : Str} {p : Pos} {e : Expr} {es : List Expr} {id T : String} {r : List V → Hp → VK → Prop}
theorem de_callB (hc : CallR X (.builtin id) r) (hm : X.mg x = none) (hv : bootBuiltins x = some (.builtin id)) (h : DA X g (e :: es) ρ fun ds => CD g r ds R) (hg : Gl X x := by rfl) (hn : x ≠ "__name__" := by decide) (hdb : (x == ("__debug__" : Str)) = false := by decide)
    (he : starEach (e :: es) X.env = (false, eval e X.env) :: starEach es X.env := by rfl) (hpl : (backTo pos (starEach es X.env)).any (·.1) = false := by rfl) : DE X g (.Call (.Name x p) (e :: es) [] pos) ρ R := .mk fun σ B H Q rl k =>
  (pe_callB hc hg hm hv aW hn hdb he hpl).w (h.go σ B H _ rl fun vs ds B1 H1 e1 r1 dx hx => hx B1 H1 vs Q r1.hp.i dx fun z d B' H' gr dz hR => k z d B' H' (e1.tr gr.b) (r1.grow gr) dz hR)
theorem de_callTy (hc : CallR X (.type T) r) (hm : X.mg x = none) (hv : bootBuiltins x = some (.type T)) (h : DA X g (e :: es) ρ fun ds => CD g r ds R) (hg : Gl X x := by rfl) (hn : x ≠ "__name__" := by decide) (hdb : (x == ("__debug__" : Str)) = false := by decide)
    (he : starEach (e :: es) X.env = (false, eval e X.env) :: starEach es X.env := by rfl) (hpl : (backTo pos (starEach es X.env)).any (·.1) = false := by rfl) : DE X g (.Call (.Name x p) (e :: es) [] pos) ρ R := .mk fun σ B H Q rl k =>
  (pe_callTy hc hg hm hv aW hn hdb he hpl).w (h.go σ B H _ rl fun vs ds B1 H1 e1 r1 dx hx => hx B1 H1 vs Q r1.hp.i dx fun z d B' H' gr dz hR => k z d B' H' (e1.tr gr.b) (r1.grow gr) dz hR)
theorem dn_callB {Rs : List D → Prop} (hc : CallR X (.builtin id) r) (hm : X.mg x = none) (hv : bootBuiltins x = some (.builtin id)) (h : DA X g (e :: es) ρ fun ds => CN g r ds Rs) (hg : Gl X x := by rfl) (hn : x ≠ "__name__" := by decide) (hdb : (x == ("__debug__" : Str)) = false := by decide)
    (he : starEach (e :: es) X.env = (false, eval e X.env) :: starEach es X.env := by rfl) (hpl : (backTo pos (starEach es X.env)).any (·.1) = false := by rfl) : DN X g (.Call (.Name x p) (e :: es) [] pos) ρ Rs := .mk fun σ B H Q rl k =>
  (pe_callB hc hg hm hv aW hn hdb he hpl).w (h.go σ B H _ rl fun vs ds B1 H1 e1 r1 dx hx => hx B1 H1 vs Q r1.hp.i dx fun p vs ds B' H' gr hp hb h1 h2 hR => k p vs ds B' H' (e1.tr gr.b) (r1.grow gr) hb (r1.hp.fresh hp).1 (r1.fresh hp) (r1.hp.fresh hp).2 h1 h2 hR)
theorem dn_callTy {Rs : List D → Prop} (hc : CallR X (.type T) r) (hm : X.mg x = none) (hv : bootBuiltins x = some (.type T)) (h : DA X g (e :: es) ρ fun ds => CN g r ds Rs) (hg : Gl X x := by rfl) (hn : x ≠ "__name__" := by decide) (hdb : (x == ("__debug__" : Str)) = false := by decide)
    (he : starEach (e :: es) X.env = (false, eval e X.env) :: starEach es X.env := by rfl) (hpl : (backTo pos (starEach es X.env)).any (·.1) = false := by rfl) : DN X g (.Call (.Name x p) (e :: es) [] pos) ρ Rs := .mk fun σ B H Q rl k =>
  (pe_callTy hc hg hm hv aW hn hdb he hpl).w (h.go σ B H _ rl fun vs ds B1 H1 e1 r1 dx hx => hx B1 H1 vs Q r1.hp.i dx fun p vs ds B' H' gr hp hb h1 h2 hR => k p vs ds B' H' (e1.tr gr.b) (r1.grow gr) hb (r1.hp.fresh hp).1 (r1.fresh hp) (r1.hp.fresh hp).2 h1 h2 hR)
end
end
end DL
set_option Elab.async false
set_option linter.all false
set_option autoImplicit false
set_option maxRecDepth 100000
set_option maxHeartbeats 2000000
/-! Data: built-ins, equality, parts -/
namespace DL
open PySem L2

/-! trees as the library's data -/
mutual
def D.py : D → PyData
  | .non => .none | .bl b => .bool b | .int i => .int i | .str x => .str x
  | .lst xs => .list (pys xs) | .tup xs => .tuple (pys xs)
  | .dic kvs => .dict (pyk kvs) | .obj _ _ => .dict [] | .ty _ => .dict [] | .cref _ => .dict []
def pyk : List (Key × D) → List (PyData × PyData)
  | [] => []
  | (.inl i, d) :: r => (.int i, d.py) :: pyk r
  | (.inr x, d) :: r => (.str x, d.py) :: pyk r
def pys : List D → List PyData
  | [] => []
  | x :: xs => x.py :: pys xs
end
theorem pys_map : ∀ xs : List D, pys xs = xs.map D.py
  | [] => rfl
  | x :: xs => by rw [pys, pys_map xs]; rfl
/-- no dicts, objects, classes within -/
def D.pl (d : D) : Bool := d.py.plain
section
variable {X : Cx} {pins : List (Addr × Obj)} {σ : St} {B H : Hp} {s : Shared}
mutual
theorem DR.dp (K : PySem.W.Frag) (H : Hp) : ∀ (d : D) (v : V), d.py.plain = true → DR K H d v → Dp K H v d.py
  | .non, _, _, h => by cases (show _ = _ from h); exact .non
  | .bl b, _, _, h => by cases (show _ = _ from h); exact .bl b
  | .int b, _, _, h => by cases (show _ = _ from h); exact .int b
  | .str b, _, _, h => by cases (show _ = _ from h); exact .str b
  | .lst ds, _, p, h => by
    obtain ⟨a, xs, rfl, h2, h3⟩ := h
    exact .lst (SqL.of h2) (DRs.dp K H ds xs (by simpa [D.py, PyData.plain] using p) h3)
  | .tup ds, _, p, h => by
    obtain ⟨a, xs, rfl, h2, h3⟩ := h
    exact .tup h2 (DRs.dp K H ds xs (by simpa [D.py, PyData.plain] using p) h3)
  | .dic _, _, p, _ => by simp [D.py, PyData.plain] at p
  | .obj _ _, _, p, _ => by simp [D.py, PyData.plain] at p
  | .ty _, _, p, _ => by simp [D.py, PyData.plain] at p
  | .cref _, _, p, _ => by simp [D.py, PyData.plain] at p
theorem DRs.dp (K : PySem.W.Frag) (H : Hp) : ∀ (ds : List D) (vs : List V), PyData.plainAll (pys ds) = true → DRs K H ds vs → DpAll K H vs (pys ds)
  | [], _, _, h => by cases (show _ = [] from h); exact .nil
  | d :: ds, _, p, h => by
    obtain ⟨x, xs, rfl, h2, h3⟩ := h
    have p' : d.py.plain = true ∧ PyData.plainAll (pys ds) = true := by simpa [pys, PyData.plainAll] using p
    exact .cons (DR.dp K H d x p'.1 h2) (DRs.dp K H ds xs p'.2 h3)
end
end

/-- two values compared as data -/
def rEqP (K : PySem.W.Frag) (n : Bool) : R2 := fun x y H Q => ∃ d e, Dp K H x d ∧ Dp K H y e ∧ d.plain = true ∧ e.plain = true ∧ min d.depth e.depth ≤ 64 ∧ Q (.bl (if n then !PyData.eqv d e else PyData.eqv d e)) H
section
variable {X : Cx} {g : G} {ρ : List S} {a b : Expr} {pos : Pos} {R : D → Prop} {Rb : Bool → Prop}
theorem op_eqP (hu : X.A.units + 64 < cLine) : OpR X (compareOp .Eq) (rEqP X.K false) := by
  intro pins s σ H x y v u Q I rx ry h
  obtain ⟨d, e, hd, he, sd, se, hm, q⟩ := h
  obtain ⟨as, r1⟩ := Dp.reads I d x v hd rx
  obtain ⟨bs, r2⟩ := Dp.reads I e y u he ry
  exact SeqAt.eq_plain r1 r2 sd se (by omega) ⟨.bl _, H, I, rfl, q⟩
theorem op_neP (hu : X.A.units + 64 < cLine) : OpR X (compareOp .NotEq) (rEqP X.K true) := by
  intro pins s σ H x y v u Q I rx ry h
  obtain ⟨d, e, hd, he, sd, se, hm, q⟩ := h
  obtain ⟨as, r1⟩ := Dp.reads I d x v hd rx
  obtain ⟨bs, r2⟩ := Dp.reads I e y u he ry
  exact SeqAt.ne_plain r1 r2 sd se (by omega) ⟨.bl _, H, I, rfl, q⟩
def eqD (x y : D) : Bool := PyData.eqv x.py y.py
theorem od_eq {n : Bool} {x y : D} (h : x.pl = true ∧ y.pl = true ∧ min x.py.depth y.py.depth ≤ 64 ∧ R (.bl (if n then !eqD x y else eqD x y))) : OD g (rEqP g.K n) x y R := fun B H v w Q e dx dy k => by
  obtain ⟨h1, h2, h3, h4⟩ := h
  exact ⟨x.py, y.py, DR.dp _ _ _ _ h1 (dx.up e), DR.dp _ _ _ _ h2 (dy.up e), h1, h2, h3, k _ (.bl _) B H (Grow.id e) rfl h4⟩
theorem de_eq (hK : X.K = g.K) (hu : X.A.units + 64 < cLine) (h : DE X g a ρ fun x => DE X g b ρ fun y => x.pl = true ∧ y.pl = true ∧ min x.py.depth y.py.depth ≤ 64 ∧ R (.bl (eqD x y))) : DE X g (.Compare a [.Eq] [b] pos) ρ R :=
  de_cmp (op_eqP hu) (nomark _) (de_mono h fun _ h => de_mono h fun _ h => by rw [hK]; exact od_eq (n := false) h)
theorem de_ne (hK : X.K = g.K) (hu : X.A.units + 64 < cLine) (h : DE X g a ρ fun x => DE X g b ρ fun y => x.pl = true ∧ y.pl = true ∧ min x.py.depth y.py.depth ≤ 64 ∧ R (.bl (!eqD x y))) : DE X g (.Compare a [.NotEq] [b] pos) ρ R :=
  de_cmp (op_neP hu) (nomark _) (de_mono h fun _ h => de_mono h fun _ h => by rw [hK]; exact od_eq (n := true) h)
theorem dt_eq (hK : X.K = g.K) (hu : X.A.units + 64 < cLine) (h : DE X g a ρ fun x => DE X g b ρ fun y => x.pl = true ∧ y.pl = true ∧ min x.py.depth y.py.depth ≤ 64 ∧ Rb (eqD x y)) : DT X g (.Compare a [.Eq] [b] pos) ρ Rb :=
  dt_cmp (op_eqP hu) (nomark _) (de_mono h fun _ h => de_mono h fun _ ⟨h1, h2, h3, h4⟩ => by rw [hK]; exact od_eq (n := false) ⟨h1, h2, h3, _, rfl, h4⟩)
theorem dt_ne (hK : X.K = g.K) (hu : X.A.units + 64 < cLine) (h : DE X g a ρ fun x => DE X g b ρ fun y => x.pl = true ∧ y.pl = true ∧ min x.py.depth y.py.depth ≤ 64 ∧ Rb (!eqD x y)) : DT X g (.Compare a [.NotEq] [b] pos) ρ Rb :=
  dt_cmp (op_neP hu) (nomark _) (de_mono h fun _ h => de_mono h fun _ ⟨h1, h2, h3, h4⟩ => by rw [hK]; exact od_eq (n := true) ⟨h1, h2, h3, _, rfl, h4⟩)
theorem eqD_int (i j : Int) : eqD (.int i) (.int j) = decide (i = j) := by
  simp only [eqD, D.py, PyData.eqv]; rw [Bool.eq_iff_iff, beq_iff_eq, decide_eq_true_eq]
theorem eqD_str (i j : Str) : eqD (.str i) (.str j) = decide (i = j) := by
  simp only [eqD, D.py, PyData.eqv]; rw [Bool.eq_iff_iff, beq_iff_eq, decide_eq_true_eq]
theorem eqD_bl (i j : Bool) : eqD (.bl i) (.bl j) = decide (i = j) := by
  simp only [eqD, D.py, PyData.eqv]; rw [Bool.eq_iff_iff, beq_iff_eq, decide_eq_true_eq]

/-! is None, is False -/
def D.isN : D → Bool
  | .non => true
  | _ => false
theorem de_isN {j pos'} (h : DE X g a ρ fun x => R (.bl x.isN)) : DE X g (.Compare a [.Is] [.Constant .none j pos'] pos) ρ R := .mk fun σ B H Q rl k =>
  (pe_cmp (pc_isN pW)).w (h.go σ B H _ rl fun v x B1 H1 e1 r1 dx hR => by
    have e : decide (v = V.non) = x.isN := by
      cases x with
      | non => cases (show v = _ from dx); rfl
      | bl _ => cases (show v = _ from dx); rfl
      | int _ => cases (show v = _ from dx); rfl
      | str _ => cases (show v = _ from dx); rfl
      | lst _ => obtain ⟨_, _, rfl, _⟩ := dx; rfl
      | tup _ => obtain ⟨_, _, rfl, _⟩ := dx; rfl
      | dic _ => obtain ⟨_, _, rfl, _⟩ := dx; rfl
      | obj _ _ => obtain ⟨_, _, _, rfl, _⟩ := dx; rfl
      | ty _ => cases (show v = _ from dx); rfl
      | cref _ => cases (show v = _ from dx); rfl
    show Q (.bl (decide (v = V.non))) H1
    rw [e]
    exact k _ (.bl _) B1 H1 e1 r1 rfl hR)

/-! parts -/
theorem atI_of {α : Type} {xs : List α} {i : Int} {v : α} (h : 0 ≤ i ∧ xs[i.toNat]? = some v) : atI xs i = some v := by
  obtain ⟨h1, h2⟩ := h
  have e : i = ((i.toNat : Nat) : Int) := by omega
  rw [e]
  exact atI_nat h2
theorem atI_map {α β : Type} {xs : List α} {ys : List β} (hl : xs.length = ys.length) {i : Int} {v : α} (h : atI xs i = some v) : ∃ j : Nat, xs[j]? = some v ∧ ∀ w, ys[j]? = some w → atI ys i = some w := by
  unfold atI at h ⊢
  cases q : ixN xs.length i with
  | none => rw [q] at h; cases h
  | some j =>
    rw [q] at h
    refine ⟨j, h, fun w hw => ?_⟩
    rw [← hl, q]
    exact hw
theorem od_ix {x y : D} (h : ∃ i, y = .int i ∧ ((∃ xs, x = .lst xs ∧ ∃ d, atI xs i = some d ∧ R d) ∨ (∃ xs, x = .tup xs ∧ ∃ d, atI xs i = some d ∧ R d) ∨ ∃ z c, x = .str z ∧ z.length ≤ sizeLine ∧ atI z.cps.toList i = some c ∧ R (.str ⟨#[c]⟩))) : OD g (rIx g.K) x y R := fun B H v w Q e dx dy k => by
  obtain ⟨i, rfl, h⟩ := h
  cases (show w = V.int i from dy)
  rcases h with ⟨xs, rfl, d, ha, hR⟩ | ⟨xs, rfl, d, ha, hR⟩ | ⟨z, c, rfl, hz, ha, hR⟩
  · obtain ⟨p, vs, rfl, h2, h3⟩ := dx
    obtain ⟨j, h4, h5⟩ := atI_map (h3.len).symm ha
    obtain ⟨u, h6, h7⟩ := h3.get h4
    exact .inl ⟨p, vs, i, u, rfl, rfl, SqL.of (e _ _ h2), h5 u h6, k u d B H (Grow.id e) h7 hR⟩
  · obtain ⟨p, vs, rfl, h2, h3⟩ := dx
    obtain ⟨j, h4, h5⟩ := atI_map (h3.len).symm ha
    obtain ⟨u, h6, h7⟩ := h3.get h4
    exact .inr (.inl ⟨p, vs, i, u, rfl, rfl, e.sqt h2, h5 u h6, k u d B H (Grow.id e) h7 hR⟩)
  · cases (show v = V.str z from dx)
    exact .inr (.inr ⟨z, i, c, rfl, rfl, hz, ha, k _ (.str _) B H (Grow.id e) rfl hR⟩)
/-- x[i] -/
theorem de_sub1 (hK : X.K = g.K) (h : DE X g a ρ fun x => DE X g b ρ fun y => ∃ i, y = .int i ∧ ((∃ xs, x = .lst xs ∧ ∃ d, atI xs i = some d ∧ R d) ∨ (∃ xs, x = .tup xs ∧ ∃ d, atI xs i = some d ∧ R d) ∨ ∃ z c, x = .str z ∧ z.length ≤ sizeLine ∧ atI z.cps.toList i = some c ∧ R (.str ⟨#[c]⟩))) (hs : PlainIx b := by exact fun _ _ => rfl) :
    DE X g (.Subscript a b pos) ρ R := de_ix ix_seq (de_mono h fun _ h => de_mono h fun _ h => by rw [hK]; exact od_ix h) hs
/-- a slice's ends -/
def DO (X : Cx) (g : G) (e : Option Expr) (ρ : List S) (R : Option Int → Prop) : Prop := match e with
  | none => R none
  | some e => DE X g e ρ fun x => ∃ i, x = .int i ∧ R (some i)
def WO (X : Cx) (e : Option Expr) : TO := match e with
  | none => tNoPart
  | some e => tPart (WE X e)
theorem oW : ∀ {e : Option Expr}, PO X e (WO X e)
  | none => po_none
  | some _ => po_some pW
theorem DO_go {e : Option Expr} {Ro : Option Int → Prop} (h : DO X g e ρ Ro) {σ : St} {B H : Hp} {Q : Option Int → Hp → Prop} (rl : Rel g B H σ ρ) (k : ∀ i B' H', Ex B B' → Rel g B' H' σ ρ → Ro i → Q i H') : WO X e σ H Q := by
  cases e with
  | none => exact k none B H Ex.rfl' rl h
  | some e => exact h.go σ B H _ rl fun v x B1 H1 e1 r1 dx ⟨i, ei, hR⟩ => by subst ei; exact ⟨i, dx, k (some i) B1 H1 e1 r1 hR⟩
theorem DRs.cut {K : PySem.W.Frag} {ds : List D} {vs : List V} {H : Hp} (h : DRs K H ds vs) (lo hi : Option Int) : DRs K H ((ds.drop (HT.sIx ds.length 0 lo)).take (HT.sIx ds.length ds.length hi - HT.sIx ds.length 0 lo)) (cutV vs lo hi) := by
  unfold cutV
  rw [h.len]
  exact DRs.take _ (DRs.drop _ h)
def cutD (ds : List D) (lo hi : Option Int) : List D := (ds.drop (HT.sIx ds.length 0 lo)).take (HT.sIx ds.length ds.length hi - HT.sIx ds.length 0 lo)
/-- xs[lo:hi], a list -/
theorem dn_cutL {Rs : List D → Prop} {lo hi : Option Expr} {p2 : Pos} (h : DE X g a ρ fun x => DO X g lo ρ fun l => DO X g hi ρ fun u => ∃ xs, x = .lst xs ∧ Rs (cutD xs l u)) : DN X g (.Subscript a (.Slice lo hi none p2) pos) ρ Rs := .mk fun σ B H Q rl k =>
  (pe_slice sl_list pW oW oW).w (h.go σ B H _ rl fun v x B1 H1 e1 r1 dx h1 => DO_go h1 r1 fun l B2 H2 e2 r2 h2 => DO_go h2 r2 fun u B3 H3 e3 r3 ⟨xs, ex, hR⟩ => by
    subst ex
    obtain ⟨q, vs, rfl, hq, hd⟩ := dx.up (e2.tr e3)
    refine ⟨q, vs, rfl, SqL.of (r3.hp.i _ _ hq), fun p hp => ?_⟩
    have gr := Grow.out (o := .lst (cutV vs l u)) r3.hp.i hp
    exact k p _ _ B3 _ (e1.tr (e2.tr e3)) (r3.grow gr) (r3.hp.i.none hp) (r3.hp.fresh hp).1 (r3.fresh hp) (r3.hp.fresh hp).2 upd_same (hd.cut l u) hR)
/-- a tuple's -/
theorem de_cutT {lo hi : Option Expr} {p2 : Pos} (hK : X.K = g.K) (h : DE X g a ρ fun x => DO X g lo ρ fun l => DO X g hi ρ fun u => ∃ xs, x = .tup xs ∧ R (.tup (cutD xs l u))) :
    DE X g (.Subscript a (.Slice lo hi none p2) pos) ρ R := .mk fun σ B H Q rl k =>
  (pe_slice sl_tupA pW oW oW).w (h.go σ B H _ rl fun v x B1 H1 e1 r1 dx h1 => DO_go h1 r1 fun l B2 H2 e2 r2 h2 => DO_go h2 r2 fun u B3 H3 e3 r3 ⟨xs, ex, hR⟩ => by
    subst ex
    obtain ⟨q, vs, rfl, hq, hd⟩ := dx.up (e2.tr e3)
    refine ⟨q, vs, rfl, by rw [hK]; exact r3.hp.i.sqt hq, fun ⟨z1, z2⟩ => ?_, fun _ p hp => ?_⟩
    · have e : cutD xs l u = xs := by
        unfold cutD
        rw [← hd.len, z1, z2, List.drop_zero, Nat.sub_zero, hd.len, List.take_length]
      refine k _ (.tup (cutD xs l u)) B3 H3 (e1.tr (e2.tr e3)) r3 ⟨q, vs, rfl, hq, ?_⟩ hR
      rw [e]
      exact hd
    · have gr := Grow.new (o := .tup (cutV vs l u)) r3.hp.i hp
      exact k _ (.tup (cutD xs l u)) _ _ (e1.tr ((e2.tr e3).tr gr.b)) (r3.grow gr) ⟨p, _, rfl, SqT.of upd_same, (hd.cut l u).up gr.b⟩ hR)
end
end DL
set_option Elab.async false
set_option linter.all false
set_option autoImplicit false
set_option maxRecDepth 100000
set_option maxHeartbeats 2000000
/-! Data: statements, loops -/
namespace DL
open PySem L2

/-! slots changed -/
section
variable {g : G} {B H B' H' : Hp} {σ : St} {ρ : List S}
theorem ads_set_sub {s : S} (hs : s.ad = []) : ∀ (ρ : List S) (i : Nat), (ads (ρ.set i s)).Sublist (ads ρ)
  | [], _ => List.Sublist.refl _
  | r :: ρ, 0 => by
    show (s.ad ++ ads ρ).Sublist (r.ad ++ ads ρ)
    rw [hs]
    exact List.sublist_append_right _ _
  | r :: ρ, i + 1 => by
    show (r.ad ++ ads (ρ.set i s)).Sublist (r.ad ++ ads ρ)
    exact (List.Sublist.refl _).append (ads_set_sub hs ρ i)
theorem ads_set_mem {s : S} {p : Addr} : ∀ (ρ : List S) (i : Nat), p ∈ ads (ρ.set i s) → p ∈ s.ad ∨ p ∈ ads ρ
  | [], _, h => .inr h
  | r :: ρ, 0, h => by
    rcases List.mem_append.mp (show p ∈ s.ad ++ ads ρ from h) with h | h
    · exact .inl h
    · exact .inr (List.mem_append_right _ h)
  | r :: ρ, i + 1, h => by
    rcases List.mem_append.mp (show p ∈ r.ad ++ ads (ρ.set i s) from h) with h | h
    · exact .inr (List.mem_append_left _ h)
    · rcases ads_set_mem ρ i h with h | h
      · exact .inl h
      · exact .inr (List.mem_append_right _ h)
theorem ads_set_nd {s : S} {p : Addr} (hs : s.ad = [p]) : ∀ (ρ : List S) (i : Nat), (ads ρ).Nodup → p ∉ ads ρ → (ads (ρ.set i s)).Nodup
  | [], _, h, _ => h
  | r :: ρ, 0, h, n => by
    show (s.ad ++ ads ρ).Nodup
    have h' : (r.ad ++ ads ρ).Nodup := h
    have n' : p ∉ r.ad ++ ads ρ := n
    rw [hs]
    exact List.nodup_cons.mpr ⟨fun z => n' (List.mem_append_right _ z), (List.nodup_append.mp h').2.1⟩
  | r :: ρ, i + 1, h, n => by
    show (r.ad ++ ads (ρ.set i s)).Nodup
    have h' : (r.ad ++ ads ρ).Nodup := h
    have n' : p ∉ r.ad ++ ads ρ := n
    obtain ⟨h1, h2, h3⟩ := List.nodup_append.mp h'
    refine List.nodup_append.mpr ⟨h1, ads_set_nd hs ρ i h2 fun z => n' (List.mem_append_right _ z), fun a ha b hb => ?_⟩
    rcases ads_set_mem ρ i hb with hb | hb
    · rw [hs] at hb
      have e : b = p := by simpa using hb
      subst e
      exact fun z => n' (List.mem_append_left _ (z ▸ ha))
    · exact h3 a ha b hb
theorem Rel.put (r : Rel g B H σ ρ) (i : Nat) {v : V} {s : S} (hs : SlotOk g B H (some (some v)) s) (hn : (ads (ρ.set i s)).Nodup) : Rel g B H (σ.set i (some v)) (ρ.set i s) := by
  refine ⟨r.hp, by rw [List.length_set, List.length_set]; exact r.len, fun j t e => ?_, hn⟩
  by_cases c : i = j
  · subst c
    have hi : i < ρ.length := by
      have := (List.getElem?_eq_some_iff.mp e).1
      rwa [List.length_set] at this
    rw [List.getElem?_set_self hi] at e
    cases e
    rw [List.getElem?_set_self (by rw [r.len]; exact hi)]
    exact hs
  · rw [List.getElem?_set_ne c] at e ⊢
    exact r.sl j t e
theorem Rel.putD (r : Rel g B H σ ρ) (i : Nat) {v : V} {d : D} (h : DR g.K B d v) : Rel g B H (σ.set i (some v)) (ρ.set i (.d d)) := r.put i ⟨v, rfl, h⟩ (r.nd.sublist (ads_set_sub rfl ρ i))
theorem Rel.putN (r : Rel g B H σ ρ) (i : Nat) {p : Addr} {vs : List V} {ds : List D} (h1 : B p = none) (h2 : g.H0 p = none) (h3 : p ∉ ads ρ) (h4 : g.fd ≠ some p) (h5 : H p = some (.lst vs)) (h6 : DRs g.K B ds vs) :
    Rel g B H (σ.set i (some (.ref p))) (ρ.set i (.own p ds)) := r.put i ⟨rfl, h1, ⟨h2, h4⟩, vs, h5, h6⟩ (ads_set_nd rfl ρ i r.nd h3)
/-- forgetting a slot -/
theorem Rel.un (r : Rel g B H σ ρ) (i : Nat) (o : Option V) : Rel g B H (σ.set i o) (ρ.set i .un) := by
  refine ⟨r.hp, by rw [List.length_set, List.length_set]; exact r.len, fun j t e => ?_, r.nd.sublist (ads_set_sub rfl ρ i)⟩
  by_cases c : i = j
  · subst c
    have hi : i < ρ.length := by
      have := (List.getElem?_eq_some_iff.mp e).1
      rwa [List.length_set] at this
    rw [List.getElem?_set_self hi] at e
    cases e
    trivial
  · rw [List.getElem?_set_ne c] at e ⊢
    exact r.sl j t e
def wipeS (ρ : List S) : List Nat → List S
  | [] => ρ
  | v :: vs => (wipeS ρ vs).set v .un
theorem Rel.wipe (r : Rel g B H σ ρ) : ∀ vs : List Nat, Rel g B H (wipe σ vs) (wipeS ρ vs)
  | [] => r
  | v :: vs => (Rel.wipe r vs).un v none
/-- an own list's slot stands for a tree from now on -/
theorem slot_own {i : Nat} {p : Addr} {ds : List D} (r : Rel g B H σ ρ) (h : ρ[i]? = some (.own p ds)) : σ[i]? = some (some (.ref p)) ∧ B p = none ∧ g.H0 p = none ∧ g.fd ≠ some p ∧ ∃ vs, H p = some (.lst vs) ∧ DRs g.K B ds vs := by
  obtain ⟨a, b, ⟨c, d⟩, e⟩ := r.sl i _ h
  exact ⟨a, b, c, d, e⟩
theorem set_self {α : Type} : ∀ {l : List α} {i : Nat} {x : α}, l[i]? = some x → l.set i x = l
  | [], _, _, h => by simp at h
  | a :: l, 0, x, h => by simp at h; subst h; rfl
  | a :: l, i + 1, x, h => by
    show a :: l.set i x = a :: l
    rw [set_self (l := l) (by simpa using h)]
theorem ads_out {s : S} {p : Addr} (hs : s.ad = []) : ∀ {ρ : List S} {i : Nat} {t : S}, ρ[i]? = some t → t.ad = [p] → (ads ρ).Nodup → p ∉ ads (ρ.set i s)
  | [], _, _, h, _, _ => by simp at h
  | r :: ρ, 0, t, h, ht, n => by
    simp at h; subst h
    show p ∉ s.ad ++ ads ρ
    have n' : (r.ad ++ ads ρ).Nodup := n
    rw [ht] at n'
    rw [hs]
    exact (List.nodup_cons.mp n').1
  | r :: ρ, i + 1, t, h, ht, n => by
    show p ∉ r.ad ++ ads (ρ.set i s)
    have n' : (r.ad ++ ads ρ).Nodup := n
    obtain ⟨h1, h2, h3⟩ := List.nodup_append.mp n'
    have h' : ρ[i]? = some t := by simpa using h
    intro z
    rcases List.mem_append.mp z with z | z
    · exact h3 p z p (ad_sub h' (by rw [ht]; simp)) rfl
    · exact ads_out hs h' ht h2 z
theorem Rel.thaw (r : Rel g B H σ ρ) {i : Nat} {p : Addr} {ds : List D} (h : ρ[i]? = some (.own p ds)) : ∃ B', Ex B B' ∧ Rel g B' H σ (ρ.set i (.d (.lst ds))) := by
  obtain ⟨h1, h2, h3, h4, vs, h5, h6⟩ := slot_own r h
  have hn : p ∉ ads (ρ.set i .un) := ads_out rfl h rfl r.nd
  have r1 : Rel g B H σ (ρ.set i .un) := by
    have := r.un i (some (.ref p))
    rwa [set_self h1] at this
  have r2 := r1.freeze h5 h2 h3 h4 hn
  refine ⟨upd B p (.lst vs), Ex.up h2, ?_⟩
  have r3 := r2.putD i (v := .ref p) (d := .lst ds) ⟨p, vs, rfl, upd_same, h6.up (Ex.up h2)⟩
  rwa [set_self h1, List.set_set] at r3
/-- the list in a slot is written -/
theorem Rel.mut (r : Rel g B H σ ρ) {i : Nat} {p : Addr} {ds es : List D} {ws : List V} (h : ρ[i]? = some (.own p ds)) (hw : DRs g.K B es ws) : Rel g B (upd H p (.lst ws)) σ (ρ.set i (.own p es)) := by
  obtain ⟨h1, h2, h3, h4, vs, h5, h6⟩ := slot_own r h
  have nb : ∀ a o, B a = some o → a ≠ p := fun a o e z => by subst z; rw [h2] at e; cases e
  have hn : p ∉ ads (ρ.set i .un) := ads_out rfl h rfl r.nd
  refine ⟨⟨fun a o e => by rw [upd_ne (nb a o e)]; exact r.hp.i _ _ e, r.hp.b0, fun a o n e => ?_, r.hp.nw, fun q e => ?_⟩, by rw [List.length_set]; exact r.len, fun j t e => ?_, ?_⟩
  · rw [upd_ne (fun z => by subst z; rw [h3] at e; cases e)]
    exact r.hp.h0 a o n e
  · obtain ⟨⟨x, y, hx⟩, hb⟩ := r.hp.fd q e
    have ne : q ≠ p := fun z => by subst z; exact h4 e
    exact ⟨⟨x, y, by rw [upd_ne ne]; exact hx⟩, hb⟩
  · by_cases c : i = j
    · subst c
      have hi : i < ρ.length := (List.getElem?_eq_some_iff.mp h).1
      rw [List.getElem?_set_self hi] at e
      cases e
      exact ⟨h1, h2, ⟨h3, h4⟩, ws, upd_same, hw⟩
    · rw [List.getElem?_set_ne c] at e
      have ok := r.sl j t e
      have np : p ∉ t.ad := fun z => hn (ad_sub (ρ := ρ.set i .un) (i := j) (by rw [List.getElem?_set_ne c]; exact e) z)
      cases t with
      | un => trivial
      | d x => exact ok
      | raw v => exact ok
      | own q xs =>
        obtain ⟨a1, a2, a3, vs', a4, a5⟩ := ok
        have ne : q ≠ p := fun z => np (by simp [S.ad, z])
        exact ⟨a1, a2, a3, vs', by rw [upd_ne ne]; exact a4, a5⟩
      | fd q =>
        obtain ⟨a1, a2, a3, x, y, a4⟩ := ok
        have ne : q ≠ p := fun z => np (by simp [S.ad, z])
        exact ⟨a1, a2, a3, x, y, by rw [upd_ne ne]; exact a4⟩
  · have e : ρ.set i (.own p es) = (ρ.set i .un).set i (.own p es) := by rw [List.set_set]
    rw [e]
    exact ads_set_nd rfl _ i (r.nd.sublist (ads_set_sub rfl ρ i)) hn

/-! from here on all that stands (but the slots' own) is kept -/
def G.at (g : G) (B H : Hp) (ρ : List S) : G := ⟨g.K, B, fun a => if a ∈ ads ρ then none else H a, none⟩
theorem Rel.into (r : Rel g B H σ ρ) : Rel (g.at B H ρ) B H σ ρ := by
  refine ⟨⟨r.hp.i, Ex.rfl', fun a o n e => ?_, fun a n e => e, fun p e => nomatch e⟩, r.len, fun i s e => ?_, r.nd⟩
  · have e : (if a ∈ ads ρ then none else H a) = some o := e
    split at e
    · cases e
    · exact e
  · have ok := r.sl i s e
    cases s with
    | un => trivial
    | d x => exact ok
    | raw v => exact ok
    | own p xs =>
      obtain ⟨a1, a2, a3, a4⟩ := ok
      exact ⟨a1, a2, ⟨if_pos (ad_sub e (by simp [S.ad])), fun z => nomatch z⟩, a4⟩
    | fd p =>
      obtain ⟨a1, a2, a3, a4⟩ := ok
      exact ⟨a1, a2, .inl (if_pos (ad_sub e (by simp [S.ad]))), a4⟩
theorem Rel.back {σ' : St} (r : Rel g B H σ ρ) (q : Rel (g.at B H ρ) B' H' σ' ρ) : Rel g B' H' σ' ρ := by
  have old : ∀ a, a ∉ ads ρ → ∀ o, H a = some o → H' a = some o := fun a n o e => q.hp.h0 a o (fun z => nomatch z) ((if_neg n).trans e)
  have new : ∀ a, a ∉ ads ρ → H a ≠ none → B a = none → B' a = none := fun a n e b => q.hp.nw a (fun z => e ((if_neg n).symm.trans z)) b
  refine ⟨⟨q.hp.i, r.hp.b0.tr q.hp.b0, fun a o n e => ?_, fun a n e => ?_, fun p e => ?_⟩, q.len, fun i s e => ?_, q.nd⟩
  · by_cases c : a ∈ ads ρ
    · rcases (r.ad c).2.2 with z | z
      · rw [z] at e; cases e
      · exact absurd z n
    · exact old a c o (r.hp.h0 a o n e)
  · by_cases c : a ∈ ads ρ
    · exact (q.ad c).2.1
    · refine new a c (fun z => ?_) (r.hp.nw a n e)
      by_cases hf : g.fd = some a
      · obtain ⟨⟨x, y, hx⟩, _⟩ := r.hp.fd a hf
        rw [hx] at z; cases z
      · cases w : g.H0 a with
        | none => exact n w
        | some o => rw [r.hp.h0 a o hf w] at z; cases z
  · obtain ⟨⟨x, y, hx⟩, hb⟩ := r.hp.fd p e
    by_cases c : p ∈ ads ρ
    · obtain ⟨i, s, hi, hp⟩ := mem_ads c
      have ok := r.sl i s hi
      have ok' := q.sl i s hi
      cases s with
      | un => cases hp
      | d x => cases hp
      | raw v => cases hp
      | own q' xs =>
        have e' : p = q' := by simpa [S.ad] using hp
        subst e'
        exact absurd e ok.2.2.1.2
      | fd q' =>
        have e' : p = q' := by simpa [S.ad] using hp
        subst e'
        exact ⟨ok'.2.2.2, ok'.2.1⟩
    · exact ⟨⟨x, y, old p c _ hx⟩, new p c (by rw [hx]; exact fun z => nomatch z) hb⟩
  · have ok := r.sl i s e
    have ok' := q.sl i s e
    cases s with
    | un => trivial
    | d x => exact ok'
    | raw v => exact ok'
    | own p xs =>
      obtain ⟨a1, a2, a3, a4⟩ := ok
      obtain ⟨b1, b2, b3, b4⟩ := ok'
      exact ⟨b1, b2, a3, b4⟩
    | fd p =>
      obtain ⟨a1, a2, a3, a4⟩ := ok
      obtain ⟨b1, b2, b3, b4⟩ := ok'
      exact ⟨b1, b2, a3, b4⟩
end

/-! ### statements -/
/-- what is wanted behind a statement, when P is wanted of the slots -/
def O.to (P : List S → Prop) (R : O → Prop) : O → Prop
  | .nx ρ => P ρ
  | o => R o
section
variable {X : Cx} {g : G} {ρ : List S} {R : O → Prop} {st : Stmt} {sts : List Stmt} {e : Expr} {pos : Pos}
theorem Ends'.to {B : Hp} {Dn : Ends} {P : List S → Prop} {N : St → Hp → Prop} (k : Ends' g B R Dn) (h : ∀ σ ρ B' H', Ex B B' → Rel g B' H' σ ρ → P ρ → N σ H') : Ends' g B (O.to P R) { Dn with nx := N } :=
  ⟨fun σ ρ B' H' a r q => h σ ρ B' H' a r q, fun v d B' H' a r c q => k.rt v d B' H' a r c q, fun p vs ds B' H' a r c1 c2 c3 c4 q => k.rn p vs ds B' H' a r c1 c2 c3 c4 q, fun σ ρ B' H' a r q => k.bk σ ρ B' H' a r q, fun σ ρ B' H' a r q => k.ct σ ρ B' H' a r q⟩
theorem dss_nil (h : R (.nx ρ)) : DSs X g [] ρ R := .mk fun σ B H Dn rl k => pss_nil.w (k.nx σ ρ B H Ex.rfl' rl h)
theorem dss_cons (h : DS X g st ρ (O.to (fun ρ' => DSs X g sts ρ' R) R)) : DSs X g (st :: sts) ρ R := .mk fun σ B H Dn rl k =>
  (pss_cons sW ssW).w (show WS X st { Dn with nx := WSs X sts Dn } σ H from h.go σ B H _ rl (k.to fun σ' ρ' B' H' e r hd => hd.go σ' B' H' Dn r (k.mono e)))
theorem dss_one (h : DS X g st ρ R) : DSs X g [st] ρ R := .mk fun σ B H Dn rl k => (pss_one sW).w (h.go σ B H Dn rl k)
theorem ds_mono {R' : O → Prop} (h : DS X g st ρ R) (m : ∀ o, R o → R' o) : DS X g st ρ R' := .mk fun σ B H Dn rl k => h.go σ B H Dn rl
  ⟨fun a b c d e f q => k.nx a b c d e f (m _ q), fun a b c d e f g q => k.rt a b c d e f g (m _ q), fun a b c d e f g h i j l q => k.rn a b c d e f g h i j l (m _ q), fun a b c d e f q => k.bk a b c d e f (m _ q), fun a b c d e f q => k.ct a b c d e f (m _ q)⟩
theorem dss_mono {R' : O → Prop} (h : DSs X g sts ρ R) (m : ∀ o, R o → R' o) : DSs X g sts ρ R' := .mk fun σ B H Dn rl k => h.go σ B H Dn rl
  ⟨fun a b c d e f q => k.nx a b c d e f (m _ q), fun a b c d e f g q => k.rt a b c d e f g (m _ q), fun a b c d e f g h i j l q => k.rn a b c d e f g h i j l (m _ q), fun a b c d e f q => k.bk a b c d e f (m _ q), fun a b c d e f q => k.ct a b c d e f (m _ q)⟩
theorem dss_thaw {i : Nat} {p : Addr} {ds : List D} (hs : ρ[i]? = some (.own p ds)) (h : DSs X g sts (ρ.set i (.d (.lst ds))) R) : DSs X g sts ρ R := .mk fun σ B H Dn rl k => by
  obtain ⟨B', e, r⟩ := rl.thaw hs
  exact h.go σ B' H Dn r (k.mono e)
theorem ds_pass (h : R (.nx ρ)) : DS X g (.Pass pos) ρ R := .mk fun σ B H Dn rl k => ps_pass.w (k.nx σ ρ B H Ex.rfl' rl h)
theorem ds_break (h : R (.bk ρ)) : DS X g (.Break pos) ρ R := .mk fun σ B H Dn rl k => ps_break.w (k.bk σ ρ B H Ex.rfl' rl h)
theorem ds_cont (h : R (.ct ρ)) : DS X g (.Continue pos) ρ R := .mk fun σ B H Dn rl k => ps_continue.w (k.ct σ ρ B H Ex.rfl' rl h)
theorem ds_ret (h : DE X g e ρ fun x => R (.rt x)) : DS X g (.Return (some e) pos) ρ R := .mk fun σ B H Dn rl k => (ps_ret pW).w (h.go σ B H _ rl fun v d B' H' e r dx hR => k.rt v d B' H' e r.hp dx hR)
theorem ds_retN (h : DN X g e ρ fun x => R (.rn x)) : DS X g (.Return (some e) pos) ρ R := .mk fun σ B H Dn rl k => (ps_ret pW).w (h.go σ B H _ rl fun p vs ds B' H' e r h1 h2 h3 h4 h5 h6 hR => k.rn p vs ds B' H' e r.hp h1 h2 h5 h6 hR)
theorem ds_ret0 (h : R (.rt .non)) : DS X g (.Return none pos) ρ R := .mk fun σ B H Dn rl k => ps_retN.w (k.rt _ .non B H Ex.rfl' rl.hp rfl h)
/-- return of a list that is the def's own -/
theorem ds_retO (i : Nat) {x : Str} {p1 : Pos} {p : Addr} {ds : List D} (hs : ρ[i]? = some (.own p ds)) (h : R (.rn ds)) (hN : X.N[i]? = some x := by rfl)
    (hv : Vis X.env.scope x := by first | exact Or.inl rfl | exact Or.inr (Or.inl rfl) | exact Or.inr (Or.inr rfl)) (hd : (x == ("__debug__" : Str)) = false := by decide) (hcd : (x == ("__classdict__" : Str)) = false := by decide) :
    DS X g (.Return (some (.Name x p1)) pos) ρ R := .mk fun σ B H Dn rl k => (ps_ret (pe_var hN hv hd hcd)).w (by
  obtain ⟨h1, h2, h3, h4, vs, h5, h6⟩ := slot_own rl hs
  exact ⟨_, h1, k.rn p vs ds B H Ex.rfl' rl.hp h2 h3 h5 h6 h⟩)
theorem ds_expr (h : DE X g e ρ fun _ => R (.nx ρ)) (hs : swapsWith e none pos.line X.env = pure false := by rfl) : DS X g (.Expr e pos) ρ R := .mk fun σ B H Dn rl k =>
  (ps_expr pW hs).w (h.go σ B H _ rl fun v d B' H' e r dx hR => k.nx σ ρ B' H' e r hR)
theorem ds_if {c : Expr} {a b : List Stmt} (h : DT X g c ρ fun t => if t = true then DSs X g a ρ R else DSs X g b ρ R) : DS X g (.If c a b pos) ρ R := .mk fun σ B H Dn rl k =>
  (ps_if tW ssW ssW).w (h.go σ B H _ rl fun t B' H' e r hR => by
    cases t with
    | true => exact hR.go σ B' H' Dn r (k.mono e)
    | false => exact hR.go σ B' H' Dn r (k.mono e))
theorem ds_set (i : Nat) {x : Str} {pos' : Pos} (hN : X.N.Nodup) (h : DE X g e ρ fun d => R (.nx (ρ.set i (.d d)))) (hi : X.N[i]? = some x := by rfl) (hx : Loc X.env.scope x := by first | exact Or.inl rfl | exact Or.inr rfl)
    (hs : swapsWith e (some (.Name x pos')) pos.line X.env = pure false := by rfl) (hf : X.fn x = true ∨ X.env.scope.names.lookup x = some .local := by first | exact .inl rfl | exact .inr rfl) : DS X g (.Assign [.Name x pos'] e pos) ρ R := .mk fun σ B H Dn rl k =>
  (ps_set hN hi hx pW hs hf).w (h.go σ B H _ rl fun v d B' H' e r dx hR => k.nx _ _ B' H' e (r.putD i dx) hR)
theorem ds_setN (i : Nat) {x : Str} {pos' : Pos} (hN : X.N.Nodup) (h : DN X g e ρ fun ds => ∀ p, R (.nx (ρ.set i (.own p ds)))) (hi : X.N[i]? = some x := by rfl) (hx : Loc X.env.scope x := by first | exact Or.inl rfl | exact Or.inr rfl)
    (hs : swapsWith e (some (.Name x pos')) pos.line X.env = pure false := by rfl) (hf : X.fn x = true ∨ X.env.scope.names.lookup x = some .local := by first | exact .inl rfl | exact .inr rfl) : DS X g (.Assign [.Name x pos'] e pos) ρ R := .mk fun σ B H Dn rl k =>
  (ps_set hN hi hx pW hs hf).w (h.go σ B H _ rl fun p vs ds B' H' e r h1 h2 h3 h4 h5 h6 hR => k.nx _ _ B' H' e (r.putN i h1 h2 h3 h4 h5 h6) (hR p))
theorem DA2 {a b : Expr} {Rs : D → D → Prop} (h : DE X g a ρ fun x => DE X g b ρ fun y => Rs x y) (hs : starEach [a, b] X.env = (false, eval a X.env) :: starEach [b] X.env := by rfl) (hs2 : starEach [b] X.env = (false, eval b X.env) :: starEach [] X.env := by rfl) : DA X g [a, b] ρ fun ds => ∃ x y, ds = [x, y] ∧ Rs x y :=
  da_cons (de_mono h fun x hx => da_cons (de_mono hx fun y hy => da_nil ⟨x, y, rfl, hy⟩) hs2) hs
/-- a, b = e1, e2 -/
theorem ds_par (i j : Nat) {x y : Str} {a b : Expr} {px py pt : Pos} {kt k2 pt2} (hc : X.calm = true) (hN : X.N.Nodup) (h : DE X g a ρ fun u => DE X g b ρ fun w => R (.nx ((ρ.set i (.d u)).set j (.d w)))) (hi : X.N[i]? = some x := by rfl) (hj : X.N[j]? = some y := by rfl) (hij : i ≠ j := by decide)
    (hx : X.env.scope.names.lookup x = some .local := by rfl) (hy : X.env.scope.names.lookup y = some .local := by rfl)
    (hw : swappedStores [.Tuple [.Name x px, .Name y py] kt pt] (.Tuple [a, b] k2 pt2) X.env = pure (some [x, y]) := by rfl)
    (hs : swapsWithSole [.Tuple [.Name x px, .Name y py] kt pt] (.Tuple [a, b] k2 pt2) pos.line X.env = pure false := by rfl) (h1 : starEach [a, b] X.env = (false, eval a X.env) :: starEach [b] X.env := by rfl) (h2 : starEach [b] X.env = (false, eval b X.env) :: starEach [] X.env := by rfl) :
    DS X g (.Assign [.Tuple [.Name x px, .Name y py] kt pt] (.Tuple [a, b] k2 pt2) pos) ρ R := .mk fun σ B H Dn rl k =>
  (ps_par hc hN hi hj hij hx hy (pa_cons pW (pa_cons pW pa_nil h2) h1) hw hs).w (h.go σ B H _ rl fun v u B1 H1 e1 r1 du hu => hu.go σ B1 H1 _ r1 fun w z B2 H2 e2 r2 dz hR =>
    ⟨v, w, rfl, k.nx _ _ B2 H2 (e1.tr e2) ((r2.putD i (du.up e2)).putD j dz) hR⟩)
/-- the first one a new list, to be changed later -/
theorem ds_parN (i j : Nat) {x y : Str} {a b : Expr} {px py pt : Pos} {kt k2 pt2} (hc : X.calm = true) (hN : X.N.Nodup) (h : DN X g a ρ fun us => ∀ g' : G, g'.K = g.K → DE X g' b ρ fun w => ∀ p, R (.nx ((ρ.set i (.own p us)).set j (.d w)))) (hi : X.N[i]? = some x := by rfl) (hj : X.N[j]? = some y := by rfl) (hij : i ≠ j := by decide)
    (hx : X.env.scope.names.lookup x = some .local := by rfl) (hy : X.env.scope.names.lookup y = some .local := by rfl)
    (hw : swappedStores [.Tuple [.Name x px, .Name y py] kt pt] (.Tuple [a, b] k2 pt2) X.env = pure (some [x, y]) := by rfl)
    (hs : swapsWithSole [.Tuple [.Name x px, .Name y py] kt pt] (.Tuple [a, b] k2 pt2) pos.line X.env = pure false := by rfl) (h1 : starEach [a, b] X.env = (false, eval a X.env) :: starEach [b] X.env := by rfl) (h2 : starEach [b] X.env = (false, eval b X.env) :: starEach [] X.env := by rfl) :
    DS X g (.Assign [.Tuple [.Name x px, .Name y py] kt pt] (.Tuple [a, b] k2 pt2) pos) ρ R := .mk fun σ B H Dn rl k =>
  (ps_par hc hN hi hj hij hx hy (pa_cons pW (pa_cons pW pa_nil h2) h1) hw hs).w (h.go σ B H _ rl fun p vs us B1 H1 e1 r1 n1 n2 n3 n4 n5 n6 hu => (hu (g.at B1 H1 ρ) rfl).go σ B1 H1 _ r1.into fun w z B2 H2 e2 r2 dz hR => by
    have keep : H2 p = some (.lst vs) := r2.hp.h0 p _ (fun z => nomatch z) ((if_neg n3).trans n5)
    have nb : B2 p = none := r2.hp.nw p (fun z => by rw [show (g.at B1 H1 ρ).H0 p = H1 p from if_neg n3, n5] at z; cases z) n1
    have r3 := r1.back r2
    exact ⟨.ref p, w, rfl, k.nx _ _ B2 H2 (e1.tr e2) ((r3.putN i nb n2 n3 n4 keep (n6.up e2)).putD j dz) (hR p)⟩)
/-- xs.append(e), xs the def's own -/
theorem ds_append (i : Nat) {x : Str} {px apos cpos : Pos} {p : Addr} {ds : List D} (hs : ρ[i]? = some (.own p ds)) (h : DE X g e ρ fun d => ds.length < sizeLine ∧ R (.nx (ρ.set i (.own p (ds ++ [d]))))) (hN : X.N[i]? = some x := by rfl)
    (hv : Vis X.env.scope x := by first | exact Or.inl rfl | exact Or.inr (Or.inl rfl) | exact Or.inr (Or.inr rfl)) (hd : (x == ("__debug__" : Str)) = false := by decide) (hcd : (x == ("__classdict__" : Str)) = false := by decide)
    (hb : attributeBase (.Name x px) "append" X.env (eval (.Name x px) X.env) = eval (.Name x px) X.env := by rfl)
    (hfew : ((backTo cpos (starEach [e] X.env)).all (fun x => !x.1) && (backToKw cpos (keywordEach [] X.env)).all (fun x => x.1.isSome)
      && decide ([e].length + ([] : List Keyword).length + (if ([] : List Keyword).isEmpty then 0 else 1) < 30)) = true := by rfl)
    (hl : (apos.endLine == cpos.line) = true := by rfl) (hst : starEach [e] X.env = (false, eval e X.env) :: starEach [] X.env := by rfl) (hpl : (backTo cpos (starEach [] X.env)).any (·.1) = false := by rfl)
    (hsw : swapsWith (.Call (.Attribute (.Name x px) "append" apos) [e] [] cpos) none pos.line X.env = pure false := by rfl) : DS X g (.Expr (.Call (.Attribute (.Name x px) "append" apos) [e] [] cpos) pos) ρ R := .mk fun σ B H Dn rl k =>
  (ps_expr (pe_bm PySem.F.plainAttrs_list PySem.F.slot_list_append PySem.F.type_list_append mt_append (pe_var hN hv hd hcd) (pa_cons pW pa_nil hst) hb hfew hl hst hpl) hsw).w (by
    obtain ⟨h1, h2, h3, h4, vs, h5, h6⟩ := slot_own rl hs
    refine ⟨_, h1, .inl ⟨rfl, _, SqL.of h5⟩, ?_⟩
    refine h.go σ B H _ rl fun v d B' H' e' r dx ⟨hl, hR⟩ => ?_
    obtain ⟨_, g2, g3, g4, vs', g5, g6⟩ := slot_own r hs
    refine ⟨p, vs', v, rfl, rfl, g5, by rw [g6.len]; exact hl, ?_⟩
    exact k.nx σ _ B' _ e' (r.mut hs (g6.app (DRs.one dx))) hR)
end
end DL
set_option Elab.async false
set_option linter.all false
set_option autoImplicit false
set_option maxRecDepth 100000
set_option maxHeartbeats 400000
/-! Data: targets, loops, comprehensions -/
namespace DL
open PySem L2

/-- a target: a name's slot, a tuple or a list taken apart -/
inductive Tg where
  | nm (i : Nat) | tp (ts : List Tg) | ls (ts : List Tg)
mutual
def Tg.r (K : PySem.W.Frag) : Tg → TG
  | .nm i => gName i
  | .tp ts => gTup K ts.length (Tg.rs K ts)
  | .ls ts => gUnl K ts.length (Tg.rs K ts)
def Tg.rs (K : PySem.W.Frag) : List Tg → TGs
  | [] => gNil
  | t :: ts => gCons (t.r K) (Tg.rs K ts)
end
mutual
/-- the slots behind it -/
def Tg.asg : Tg → D → List S → Option (List S)
  | .nm i, d, ρ => some (ρ.set i (.d d))
  | .tp ts, .tup ds, ρ => Tg.asgs ts ds ρ
  | .ls ts, .lst ds, ρ => Tg.asgs ts ds ρ
  | _, _, _ => none
def Tg.asgs : List Tg → List D → List S → Option (List S)
  | [], [], ρ => some ρ
  | t :: ts, d :: ds, ρ => (t.asg d ρ).bind fun ρ' => Tg.asgs ts ds ρ'
  | _, _, _ => none
end
mutual
def Tg.at : Tg → List Nat
  | .nm i => [i]
  | .tp ts => Tg.ats ts
  | .ls ts => Tg.ats ts
def Tg.ats : List Tg → List Nat
  | [] => []
  | t :: ts => t.at ++ Tg.ats ts
end
/-- σ' is σ but at the places is -/
def Off (is : List Nat) (σ σ' : St) : Prop := σ'.length = σ.length ∧ ∀ (i : Nat), i ∉ is → σ'[i]? = σ[i]?
theorem Off.id {is : List Nat} {σ : St} : Off is σ σ := ⟨rfl, fun _ _ => rfl⟩
theorem Off.tr {a b : List Nat} {σ σ1 σ2 : St} (h : Off a σ σ1) (h2 : Off b σ1 σ2) : Off (a ++ b) σ σ2 :=
  ⟨h2.1.trans h.1, fun i n => (h2.2 i fun z => n (List.mem_append_right _ z)).trans (h.2 i fun z => n (List.mem_append_left _ z))⟩
theorem Tg.asgs_len : ∀ (ts : List Tg) (ds : List D) (ρ ρ' : List S), Tg.asgs ts ds ρ = some ρ' → ts.length = ds.length
  | [], ds, _, _, e => by
    cases ds with
    | nil => rfl
    | cons _ _ => simp only [Tg.asgs] at e; cases e
  | t :: ts, ds, ρ, ρ', e => by
    cases ds with
    | nil => simp only [Tg.asgs] at e; cases e
    | cons d ds =>
      simp only [Tg.asgs] at e
      cases q : t.asg d ρ with
      | none => rw [q] at e; cases e
      | some ρ1 =>
        rw [q] at e
        have := Tg.asgs_len ts ds ρ1 ρ' e
        simp [this]
section
variable {g : G} {B H : Hp}
mutual
theorem Tg.go' : ∀ (t : Tg) (d : D) (v : V) (σ : St) (ρ ρ' : List S) (Q : St → Hp → Prop), Rel g B H σ ρ → DR g.K B d v → t.asg d ρ = some ρ' →
    (∀ σ', Rel g B H σ' ρ' → Off t.at σ σ' → Q σ' H) → t.r g.K v σ H Q
  | .nm i => by
    intro d v σ ρ ρ' Q r dx e k
    simp only [Tg.asg] at e
    cases e
    rw [Tg.r]
    refine k _ (r.putD i dx) ⟨List.length_set .., fun j n => ?_⟩
    have n' : i ≠ j := fun z => n (by simp [Tg.at, z])
    exact List.getElem?_set_ne n'
  | .tp ts => by
    intro d v σ ρ ρ' Q r dx e k
    cases d with
    | tup ds =>
      simp only [Tg.asg] at e
      obtain ⟨a, xs, rfl, h2, h3⟩ := dx
      rw [Tg.r]
      refine ⟨a, xs, rfl, r.hp.i.sqt h2, ?_, Tg.gos ts _ _ _ _ _ _ r h3 e (by rw [Tg.at] at k; exact k)⟩
      rw [h3.len]
      exact (Tg.asgs_len ts ds ρ ρ' e).symm
    | _ => simp only [Tg.asg] at e; cases e
  | .ls ts => by
    intro d v σ ρ ρ' Q r dx e k
    cases d with
    | lst ds =>
      simp only [Tg.asg] at e
      obtain ⟨a, xs, rfl, h2, h3⟩ := dx
      rw [Tg.r]
      refine ⟨a, xs, rfl, SqL.of (r.hp.i _ _ h2), ?_, Tg.gos ts _ _ _ _ _ _ r h3 e (by rw [Tg.at] at k; exact k)⟩
      rw [h3.len]
      exact (Tg.asgs_len ts ds ρ ρ' e).symm
    | _ => simp only [Tg.asg] at e; cases e
theorem Tg.gos : ∀ (ts : List Tg) (ds : List D) (vs : List V) (σ : St) (ρ ρ' : List S) (Q : St → Hp → Prop), Rel g B H σ ρ → DRs g.K B ds vs → Tg.asgs ts ds ρ = some ρ' →
    (∀ σ', Rel g B H σ' ρ' → Off (Tg.ats ts) σ σ' → Q σ' H) → Tg.rs g.K ts vs σ H Q
  | [] => by
    intro ds vs σ ρ ρ' Q r dx e k
    cases ds with
    | nil =>
      simp only [Tg.asgs] at e
      cases e
      rw [Tg.rs]
      exact ⟨dx, k σ r Off.id⟩
    | cons _ _ => simp only [Tg.asgs] at e; cases e
  | t :: ts => by
    intro ds vs σ ρ ρ' Q r dx e k
    cases ds with
    | nil => simp only [Tg.asgs] at e; cases e
    | cons d ds =>
      obtain ⟨x, xs, rfl, h2, h3⟩ := dx
      simp only [Tg.asgs] at e
      rw [Tg.rs]
      cases q : t.asg d ρ with
      | none => rw [q] at e; cases e
      | some ρ1 =>
        rw [q] at e
        exact ⟨x, xs, rfl, Tg.go' t _ _ _ _ _ _ r h2 q fun σ1 r1 o1 => Tg.gos ts _ _ _ _ _ _ r1 h3 e fun σ2 r2 o2 => k σ2 r2 (by rw [Tg.ats]; exact o1.tr o2)⟩
end
theorem Tg.go (t : Tg) {d : D} {v : V} {σ : St} {ρ ρ' : List S} {Q : St → Hp → Prop} (r : Rel g B H σ ρ) (dx : DR g.K B d v) (e : t.asg d ρ = some ρ') (k : ∀ σ', Rel g B H σ' ρ' → Off t.at σ σ' → Q σ' H) : t.r g.K v σ H Q := Tg.go' t d v σ ρ ρ' Q r dx e k
end

section
variable {X : Cx} {g : G} {ρ : List S} {R : O → Prop} {tg e : Expr} {pos : Pos} {body : List Stmt}
/-- (a, b) = e -/
theorem ds_unpack (t : Tg) (hK : X.K = g.K) (hg : PG X tg (t.r X.K)) (h : DE X g e ρ fun d => ∃ ρ', t.asg d ρ = some ρ' ∧ R (.nx ρ')) (hs : swapsWithSole [tg] e pos.line X.env = pure false := by rfl) (hw : swappedStores [tg] e X.env = pure none := by rfl)
    (h1 : (assignEach [tg] X.env).map (·.2) = [assign tg X.env] := by rfl) : DS X g (.Assign [tg] e pos) ρ R := .mk fun σ B H Dn rl k =>
  (ps_asg pW hg hs hw h1).w (h.go σ B H _ rl fun v d B' H' e r dx ⟨ρ', hr, hR⟩ => by rw [hK]; exact t.go r dx hr fun σ' r' _ => k.nx σ' ρ' B' H' e r' hR)

/-- what a loop's body may do -/
def turnR (R : O → Prop) (J : List S → Prop) : O → Prop
  | .nx ρ => J ρ
  | .ct ρ => J ρ
  | .bk ρ => R (.nx ρ)
  | .rt d => R (.rt d)
  | .rn d => R (.rn d)
theorem Ends'.turn {B B1 : Hp} {Dn : Ends} {J : List S → Prop} {N : St → Hp → Prop} (k : Ends' g B R Dn) (e : Ex B B1) (h : ∀ σ ρ B' H', Ex B1 B' → Rel g B' H' σ ρ → J ρ → N σ H') :
    Ends' g B1 (turnR R J) { Dn with nx := N, ct := N, bk := Dn.nx } :=
  ⟨fun σ ρ B' H' a r q => h σ ρ B' H' a r q, fun v d B' H' a r c q => k.rt v d B' H' (e.tr a) r c q, fun p vs ds B' H' a r c1 c2 c3 c4 q => k.rn p vs ds B' H' (e.tr a) r c1 c2 c3 c4 q, fun σ ρ B' H' a r q => k.nx σ ρ B' H' (e.tr a) r q, fun σ ρ B' H' a r q => h σ ρ B' H' a r q⟩
/-- one turn -/
def Turn1 (X : Cx) (g : G) (t : Tg) (body : List Stmt) (R : O → Prop) (J : List S → Prop) (ρ : List S) (x : D) : Prop := ∃ ρ', t.asg x ρ = some ρ' ∧ DSs X g body ρ' (turnR R J)
/-- for x in a list -/
theorem ds_forL (t : Tg) (hK : X.K = g.K) (hc : X.calm = true) (hg : PG X tg (t.r X.K)) (h : DE X g e ρ fun d => ∃ xs, d = .lst xs ∧ ∃ J : Nat → List S → Prop, J 0 ρ ∧ (∀ (i : Nat) ρ' x, xs[i]? = some x → J i ρ' → Turn1 X g t body R (J (i + 1)) ρ' x) ∧ ∀ ρ', J xs.length ρ' → R (.nx ρ'))
    (hp : PassesOwn (model X.prog X.w) X.A X.env X.xe := by exact PassesOwn.never) (hs : ∀ x, foldedSetIterable e X.env x = pure x := by intro _; rfl) : DS X g (.For tg e body [] pos) ρ R := .mk fun σ B H Dn rl k =>
  (ps_for hp hc (pi_list pW) hg ssW hs).w (h.go σ B H _ rl fun v d B1 H1 e1 r1 dx ⟨xs, ed, J, h0, hs, hd⟩ => by
    subst ed
    obtain ⟨a, vs, rfl, h2, h3⟩ := dx
    refine ⟨a, rfl, ⟨vs, SqL.of (r1.hp.i _ _ h2)⟩, for_list (K := X.K) (a := a) (xs := vs) (fun i σ' H' => ∃ ρ' B', Ex B1 B' ∧ Rel g B' H' σ' ρ' ∧ J i ρ') ⟨ρ, B1, Ex.rfl', r1, h0⟩ (fun i σ' H' _ ⟨_, _, e', r', _⟩ => SqL.of (r'.hp.i _ _ (e' _ _ h2))) ?_ ?_⟩
    · rintro i x σ' H' hi ⟨ρ', B', e', r', hJ⟩
      obtain ⟨y, hy, dy⟩ := h3.getV hi
      obtain ⟨ρ2, ha, hb⟩ := hs i ρ' y hy hJ
      rw [hK]
      exact t.go r' (dy.up e') ha fun σ2 r2 _ => hb.go σ2 B' H' _ r2 (k.turn (e1.tr e') fun σ3 ρ3 B3 H3 e3 r3 q => ⟨ρ3, B3, e'.tr e3, r3, q⟩)
    · rintro σ' H' ⟨ρ', B', e', r', hJ⟩
      rw [h3.len] at hJ
      exact k.nx σ' ρ' B' H' (e1.tr e') r' (hd ρ' hJ))
/-- for x in a tuple -/
theorem ds_forT (t : Tg) (hK : X.K = g.K) (hc : X.calm = true) (hg : PG X tg (t.r X.K)) (h : DE X g e ρ fun d => ∃ xs, d = .tup xs ∧ ∃ J : Nat → List S → Prop, J 0 ρ ∧ (∀ (i : Nat) ρ' x, xs[i]? = some x → J i ρ' → Turn1 X g t body R (J (i + 1)) ρ' x) ∧ ∀ ρ', J xs.length ρ' → R (.nx ρ'))
    (hp : PassesOwn (model X.prog X.w) X.A X.env X.xe := by exact PassesOwn.never) (hs : ∀ x, foldedSetIterable e X.env x = pure x := by intro _; rfl) : DS X g (.For tg e body [] pos) ρ R := .mk fun σ B H Dn rl k =>
  (ps_for hp hc (pi_tup pW) hg ssW hs).w (h.go σ B H _ rl fun v d B1 H1 e1 r1 dx ⟨xs, ed, J, h0, hs, hd⟩ => by
    subst ed
    obtain ⟨a, vs, rfl, h2, h3⟩ := dx
    rw [← hK] at h2
    refine ⟨a, rfl, ⟨vs, r1.hp.i.sqt h2⟩, for_tup (K := X.K) (a := a) (xs := vs) (fun i σ' H' => ∃ ρ' B', Ex B1 B' ∧ Rel g B' H' σ' ρ' ∧ J i ρ') ⟨ρ, B1, Ex.rfl', r1, h0⟩ (fun i σ' H' _ ⟨_, _, e', r', _⟩ => r'.hp.i.sqt (e'.sqt h2)) ?_ ?_⟩
    · rintro i x σ' H' hi ⟨ρ', B', e', r', hJ⟩
      obtain ⟨y, hy, dy⟩ := h3.getV hi
      obtain ⟨ρ2, ha, hb⟩ := hs i ρ' y hy hJ
      rw [hK]
      exact t.go r' (dy.up e') ha fun σ2 r2 _ => hb.go σ2 B' H' _ r2 (k.turn (e1.tr e') fun σ3 ρ3 B3 H3 e3 r3 q => ⟨ρ3, B3, e'.tr e3, r3, q⟩)
    · rintro σ' H' ⟨ρ', B', e', r', hJ⟩
      rw [h3.len] at hJ
      exact k.nx σ' ρ' B' H' (e1.tr e') r' (hd ρ' hJ))
/-- for i in range(n), range(a, b) -/
theorem ds_forR1 (t : Tg) {p cp : Pos} (hK : X.K = g.K) (hc : X.calm = true) (hm : X.mg "range" = none) (hg : PG X tg (t.r X.K)) (h : DE X g e ρ fun d => ∃ n, d = .int n ∧ -(2 ^ 62) ≤ n ∧ n < 2 ^ 62 ∧ ∃ J : Nat → List S → Prop, J 0 ρ ∧ (∀ (i : Nat) ρ', i < n.toNat → J i ρ' → Turn1 X g t body R (J (i + 1)) ρ' (.int (i : Int))) ∧ ∀ ρ', J n.toNat ρ' → R (.nx ρ'))
    (hp : PassesOwn (model X.prog X.w) X.A X.env X.xe := by exact PassesOwn.never) (hgl : Gl X "range" := by rfl) (hst : starEach [e] X.env = (false, eval e X.env) :: starEach [] X.env := by rfl) (hs : ∀ x, foldedSetIterable (.Call (.Name "range" p) [e] [] cp) X.env x = pure x := by intro _; rfl) : DS X g (.For tg (.Call (.Name "range" p) [e] [] cp) body [] pos) ρ R := .mk fun σ B H Dn rl k =>
  (ps_for hp hc (pi_range1 hgl hm (pa_cons pW pa_nil hst) hst) hg ssW hs).w (h.go σ B H _ rl fun v d B1 H1 e1 r1 dx ⟨n, ed, n1, n2, J, h0, hs, hd⟩ => by
    subst ed
    cases (show v = _ from dx)
    refine ⟨n, rfl, n1, n2, for_range (lo := 0) (n := n.toNat) (fun i σ' H' => ∃ ρ' B', Ex B1 B' ∧ Rel g B' H' σ' ρ' ∧ J i ρ') ⟨ρ, B1, Ex.rfl', r1, h0⟩ ?_ ?_⟩
    · rintro i σ' H' hi ⟨ρ', B', e', r', hJ⟩
      obtain ⟨ρ2, ha, hb⟩ := hs i ρ' hi hJ
      rw [hK, Int.zero_add]
      exact t.go r' (d := .int (i : Int)) rfl ha fun σ2 r2 _ => hb.go σ2 B' H' _ r2 (k.turn (e1.tr e') fun σ3 ρ3 B3 H3 e3 r3 q => ⟨ρ3, B3, e'.tr e3, r3, q⟩)
    · rintro σ' H' ⟨ρ', B', e', r', hJ⟩
      exact k.nx σ' ρ' B' H' (e1.tr e') r' (hd ρ' hJ))
theorem ds_forR2 (t : Tg) {e2 : Expr} {p cp : Pos} (hK : X.K = g.K) (hc : X.calm = true) (hm : X.mg "range" = none) (hg : PG X tg (t.r X.K)) (h : DE X g e ρ fun d => DE X g e2 ρ fun d2 => ∃ a b, d = .int a ∧ d2 = .int b ∧ (-(2 ^ 62) ≤ a ∧ a < 2 ^ 62 ∧ -(2 ^ 62) ≤ b ∧ b < 2 ^ 62) ∧ ∃ J : Nat → List S → Prop, J 0 ρ ∧ (∀ (i : Nat) ρ', i < (b - a).toNat → J i ρ' → Turn1 X g t body R (J (i + 1)) ρ' (.int (a + (i : Int)))) ∧ ∀ ρ', J (b - a).toNat ρ' → R (.nx ρ'))
    (hp : PassesOwn (model X.prog X.w) X.A X.env X.xe := by exact PassesOwn.never) (hgl : Gl X "range" := by rfl) (hst : starEach [e, e2] X.env = (false, eval e X.env) :: starEach [e2] X.env := by rfl) (hst2 : starEach [e2] X.env = (false, eval e2 X.env) :: starEach [] X.env := by rfl) (hs : ∀ x, foldedSetIterable (.Call (.Name "range" p) [e, e2] [] cp) X.env x = pure x := by intro _; rfl) : DS X g (.For tg (.Call (.Name "range" p) [e, e2] [] cp) body [] pos) ρ R := .mk fun σ B H Dn rl k =>
  (ps_for hp hc (pi_range2 hgl hm (pa_cons pW (pa_cons pW pa_nil hst2) hst) (hst.trans (by rw [hst2]; rfl)) hst2) hg ssW hs).w (h.go σ B H _ rl fun v d B1 H1 e1 r1 dx hx => hx.go σ B1 H1 _ r1 fun v2 d2 B2 H2 e2' r2 dx2 ⟨a, b, ed, ed2, hn, J, h0, hs, hd⟩ => by
    subst ed ed2
    cases (show v = _ from dx)
    cases (show v2 = _ from dx2)
    refine ⟨a, b, rfl, hn, for_range (lo := a) (n := (b - a).toNat) (fun i σ' H' => ∃ ρ' B', Ex B2 B' ∧ Rel g B' H' σ' ρ' ∧ J i ρ') ⟨ρ, B2, Ex.rfl', r2, h0⟩ ?_ ?_⟩
    · rintro i σ' H' hi ⟨ρ', B', e', r', hJ⟩
      obtain ⟨ρ2, ha, hb⟩ := hs i ρ' hi hJ
      rw [hK]
      exact t.go r' (d := .int (a + (i : Int))) rfl ha fun σ2 r2 _ => hb.go σ2 B' H' _ r2 (k.turn (e1.tr (e2'.tr e')) fun σ3 ρ3 B3 H3 e3 r3 q => ⟨ρ3, B3, e'.tr e3, r3, q⟩)
    · rintro σ' H' ⟨ρ', B', e', r', hJ⟩
      exact k.nx σ' ρ' B' H' (e1.tr (e2'.tr e')) r' (hd ρ' hJ))
/-- over enumerate(list): the reading of the loop -/
theorem for_enum {K : PySem.W.Frag} {a : Addr} {xs : List V} {gg : TG} {tb : TS} {Dn : Ends} {σ : St} {H : Hp} (Pv : Nat → St → Hp → Prop) (h0 : Pv 0 σ H) (hl : ∀ i σ H, i ≤ xs.length → Pv i σ H → SqL K H a xs)
    (hs : ∀ (i : Nat) x σ H T, xs[i]? = some x → Pv i σ H → H T = none → gg (.ref T) σ (upd H T (.tup [.int (i : Int), x])) fun σ2 H2 => tb { Dn with nx := Pv (i + 1), ct := Pv (i + 1), bk := Dn.nx } σ2 H2) (hd : ∀ σ H, Pv xs.length σ H → Dn.nx σ H) :
    ∃ W : Nat → Nat → St → Hp → Prop, (∃ m, W 0 m σ H) ∧ ∀ i m σ H, W i m σ H →
      ((Ite K a).stop i H ∧ Dn.nx σ H) ∨ ((Ite K a).go i H ∧ ∃ N : St → Hp → Prop, (∀ σ' H', N σ' H' → ∃ m', m' < m ∧ W (i + 1) m' σ' H') ∧ ∀ x H', (Ite K a).yld i H x H' → gg x σ H' fun σ2 H2 => tb { Dn with nx := N, ct := N, bk := Dn.nx } σ2 H2) := by
  refine ⟨fun i m σ H => m = xs.length - i ∧ i ≤ xs.length ∧ Pv i σ H, ⟨xs.length, by simp, Nat.zero_le _, h0⟩, ?_⟩
  rintro i m σ H ⟨rfl, hi, p⟩
  have q := hl i σ H hi p
  by_cases c : i < xs.length
  · refine .inr ⟨⟨xs, xs[i], q, by simp [c]⟩, Pv (i + 1), fun σ' H' p' => ⟨xs.length - (i + 1), by omega, rfl, c, p'⟩, fun x H' y => ?_⟩
    obtain ⟨T, x', e1, hT, e2, y⟩ := y
    subst e1 e2
    exact hs i x' σ H T (y xs q) p hT
  · have e : i = xs.length := by omega
    subst e
    exact .inl ⟨⟨xs, q, Nat.le_refl _⟩, hd σ H p⟩
theorem ds_forE (t : Tg) {p cp tp : Pos} {elts : List Expr} {kk : Nat} (hK : X.K = g.K) (hc : X.calm = true) (hm : X.mg "enumerate" = none) (hg : PG X (.Tuple elts kk tp) (t.r X.K)) (h : DE X g e ρ fun d => ∃ xs, d = .lst xs ∧ ∃ J : Nat → List S → Prop, J 0 ρ ∧ (∀ (i : Nat) ρ' x, xs[i]? = some x → J i ρ' → Turn1 X g t body R (J (i + 1)) ρ' (.tup [.int (i : Int), x])) ∧ ∀ ρ', J xs.length ρ' → R (.nx ρ'))
    (hp : PassesOwn (model X.prog X.w) X.A X.env X.xe := by exact PassesOwn.never) (hgl : Gl X "enumerate" := by rfl) (hst : starEach [e] X.env = (false, eval e X.env) :: starEach [] X.env := by rfl) (hs : ∀ x, foldedSetIterable (.Call (.Name "enumerate" p) [e] [] cp) X.env x = pure x := by intro _; rfl) : DS X g (.For (.Tuple elts kk tp) (.Call (.Name "enumerate" p) [e] [] cp) body [] pos) ρ R := .mk fun σ B H Dn rl k =>
  (ps_for hp hc (pi_enum hgl hm (pa_cons pW pa_nil hst) hst) hg ssW hs).w (h.go σ B H _ rl fun v d B1 H1 e1 r1 dx ⟨xs, ed, J, h0, hs, hd⟩ => by
    subst ed
    obtain ⟨a, vs, rfl, h2, h3⟩ := dx
    refine ⟨a, vs, rfl, SqL.of (r1.hp.i _ _ h2), for_enum (K := X.K) (a := a) (xs := vs) (fun i σ' H' => ∃ ρ' B', Ex B1 B' ∧ Rel g B' H' σ' ρ' ∧ J i ρ') ⟨ρ, B1, Ex.rfl', r1, h0⟩ (fun i σ' H' _ ⟨_, _, e', r', _⟩ => SqL.of (r'.hp.i _ _ (e' _ _ h2))) ?_ ?_⟩
    · rintro i x σ' H' T hi ⟨ρ', B', e', r', hJ⟩ hT
      obtain ⟨y, hy, dy⟩ := h3.getV hi
      obtain ⟨ρ2, ha, hb⟩ := hs i ρ' y hy hJ
      have gr := Grow.new (o := .tup [.int (i : Int), x]) r'.hp.i hT
      rw [hK]
      refine t.go (r'.grow gr) (d := .tup [.int (i : Int), y]) ⟨T, _, rfl, SqT.of upd_same, ⟨_, _, rfl, rfl, _, _, rfl, (dy.up e').up gr.b, rfl⟩⟩ ha fun σ2 r2 _ => hb.go σ2 _ _ _ r2 (k.turn (e1.tr (e'.tr gr.b)) fun σ3 ρ3 B3 H3 e3 r3 q => ⟨ρ3, B3, (e'.tr gr.b).tr e3, r3, q⟩)
    · rintro σ' H' ⟨ρ', B', e', r', hJ⟩
      rw [h3.len] at hJ
      exact k.nx σ' ρ' B' H' (e1.tr e') r' (hd ρ' hJ))
end
end DL
set_option Elab.async false
set_option linter.all false
set_option autoImplicit false
set_option maxRecDepth 100000
set_option maxHeartbeats 400000
/-! Data: comprehensions -/
namespace DL
open PySem L2

theorem wipe_at {σ : St} {i : Nat} : ∀ {vs : List Nat}, i ∉ vs → (wipe σ vs)[i]? = σ[i]?
  | [], _ => rfl
  | v :: vs, h => by
    unfold wipe
    rw [List.getElem?_set_ne (fun e => h (by simp [e])), wipe_at fun e => h (by simp [e])]
theorem wipe_in {σ : St} {i : Nat} : ∀ {vs : List Nat}, i ∈ vs → i < σ.length → (wipe σ vs)[i]? = some none
  | v :: vs, h, hl => by
    unfold wipe
    by_cases c : v = i
    · subst c
      rw [List.getElem?_set_self (by rw [wipe_length]; exact hl)]
    · rw [List.getElem?_set_ne c]
      refine wipe_in ?_ hl
      rcases List.mem_cons.mp h with z | z
      · exact absurd z.symm c
      · exact z
theorem wipe_eq {σ σ' : St} {vs is : List Nat} (h : Off is (wipe σ vs) σ') (hs : ∀ i ∈ is, i ∈ vs) : wipe σ' vs = wipe σ vs := by
  have hl : σ'.length = σ.length := by rw [h.1, wipe_length]
  refine List.ext_getElem? fun i => ?_
  by_cases c : i ∈ vs
  · by_cases q : i < σ.length
    · rw [wipe_in c q, wipe_in c (by rw [hl]; exact q)]
    · rw [List.getElem?_eq_none (by rw [wipe_length]; omega), List.getElem?_eq_none (by rw [wipe_length]; omega)]
  · rw [wipe_at c, h.2 i fun z => c (hs i z)]
theorem wipeS_len (ρ : List S) : ∀ vs : List Nat, (wipeS ρ vs).length = ρ.length
  | [] => rfl
  | v :: vs => by unfold wipeS; rw [List.length_set, wipeS_len ρ vs]
theorem wipeS_at {ρ : List S} {i : Nat} : ∀ {vs : List Nat}, i ∉ vs → (wipeS ρ vs)[i]? = ρ[i]?
  | [], _ => rfl
  | v :: vs, h => by
    unfold wipeS
    rw [List.getElem?_set_ne (fun e => h (by simp [e])), wipeS_at fun e => h (by simp [e])]
theorem wipeS_in {ρ : List S} {i : Nat} : ∀ {vs : List Nat}, i ∈ vs → i < ρ.length → (wipeS ρ vs)[i]? = some .un
  | v :: vs, h, hl => by
    unfold wipeS
    by_cases c : v = i
    · subst c
      rw [List.getElem?_set_self (by rw [wipeS_len]; exact hl)]
    · rw [List.getElem?_set_ne c]
      refine wipeS_in ?_ hl
      rcases List.mem_cons.mp h with z | z
      · exact absurd z.symm c
      · exact z
theorem wipeS_eq {ρ ρ' : List S} {vs is : List Nat} (hl' : ρ'.length = (wipeS ρ vs).length) (h : ∀ i, i ∉ is → ρ'[i]? = (wipeS ρ vs)[i]?) (hs : ∀ i ∈ is, i ∈ vs) : wipeS ρ' vs = wipeS ρ vs := by
  have hl : ρ'.length = ρ.length := by rw [hl', wipeS_len]
  refine List.ext_getElem? fun i => ?_
  by_cases c : i ∈ vs
  · by_cases q : i < ρ.length
    · rw [wipeS_in c q, wipeS_in c (by rw [hl]; exact q)]
    · rw [List.getElem?_eq_none (by rw [wipeS_len]; omega), List.getElem?_eq_none (by rw [wipeS_len]; omega)]
  · rw [wipeS_at c, h i fun z => c (hs i z)]
/-- a target's slots alone change, and no address comes -/
def OffS (is : List Nat) (ρ ρ' : List S) : Prop := ρ'.length = ρ.length ∧ (∀ i, i ∉ is → ρ'[i]? = ρ[i]?) ∧ ∀ p, p ∈ ads ρ' → p ∈ ads ρ
mutual
theorem Tg.off : ∀ (t : Tg) (d : D) (ρ ρ' : List S), t.asg d ρ = some ρ' → OffS t.at ρ ρ'
  | .nm i => by
    intro d ρ ρ' e
    simp only [Tg.asg] at e
    cases e
    refine ⟨List.length_set .., fun j n => ?_, fun p h => ?_⟩
    · exact List.getElem?_set_ne fun z => n (by simp [Tg.at, z])
    · rcases ads_set_mem ρ i h with z | z
      · exact absurd z (by simp [S.ad])
      · exact z
  | .tp ts => by
    intro d ρ ρ' e
    cases d with
    | tup ds =>
      simp only [Tg.asg] at e
      have := Tg.offs ts ds ρ ρ' e
      rw [Tg.at]
      exact this
    | _ => simp only [Tg.asg] at e; cases e
  | .ls ts => by
    intro d ρ ρ' e
    cases d with
    | lst ds =>
      simp only [Tg.asg] at e
      have := Tg.offs ts ds ρ ρ' e
      rw [Tg.at]
      exact this
    | _ => simp only [Tg.asg] at e; cases e
theorem Tg.offs : ∀ (ts : List Tg) (ds : List D) (ρ ρ' : List S), Tg.asgs ts ds ρ = some ρ' → OffS (Tg.ats ts) ρ ρ'
  | [] => by
    intro ds ρ ρ' e
    cases ds with
    | nil =>
      simp only [Tg.asgs] at e
      cases e
      exact ⟨rfl, fun _ _ => rfl, fun _ h => h⟩
    | cons _ _ => simp only [Tg.asgs] at e; cases e
  | t :: ts => by
    intro ds ρ ρ' e
    cases ds with
    | nil => simp only [Tg.asgs] at e; cases e
    | cons d ds =>
      simp only [Tg.asgs] at e
      cases q : t.asg d ρ with
      | none => rw [q] at e; cases e
      | some ρ1 =>
        rw [q] at e
        obtain ⟨a1, a2, a3⟩ := Tg.off t d ρ ρ1 q
        obtain ⟨b1, b2, b3⟩ := Tg.offs ts ds ρ1 ρ' e
        rw [Tg.ats]
        exact ⟨b1.trans a1, fun i n => (b2 i fun z => n (List.mem_append_right _ z)).trans (a2 i fun z => n (List.mem_append_left _ z)), fun p h => a3 p (b3 p h)⟩
end
theorem Rel.poke {g : G} {B H : Hp} {σ : St} {ρ : List S} (r : Rel g B H σ ρ) {p : Addr} {o : HO} (hb : B p = none) (hn : p ∉ ads ρ) (h0 : g.H0 p = none) (hf : g.fd ≠ some p) : Rel g B (upd H p o) σ ρ := by
  have nb : ∀ a o, B a = some o → a ≠ p := fun a o e z => by subst z; rw [hb] at e; cases e
  refine ⟨⟨fun a o e => by rw [upd_ne (nb a o e)]; exact r.hp.i _ _ e, r.hp.b0, fun a o n e => ?_, r.hp.nw, fun q e => ?_⟩, r.len, fun j t e => ?_, r.nd⟩
  · rw [upd_ne (fun z => by subst z; rw [h0] at e; cases e)]
    exact r.hp.h0 a o n e
  · obtain ⟨⟨x, y, hx⟩, hb⟩ := r.hp.fd q e
    exact ⟨⟨x, y, by rw [upd_ne (fun z => by subst z; exact hf e)]; exact hx⟩, hb⟩
  · have ok := r.sl j t e
    cases t with
    | un => trivial
    | d x => exact ok
    | raw v => exact ok
    | own q xs =>
      obtain ⟨a1, a2, a3, vs', a4, a5⟩ := ok
      have ne : q ≠ p := fun z => hn (ad_sub e (by simp [S.ad, z]))
      exact ⟨a1, a2, a3, vs', by rw [upd_ne ne]; exact a4, a5⟩
    | fd q =>
      obtain ⟨a1, a2, a3, x, y, a4⟩ := ok
      have ne : q ≠ p := fun z => hn (ad_sub e (by simp [S.ad, z]))
      exact ⟨a1, a2, a3, x, y, by rw [upd_ne ne]; exact a4⟩

section
/-- the tests -/
def DTs (X : Cx) (g : G) (ifs : List Expr) (ρ : List S) (R : Bool → Prop) : Prop := match ifs with
  | [] => R true
  | c :: _ => DT X g c ρ R
def WTs (X : Cx) : List Expr → TT
  | [] => tYes
  | c :: _ => WT X c
theorem tsW {X : Cx} : ∀ {ifs : List Expr}, ifs.length ≤ 1 → PTs X ifs (WTs X ifs)
  | [], _ => pts_nil
  | [_], _ => pts_one tW
  | _ :: _ :: _, h => by simp at h
/-- the blocks of a comprehension -/
def Blk (X : Cx) (scope : Scope) (P : Cx → Prop) : Prop := ∀ (s : Shared) (H : Hp) (C : Addr) (cl : List (Str × Addr)) (fp : List Addr), P (X.blk s H scope (compEnvC scope cl C X.env) fp)
def BE (X : Cx) (scope : Scope) (e : Expr) : TE := fun σ H Q => Blk X scope fun X' => WE X' e σ H Q
def BT (X : Cx) (scope : Scope) (ifs : List Expr) : TT := fun σ H Q => Blk X scope fun X' => WTs X' ifs σ H Q
/-- one turn: the target, the test, the item; J the wish for what is made -/
def LcTurn (X : Cx) (scope : Scope) (g : G) (t : Tg) (ifs : List Expr) (elt : Expr) (J : List D → Prop) (ρw : List S) (acc : List D) (x : D) : Prop := ∃ ρ', t.asg x ρw = some ρ' ∧
  Blk X scope fun X' => ∀ g' : G, g'.K = g.K → DTs X' g' ifs ρ' fun b => if b = true then Blk X scope fun X' => ∀ g' : G, g'.K = g.K → DE X' g' elt ρ' fun y => acc.length < sizeLine ∧ J (acc ++ [y]) else J acc
/-- the state between the turns: Dl the new list -/
def LcSt (g : G) (B1 : Hp) (Dl : Addr) (σw : St) (ρw : List S) (J : List D → Prop) (H : Hp) : Prop := ∃ B vs ds, Ex B1 B ∧ Rel g B H σw ρw ∧ B Dl = none ∧ H Dl = some (.lst vs) ∧ DRs g.K B ds vs ∧ J ds
theorem WTs_go {X : Cx} {g : G} {ρ : List S} {R : Bool → Prop} {ifs : List Expr} (h : DTs X g ifs ρ R) {σ : St} {B H : Hp} {Q : Bool → Hp → Prop} (rl : Rel g B H σ ρ) (k : ∀ b B' H', Ex B B' → Rel g B' H' σ ρ → R b → Q b H') : WTs X ifs σ H Q := by
  cases ifs with
  | nil => exact k true B H Ex.rfl' rl h
  | cons c _ => exact h.go σ B H Q rl k
variable {X : Cx} {scope : Scope} {K : PySem.W.Frag} {g : G} {t : Tg} {vs0 : List Nat} {σ : St} {ρ : List S} {ifs : List Expr} {elt : Expr} {B1 B H : Hp} {Dl : Addr} {J : List D → Prop} {vs : List V} {ds : List D} {xD : D} {x : V}
theorem lc_turn (hK : K = g.K) (ht : ∀ j ∈ t.at, j ∈ vs0) (h0 : g.H0 Dl = none) (hf : g.fd ≠ some Dl) (e : Ex B1 B) (r : Rel g B H (wipe σ vs0) (wipeS ρ vs0)) (hb : B Dl = none)
    (hd : H Dl = some (.lst vs)) (hds : DRs g.K B ds vs) (dx : DR g.K B xD x) (h : LcTurn X scope g t ifs elt J (wipeS ρ vs0) ds xD) (hnw : Dl ∉ ads (wipeS ρ vs0)) :
    t.r K x (wipe σ vs0) H fun σ2 H2 => wipe σ2 vs0 = wipe σ vs0 ∧ BT X scope ifs σ2 H2 fun b H3 =>
      if b = true then BE X scope elt σ2 H3 fun y H4 => ∃ acc, H4 Dl = some (.lst acc) ∧ acc.length < sizeLine ∧ LcSt g B1 Dl (wipe σ vs0) (wipeS ρ vs0) J (upd H4 Dl (.lst (acc ++ [y]))) else LcSt g B1 Dl (wipe σ vs0) (wipeS ρ vs0) J H3 := by
  obtain ⟨ρ', ha, hq⟩ := h
  obtain ⟨of1, of2, of3⟩ := t.off _ _ _ ha
  have n' : Dl ∉ ads ρ' := fun z => hnw (of3 _ z)
  rw [hK]
  refine t.go r dx ha fun σ2 r2 o2 => ?_
  have w2 : wipe σ2 vs0 = wipe σ vs0 := wipe_eq o2 ht
  have w3 : wipeS ρ' vs0 = wipeS ρ vs0 := wipeS_eq of1 of2 ht
  have wp : ∀ {B' H' : Hp}, Rel g B' H' σ2 ρ' → Rel g B' H' (wipe σ vs0) (wipeS ρ vs0) := fun r => by rw [← w2, ← w3]; exact r.wipe vs0
  refine ⟨w2, fun s0 H0 C cl fp => WTs_go (hq s0 H0 C cl fp (g.at B H ρ') rfl) r2.into fun b B3 H3 e3 r3 hR => ?_⟩
  have d3 : H3 Dl = some (.lst vs) := r3.hp.h0 Dl _ (fun z => nomatch z) ((if_neg n').trans hd)
  have b3 : B3 Dl = none := r3.hp.nw Dl (fun z => by rw [show (g.at B H ρ').H0 Dl = H Dl from if_neg n', hd] at z; cases z) hb
  have r3' := r2.back r3
  cases b with
  | false => exact ⟨B3, vs, ds, e.tr e3, wp r3', b3, d3, hds.up e3, hR⟩
  | true =>
    refine fun s1 H1 C1 cl1 fp1 => (hR s1 H1 C1 cl1 fp1 (g.at B3 H3 ρ') rfl).go σ2 B3 H3 _ r3'.into fun y d B4 H4 e4 r4 dy ⟨hl, hJ⟩ => ?_
    have d4 : H4 Dl = some (.lst vs) := r4.hp.h0 Dl _ (fun z => nomatch z) ((if_neg n').trans d3)
    have b4 : B4 Dl = none := r4.hp.nw Dl (fun z => by rw [show (g.at B3 H3 ρ').H0 Dl = H3 Dl from if_neg n', d3] at z; cases z) b3
    have r4' := wp (r3'.back r4)
    exact ⟨vs, d4, by rw [hds.len]; exact hl, B4, vs ++ [y], ds ++ [d], e.tr (e3.tr e4), r4'.poke b4 hnw h0 hf, b4, upd_same, (hds.up (e3.tr e4)).app (DRs.one dy), hJ⟩
theorem ads_wipe {p : Addr} : ∀ {vs : List Nat}, p ∈ ads (wipeS ρ vs) → p ∈ ads ρ
  | [], h => h
  | v :: vs, h => by
    rcases ads_set_mem (s := .un) (wipeS ρ vs) v h with z | z
    · exact absurd z (by simp [S.ad])
    · exact ads_wipe z
/-- the slots of a comprehension's own names hold no list that may change -/
def okW (ρ : List S) (vs : List Nat) : Bool := vs.all fun j => match ρ[j]? with
  | some (.own _ _) => false
  | some (.fd _) => false
  | _ => true
theorem unwipeR {B' H' : Hp} (hw : okW ρ vs0 = true) (r : Rel g B H σ ρ) (q : Rel g B' H' (wipe σ vs0) (wipeS ρ vs0)) (e : Ex B B') : Rel g B' H' σ ρ := by
  refine ⟨q.hp, r.len, fun i s h => ?_, r.nd⟩
  by_cases c : i ∈ vs0
  · have ok := r.sl i s h
    have z := List.all_eq_true.mp hw i c
    rw [h] at z
    cases s with
    | un => trivial
    | d x => obtain ⟨v, h1, h2⟩ := ok; exact ⟨v, h1, h2.up e⟩
    | raw v => exact ok
    | own p xs => cases z
    | fd p => cases z
  · have := q.sl i s (by rw [wipeS_at c]; exact h)
    rw [wipe_at c] at this
    exact this
end

section
/-- a fact beside the turn's word -/
theorem lc_word {P : Prop} (q : P) {X : Cx} {scope : Scope} {K : PySem.W.Frag} {t : Tg} {x : V} {vs0 : List Nat} {σ : St} {H : Hp} {ifs : List Expr} {elt : Expr} {Dl : Addr} {W : Hp → Prop}
    (h : t.r K x (wipe σ vs0) H fun σ2 H2 => wipe σ2 vs0 = wipe σ vs0 ∧ BT X scope ifs σ2 H2 fun b H3 =>
      if b = true then BE X scope elt σ2 H3 fun y H4 => ∃ acc, H4 Dl = some (.lst acc) ∧ acc.length < sizeLine ∧ W (upd H4 Dl (.lst (acc ++ [y]))) else W H3) :
    t.r K x (wipe σ vs0) H fun σ2 H2 => wipe σ2 vs0 = wipe σ vs0 ∧ BT X scope ifs σ2 H2 fun b H3 =>
      if b = true then BE X scope elt σ2 H3 fun y H4 => ∃ acc, H4 Dl = some (.lst acc) ∧ acc.length < sizeLine ∧ (P ∧ W (upd H4 Dl (.lst (acc ++ [y])))) else P ∧ W H3 := by
  have e : (fun H => P ∧ W H) = W := funext fun H => propext ⟨fun h => h.2, fun h => ⟨q, h⟩⟩
  have e' : ∀ H, (P ∧ W H) = W H := fun H => congrFun e H
  simp only [e']
  exact h
end
section
variable {X : Cx} {g : G} {ρ : List S} {tg elt e : Expr} {pos : Pos} {ifs : List Expr} {scope : Scope} {Rs : List D → Prop}
theorem bW {e : Expr} (s : Shared) (H : Hp) (C : Addr) (cl : List (Str × Addr)) (fp : List Addr) : PE (X.blk s H scope (compEnvC scope cl C X.env) fp) e (BE X scope e) := ⟨fun pins s' σ H' Q I h => h s H C cl fp pins s' I⟩
theorem btW (hif : ifs.length ≤ 1) (s : Shared) (H : Hp) (C : Addr) (cl : List (Str × Addr)) (fp : List Addr) : PTs (X.blk s H scope (compEnvC scope cl C X.env) fp) ifs (BT X scope ifs) :=
  ⟨fun pins s' σ H' Q I h => (tsW hif).run pins s' σ H' Q I (h s H C cl fp)⟩
/-- [elt for tg in a list if ..] -/
theorem dn_lcL (t : Tg) (own : List (Str × Nat)) (hK : X.K = g.K) (hc : X.calm = true) (hN : X.N.Nodup) (ok : BlkOk X.N X.env.scope scope own) (hg : Blk X scope fun X' => PG X' tg (t.r X.K)) (ht : ∀ j ∈ t.at, j ∈ own.map (·.2))
    (h : DE X g e ρ fun d => ∃ xs, d = .lst xs ∧ ∃ J : Nat → List D → Prop, J 0 [] ∧ (∀ (i : Nat) x acc, xs[i]? = some x → J i acc → LcTurn X scope g t ifs elt (J (i + 1)) (wipeS ρ (own.map (·.2))) acc x) ∧ ∀ acc, J xs.length acc → Rs acc)
    (hif : ifs.length ≤ 1 := by decide) (hw : okW ρ (own.map (·.2)) = true := by rfl) (hs : ∀ x, foldedSetIterable e X.env x = pure x := by intro _; rfl) : DN X g (.ListComp elt [⟨tg, e, ifs, 0⟩] scope pos) ρ Rs := .mk fun σ B H Q rl k =>
  (pe_lc hc hN (pi_list pW) ok hg (btW hif) bW hs).w (h.go σ B H _ rl fun v d B1 H1 e1 r1 dx ⟨xs, ed, J, j0, hs, hd⟩ => by
    subst ed
    obtain ⟨a, vs, rfl, h2, h3⟩ := dx
    refine ⟨a, rfl, ⟨vs, SqL.of (r1.hp.i _ _ h2)⟩, fun Dl hD => ?_⟩
    have f0 := r1.hp.fresh hD
    have fa := r1.fresh hD
    have fw : Dl ∉ ads (wipeS ρ (own.map (·.2))) := fun z => fa (ads_wipe z)
    refine lc_list (K := X.K) (a := a) (xs := vs) (fun i H' => Rel g B1 H1 σ ρ ∧ LcSt g B1 Dl (wipe σ (own.map (·.2))) (wipeS ρ (own.map (·.2))) (J i) H') ⟨r1, B1, [], [], Ex.rfl', (r1.wipe _).poke (r1.hp.i.none hD) fw f0.1 f0.2, r1.hp.i.none hD, upd_same, rfl, j0⟩ ?_ ?_ ?_
    · rintro i H' _ ⟨_, B', _, _, e', r', _⟩
      exact SqL.of (r'.hp.i _ _ (e' _ _ h2))
    · rintro i x H' hi ⟨q, B', ws, ds, e', r', b', d', dd, hJ⟩
      obtain ⟨y, hy, dy⟩ := h3.getV hi
      have tn := lc_turn (X := X) (scope := scope) (K := X.K) (ifs := ifs) (elt := elt) (J := J (i + 1)) hK ht f0.1 f0.2 e' r' b' d' dd (dy.up e') (hs i y ds hy hJ) fw
      exact lc_word q tn
    · rintro H' ⟨q, B', ws, ds, e', r', b', d', dd, hJ⟩
      rw [h3.len] at hJ
      exact k Dl ws ds B' H' (e1.tr e') (unwipeR hw r1 r' e') b' f0.1 fa f0.2 d' dd (hd ds hJ))
/-- over a tuple -/
theorem dn_lcT (t : Tg) (own : List (Str × Nat)) (hK : X.K = g.K) (hc : X.calm = true) (hN : X.N.Nodup) (ok : BlkOk X.N X.env.scope scope own) (hg : Blk X scope fun X' => PG X' tg (t.r X.K)) (ht : ∀ j ∈ t.at, j ∈ own.map (·.2))
    (h : DE X g e ρ fun d => ∃ xs, d = .tup xs ∧ ∃ J : Nat → List D → Prop, J 0 [] ∧ (∀ (i : Nat) x acc, xs[i]? = some x → J i acc → LcTurn X scope g t ifs elt (J (i + 1)) (wipeS ρ (own.map (·.2))) acc x) ∧ ∀ acc, J xs.length acc → Rs acc)
    (hif : ifs.length ≤ 1 := by decide) (hw : okW ρ (own.map (·.2)) = true := by rfl) (hs : ∀ x, foldedSetIterable e X.env x = pure x := by intro _; rfl) : DN X g (.ListComp elt [⟨tg, e, ifs, 0⟩] scope pos) ρ Rs := .mk fun σ B H Q rl k =>
  (pe_lc hc hN (pi_tup pW) ok hg (btW hif) bW hs).w (h.go σ B H _ rl fun v d B1 H1 e1 r1 dx ⟨xs, ed, J, j0, hs, hd⟩ => by
    subst ed
    obtain ⟨a, vs, rfl, h2, h3⟩ := dx
    rw [← hK] at h2
    refine ⟨a, rfl, ⟨vs, r1.hp.i.sqt h2⟩, fun Dl hD => ?_⟩
    have f0 := r1.hp.fresh hD
    have fa := r1.fresh hD
    have fw : Dl ∉ ads (wipeS ρ (own.map (·.2))) := fun z => fa (ads_wipe z)
    refine lc_tup (K := X.K) (a := a) (xs := vs) (fun i H' => Rel g B1 H1 σ ρ ∧ LcSt g B1 Dl (wipe σ (own.map (·.2))) (wipeS ρ (own.map (·.2))) (J i) H') ⟨r1, B1, [], [], Ex.rfl', (r1.wipe _).poke (r1.hp.i.none hD) fw f0.1 f0.2, r1.hp.i.none hD, upd_same, rfl, j0⟩ ?_ ?_ ?_
    · rintro i H' _ ⟨_, B', _, _, e', r', _⟩
      exact r'.hp.i.sqt (e'.sqt h2)
    · rintro i x H' hi ⟨q, B', ws, ds, e', r', b', d', dd, hJ⟩
      obtain ⟨y, hy, dy⟩ := h3.getV hi
      exact lc_word q (lc_turn (X := X) (scope := scope) (K := X.K) (ifs := ifs) (elt := elt) (J := J (i + 1)) hK ht f0.1 f0.2 e' r' b' d' dd (dy.up e') (hs i y ds hy hJ) fw)
    · rintro H' ⟨q, B', ws, ds, e', r', b', d', dd, hJ⟩
      rw [h3.len] at hJ
      exact k Dl ws ds B' H' (e1.tr e') (unwipeR hw r1 r' e') b' f0.1 fa f0.2 d' dd (hd ds hJ))
/-- over range(n) -/
theorem dn_lcR1 (t : Tg) (own : List (Str × Nat)) {p cp : Pos} (hK : X.K = g.K) (hc : X.calm = true) (hN : X.N.Nodup) (hm : X.mg "range" = none) (ok : BlkOk X.N X.env.scope scope own) (hg : Blk X scope fun X' => PG X' tg (t.r X.K)) (ht : ∀ j ∈ t.at, j ∈ own.map (·.2))
    (h : DE X g e ρ fun d => ∃ n, d = .int n ∧ -(2 ^ 62) ≤ n ∧ n < 2 ^ 62 ∧ ∃ J : Nat → List D → Prop, J 0 [] ∧ (∀ (i : Nat) acc, i < n.toNat → J i acc → LcTurn X scope g t ifs elt (J (i + 1)) (wipeS ρ (own.map (·.2))) acc (.int (i : Int))) ∧ ∀ acc, J n.toNat acc → Rs acc)
    (hif : ifs.length ≤ 1 := by decide) (hw : okW ρ (own.map (·.2)) = true := by rfl) (hgl : Gl X "range" := by rfl) (hst : starEach [e] X.env = (false, eval e X.env) :: starEach [] X.env := by rfl) (hs : ∀ x, foldedSetIterable (.Call (.Name "range" p) [e] [] cp) X.env x = pure x := by intro _; rfl) :
    DN X g (.ListComp elt [⟨tg, .Call (.Name "range" p) [e] [] cp, ifs, 0⟩] scope pos) ρ Rs := .mk fun σ B H Q rl k =>
  (pe_lc hc hN (pi_range1 hgl hm (pa_cons pW pa_nil hst) hst) ok hg (btW hif) bW hs).w (h.go σ B H _ rl fun v d B1 H1 e1 r1 dx ⟨n, ed, n1, n2, J, j0, hs, hd⟩ => by
    subst ed
    cases (show v = _ from dx)
    refine ⟨n, rfl, n1, n2, fun Dl hD => ?_⟩
    have f0 := r1.hp.fresh hD
    have fa := r1.fresh hD
    have fw : Dl ∉ ads (wipeS ρ (own.map (·.2))) := fun z => fa (ads_wipe z)
    refine lc_range (lo := 0) (n := n.toNat) (fun i H' => Rel g B1 H1 σ ρ ∧ LcSt g B1 Dl (wipe σ (own.map (·.2))) (wipeS ρ (own.map (·.2))) (J i) H') ⟨r1, B1, [], [], Ex.rfl', (r1.wipe _).poke (r1.hp.i.none hD) fw f0.1 f0.2, r1.hp.i.none hD, upd_same, rfl, j0⟩ ?_ ?_
    · rintro i H' hi ⟨q, B', ws, ds, e', r', b', d', dd, hJ⟩
      rw [Int.zero_add]
      exact lc_word q (lc_turn (X := X) (scope := scope) (K := X.K) (ifs := ifs) (elt := elt) (J := J (i + 1)) (xD := .int (i : Int)) hK ht f0.1 f0.2 e' r' b' d' dd rfl (hs i ds hi hJ) fw)
    · rintro H' ⟨q, B', ws, ds, e', r', b', d', dd, hJ⟩
      exact k Dl ws ds B' H' (e1.tr e') (unwipeR hw r1 r' e') b' f0.1 fa f0.2 d' dd (hd ds hJ))
theorem dn_lcR2 (t : Tg) (own : List (Str × Nat)) {e2 : Expr} {p cp : Pos} (hK : X.K = g.K) (hc : X.calm = true) (hN : X.N.Nodup) (hm : X.mg "range" = none) (ok : BlkOk X.N X.env.scope scope own) (hg : Blk X scope fun X' => PG X' tg (t.r X.K)) (ht : ∀ j ∈ t.at, j ∈ own.map (·.2))
    (h : DE X g e ρ fun d => DE X g e2 ρ fun d2 => ∃ a b, d = .int a ∧ d2 = .int b ∧ (-(2 ^ 62) ≤ a ∧ a < 2 ^ 62 ∧ -(2 ^ 62) ≤ b ∧ b < 2 ^ 62) ∧ ∃ J : Nat → List D → Prop, J 0 [] ∧ (∀ (i : Nat) acc, i < (b - a).toNat → J i acc → LcTurn X scope g t ifs elt (J (i + 1)) (wipeS ρ (own.map (·.2))) acc (.int (a + (i : Int)))) ∧ ∀ acc, J (b - a).toNat acc → Rs acc)
    (hif : ifs.length ≤ 1 := by decide) (hw : okW ρ (own.map (·.2)) = true := by rfl) (hgl : Gl X "range" := by rfl) (hst : starEach [e, e2] X.env = (false, eval e X.env) :: starEach [e2] X.env := by rfl) (hst2 : starEach [e2] X.env = (false, eval e2 X.env) :: starEach [] X.env := by rfl) (hs : ∀ x, foldedSetIterable (.Call (.Name "range" p) [e, e2] [] cp) X.env x = pure x := by intro _; rfl) :
    DN X g (.ListComp elt [⟨tg, .Call (.Name "range" p) [e, e2] [] cp, ifs, 0⟩] scope pos) ρ Rs := .mk fun σ B H Q rl k =>
  (pe_lc hc hN (pi_range2 hgl hm (pa_cons pW (pa_cons pW pa_nil hst2) hst) (hst.trans (by rw [hst2]; rfl)) hst2) ok hg (btW hif) bW hs).w (h.go σ B H _ rl fun v d B1 H1 e1 r1 dx hx => hx.go σ B1 H1 _ r1 fun v2 d2 B2 H2 e2' r2 dx2 ⟨a, b, ed, ed2, hn, J, j0, hs, hd⟩ => by
    subst ed ed2
    cases (show v = _ from dx)
    cases (show v2 = _ from dx2)
    refine ⟨a, b, rfl, hn, fun Dl hD => ?_⟩
    have f0 := r2.hp.fresh hD
    have fa := r2.fresh hD
    have fw : Dl ∉ ads (wipeS ρ (own.map (·.2))) := fun z => fa (ads_wipe z)
    refine lc_range (lo := a) (n := (b - a).toNat) (fun i H' => Rel g B2 H2 σ ρ ∧ LcSt g B2 Dl (wipe σ (own.map (·.2))) (wipeS ρ (own.map (·.2))) (J i) H') ⟨r2, B2, [], [], Ex.rfl', (r2.wipe _).poke (r2.hp.i.none hD) fw f0.1 f0.2, r2.hp.i.none hD, upd_same, rfl, j0⟩ ?_ ?_
    · rintro i H' hi ⟨q, B', ws, ds, e', r', b', d', dd, hJ⟩
      exact lc_word q (lc_turn (X := X) (scope := scope) (K := X.K) (ifs := ifs) (elt := elt) (J := J (i + 1)) (xD := .int (a + (i : Int))) hK ht f0.1 f0.2 e' r' b' d' dd rfl (hs i ds hi hJ) fw)
    · rintro H' ⟨q, B', ws, ds, e', r', b', d', dd, hJ⟩
      exact k Dl ws ds B' H' (e1.tr (e2'.tr e')) (unwipeR hw r2 r' e') b' f0.1 fa f0.2 d' dd (hd ds hJ))
/-- over enumerate(a list) -/
theorem lc_enum {K : PySem.W.Frag} {a : Addr} {xs : List V} {gg : TG} {tt : TT} {te : TE} {vs : List Nat} {σ : St} {H1 : Hp} {Dl : Addr} {Qd : Hp → Prop} (Pv : Nat → Hp → Prop) (h0 : Pv 0 (upd H1 Dl (.lst []))) (hl : ∀ i H, i ≤ xs.length → Pv i H → SqL K H a xs)
    (hs : ∀ (i : Nat) x H T, xs[i]? = some x → Pv i H → H T = none → gg (.ref T) (wipe σ vs) (upd H T (.tup [.int (i : Int), x])) fun σ2 H2 => wipe σ2 vs = wipe σ vs ∧ tt σ2 H2 fun b H3 =>
      if b = true then te σ2 H3 fun y H4 => ∃ acc, H4 Dl = some (.lst acc) ∧ acc.length < sizeLine ∧ Pv (i + 1) (upd H4 Dl (.lst (acc ++ [y]))) else Pv (i + 1) H3) (hd : ∀ H, Pv xs.length H → Qd H) :
    ∃ W : Nat → Nat → Hp → Prop, (∃ m, W 0 m (upd H1 Dl (.lst []))) ∧ ∀ i m H, W i m H →
      ((Ite K a).stop i H ∧ Qd H) ∨ ((Ite K a).go i H ∧ ∃ Nx : Hp → Prop, (∀ H', Nx H' → ∃ m', m' < m ∧ W (i + 1) m' H') ∧ ∀ x H', (Ite K a).yld i H x H' → gg x (wipe σ vs) H' fun σ2 H2 => wipe σ2 vs = wipe σ vs ∧ tt σ2 H2 fun b H3 =>
        if b = true then te σ2 H3 fun y H4 => ∃ acc, H4 Dl = some (.lst acc) ∧ acc.length < sizeLine ∧ Nx (upd H4 Dl (.lst (acc ++ [y]))) else Nx H3) := by
  refine ⟨fun i m H => m = xs.length - i ∧ i ≤ xs.length ∧ Pv i H, ⟨xs.length, by simp, Nat.zero_le _, h0⟩, ?_⟩
  rintro i m H ⟨rfl, hi, p⟩
  have q := hl i H hi p
  by_cases c : i < xs.length
  · refine .inr ⟨⟨xs, xs[i], q, by simp [c]⟩, Pv (i + 1), fun H' p' => ⟨xs.length - (i + 1), by omega, rfl, c, p'⟩, fun x H' y => ?_⟩
    obtain ⟨T, x', e1, hT, e2, y⟩ := y
    subst e1 e2
    exact hs i x' H T (y xs q) p hT
  · have e : i = xs.length := by omega
    subst e
    exact .inl ⟨⟨xs, q, Nat.le_refl _⟩, hd H p⟩
theorem dn_lcE (t : Tg) (own : List (Str × Nat)) {p cp tp : Pos} {elts : List Expr} {kk : Nat} (hK : X.K = g.K) (hc : X.calm = true) (hN : X.N.Nodup) (hm : X.mg "enumerate" = none) (ok : BlkOk X.N X.env.scope scope own) (hg : Blk X scope fun X' => PG X' (.Tuple elts kk tp) (t.r X.K)) (ht : ∀ j ∈ t.at, j ∈ own.map (·.2))
    (h : DE X g e ρ fun d => ∃ xs, d = .lst xs ∧ ∃ J : Nat → List D → Prop, J 0 [] ∧ (∀ (i : Nat) x acc, xs[i]? = some x → J i acc → LcTurn X scope g t ifs elt (J (i + 1)) (wipeS ρ (own.map (·.2))) acc (.tup [.int (i : Int), x])) ∧ ∀ acc, J xs.length acc → Rs acc)
    (hif : ifs.length ≤ 1 := by decide) (hw : okW ρ (own.map (·.2)) = true := by rfl) (hgl : Gl X "enumerate" := by rfl) (hst : starEach [e] X.env = (false, eval e X.env) :: starEach [] X.env := by rfl) (hs : ∀ x, foldedSetIterable (.Call (.Name "enumerate" p) [e] [] cp) X.env x = pure x := by intro _; rfl) :
    DN X g (.ListComp elt [⟨.Tuple elts kk tp, .Call (.Name "enumerate" p) [e] [] cp, ifs, 0⟩] scope pos) ρ Rs := .mk fun σ B H Q rl k =>
  (pe_lc hc hN (pi_enum hgl hm (pa_cons pW pa_nil hst) hst) ok hg (btW hif) bW hs).w (h.go σ B H _ rl fun v d B1 H1 e1 r1 dx ⟨xs, ed, J, j0, hs, hd⟩ => by
    subst ed
    obtain ⟨a, vs, rfl, h2, h3⟩ := dx
    refine ⟨a, vs, rfl, SqL.of (r1.hp.i _ _ h2), fun Dl hD => ?_⟩
    have f0 := r1.hp.fresh hD
    have fa := r1.fresh hD
    have fw : Dl ∉ ads (wipeS ρ (own.map (·.2))) := fun z => fa (ads_wipe z)
    refine lc_enum (K := X.K) (a := a) (xs := vs) (fun i H' => Rel g B1 H1 σ ρ ∧ LcSt g B1 Dl (wipe σ (own.map (·.2))) (wipeS ρ (own.map (·.2))) (J i) H') ⟨r1, B1, [], [], Ex.rfl', (r1.wipe _).poke (r1.hp.i.none hD) fw f0.1 f0.2, r1.hp.i.none hD, upd_same, rfl, j0⟩ ?_ ?_ ?_
    · rintro i H' _ ⟨_, B', _, _, e', r', _⟩
      exact SqL.of (r'.hp.i _ _ (e' _ _ h2))
    · rintro i x H' T hi ⟨q, B', ws, ds, e', r', b', d', dd, hJ⟩ hT
      obtain ⟨y, hy, dy⟩ := h3.getV hi
      have gr := Grow.new (o := .tup [.int (i : Int), x]) r'.hp.i hT
      have nt : Dl ≠ T := ne_of_none d' hT
      have := lc_turn (X := X) (scope := scope) (K := X.K) (ifs := ifs) (elt := elt) (J := J (i + 1)) (xD := .tup [.int (i : Int), y]) hK ht f0.1 f0.2 (e'.tr gr.b) (r'.grow gr) (by rw [upd_ne nt]; exact b') (gr.h _ _ d') (dd.up gr.b)
        (x := .ref T) ⟨T, _, rfl, SqT.of upd_same, ⟨_, _, rfl, rfl, _, _, rfl, (dy.up e').up gr.b, rfl⟩⟩ (hs i y ds hy hJ) fw
      exact lc_word q this
    · rintro H' ⟨q, B', ws, ds, e', r', b', d', dd, hJ⟩
      rw [h3.len] at hJ
      exact k Dl ws ds B' H' (e1.tr e') (unwipeR hw r1 r' e') b' f0.1 fa f0.2 d' dd (hd ds hJ))
end
end DL
set_option Elab.async false
set_option linter.all false
set_option autoImplicit false
set_option maxRecDepth 100000
set_option maxHeartbeats 400000
/-! A def's promise where nothing is being shown (no repr above) -/
namespace DL
open PySem L2 PyProof.Rows

structure GOk (P : Program) (w : World) (K : PySem.W.Frag) (mg : Str → Option Value) (base : Heap) (CX : CXT) (k : Nat) (f : Addr) (fd : FuncData) (ps : List Str) (sp : Sp) : Prop where
  len : ∀ vs H Q E, sp vs H Q E → vs.length = ps.length
  run : ∀ (A : Around) (outer : List Env) (s : Shared) (H : Hp) (args : Args) (us : List Value) (vs : List V) (Q : VK) (E : XK), Room k A → A.guards = some [] →
    Env0 P w K mg base A outer s H → BindsTo s fd args (ps.zip us) → Vals vs us → sp vs H Q E → codeAny (model P w) A (.call (.ref f) args) (CR CX outer P w H s Q E) s
section
variable {P : Program} {w : World} {K : PySem.W.Frag} {mg : Str → Option Value} {base : Heap} {CX : CXT} {k n : Nat} {f C : Addr} {fd : FuncData} {ps : List Str} {sp : Sp}
theorem gok_of (F : FnOk P w K mg base CX k f fd ps sp) : GOk P w K mg base CX k f fd ps sp := ⟨F.len, fun A outer s H args us vs Q E hr _ => F.run A outer s H args us vs Q E hr⟩
theorem GOk.mono {j : Nat} (F : GOk P w K mg base CX j f fd ps sp) (h : j ≤ k) : GOk P w K mg base CX k f fd ps sp := ⟨F.len, fun A outer s H args us vs Q E hr => F.run A outer s H args us vs Q E (hr.mono h)⟩
/-- what is wanted at the frame's end -/
theorem frame_end {X : Cx} {outer : List Env} {s : Shared} {H : Hp} {Q : VK} {E : XK} {CX : CXT} (e0 : X.outer = outer) (e1 : X.s_0 = s) (e2 : X.H_0 = H) (e3 : X.ex = []) {fl : Flow} {s' : Shared}
    (h : SP X [] { nx := fun _ H' => Q .non H', rt := Q } fl s') : CR CX outer X.prog X.w H s Q E (.ok (.ret (match (generalizing := false) fl with | .ret v => v | _ => .none))) s' := by
  subst e0 e1 e2
  have fin : ∀ {σ' : L2.St} {H' : Hp} {v : V} {u : Value}, Inv X [] σ' H' s' → RelV v u → Q v H' → CE X.outer X.prog X.w X.H_0 X.s_0 Q u s' := fun {σ' H' v u} J rv q => by
    have hb := J.base
    rw [e3] at hb
    exact ⟨v, H', J.os, J.bare, hb, J.hok, rv, q⟩
  cases fl with
  | ret u => obtain ⟨v, σ', H', J, rv, q⟩ := h; exact fin J rv q
  | next => obtain ⟨σ', H', J, q⟩ := h; exact fin (v := V.non) (u := Value.none) J rfl q
  | brk => obtain ⟨_, _, _, q⟩ := h; exact q.elim
  | cont => obtain ⟨_, _, _, q⟩ := h; exact q.elim
/-- a def of the text keeps its promise, by its body -/
theorem gok {x qual : Str} {st : Stmt} {N : List Str} (F : Fun K x qual st f fd) (Sc : FnScope N ps (defScope st)) (len : ∀ vs H Q E, sp vs H Q E → vs.length = ps.length)
    (body : ∀ (cdv : Value) (A : Around) (outer : List Env) (s : Shared) (H : Hp) (vs : List V) (Q : VK) (E : XK), Room k (A.deeper (envOfC qual (defScope st) s.heap.objs.size f cdv)) → A.guards = some [] → sp vs H Q E →
      ∃ t, PSs (cxOf CX P w K mg base N qual (defScope st) f cdv A outer s H E) (defBody st) t ∧ t { nx := fun _ H' => Q .non H', rt := Q } (L2.start N vs) H) : GOk P w K mg base CX (k + 1) f fd ps sp := by
  obtain ⟨oc, od, kV, doc, pm, an, cdv, ct, osl, rfl, lk, hcd⟩ := F.ex
  refine ⟨len, fun A outer s H args us vs Q E hr hg e0 hb r hsp => ?_⟩
  have keep : ∀ b o, base.get? b = some o → s.heap.get? b = some o := fun b o e => (e0.bs b o e).1
  have KX : K.In s.heap := e0.mod.kin.keeps keep
  have kinds : ∀ y ∈ ps.zip us, (defScope st).names.lookup y.1 = some .local ∨ ((defScope st).names.lookup y.1 = some .cell ∧ ((cellsFrom (s.heap.objs.size + 1) (defScope st).names []).lookup y.1).isSome = true) := by
    rintro ⟨n, v⟩ hy
    rcases Sc.par n (List.of_mem_zip hy).1 with q | q
    · exact .inl q
    · exact .inr ⟨q, PySem.W.cellsFrom_some _ _ _ (.inl q)⟩
  refine codeAny_call_function hr.depth (KX _ _ lk) rfl Sc.co Sc.gen rfl (PySem.W.codeRec_of KX hcd) (hb _ _ _ _ ?_)
  refine wpAny_newFunctionEnv_cells Sc.kind kinds fun env he s1 x => ?_
  subst he
  obtain ⟨t, ht, hq⟩ := body cdv A outer s H vs Q E (hr.deeper _) hg hsp
  refine ⟨(e0.mod.nolimit.keeps keep).keeps x.toInCall.keep, codeAny_func ?_⟩
  exact wpAny_mono (ht.run [] s1 _ H _ (inv_start Sc hr.hd e0 (len _ _ _ _ hsp) r x) hq) (fun fl s' hs => frame_end rfl rfl rfl rfl hs) fun e s' hs => hs
end

section
variable {X : Cx} {CX : CXT} {k : Nat} {f C : Addr} {fd : FuncData} {ps : List Str} {sp : Sp} {E : XK} {x m : Str} {p pos apos : Pos} {e o : Expr} {es : List Expr} {ta : TE} {t : TA}
/-- room for k calls, nothing being shown -/
structure Rm (k : Nat) (X : Cx) : Prop where
  r : Room k X.A
  g : X.A.guards = some []
  m : True
theorem Rm.mono {j k : Nat} (h : Rm k X) (l : j ≤ k) : Rm j X := ⟨h.r.mono l, h.g, h.m⟩
theorem Rm.blk (h : Rm k X) {s : Shared} {H : Hp} {scope : Scope} {cenv : Env} {fp : List Addr} : Rm k (X.blk s H scope cenv fp) := ⟨h.r, h.g, h.m⟩
theorem Rm.hu (h : Rm k X) : X.A.units + 64 < cLine := h.r.units
theorem run_g {pins : List (Addr × Obj)} {σ : L2.St} {H : Hp} {s : Shared} {Q : VK} {us : List Value} {vs : List V} (F : GOk X.prog X.w X.K X.mg X.base CX k f fd ps sp) (hr : Rm k X) (hb : Binds X.K fd ps []) (hx : Passes CX X E)
    (I : Inv X pins σ H s) (r : Vals vs us) (h : sp vs H Q E) : wpAny (model X.prog X.w) X.A (call (.ref f) us) (EP X pins σ Q) X.xe s := by
  have hl : (us ++ []).length = ps.length := by rw [List.append_nil, ← r.length]; exact F.len _ _ _ _ h
  have b := hb s us I.kIn hl
  rw [List.append_nil] at b
  refine wpAny_call (codeAny_mono (F.run X.A X.stack s H ⟨us, []⟩ us vs Q E hr.r hr.g I.env0 b r h) fun r s' hq => ?_)
  match r, hq with
  | .error e, hq => exact hx pins σ H s e s' I hq
  | .ok (.ret u), hq => exact I.after hq
  | .ok .next, hq => exact False.elim hq
  | .ok .brk, hq => exact False.elim hq
  | .ok .cont, hq => exact False.elim hq
def tCallG (sp : Sp) (E : XK) (t : TA) : TE := fun σ H Q => t σ H fun vs H1 => sp vs H1 Q E
theorem pe_callG (F : GOk X.prog X.w X.K X.mg X.base CX k f fd ps sp) (hr : Rm k X) (hg : Gl X x) (hm : X.mg x = some (.ref f)) (hk : PySem.W.keepIn X.K (.ref f) = true) (hb : Binds X.K fd ps []) (hx : Passes CX X E)
    (ha : PA X (e :: es) t) (hdb : (x == ("__debug__" : Str)) = false := by decide) (he : starEach (e :: es) X.env = (false, eval e X.env) :: starEach es X.env := by rfl) (hpl : (backTo pos (starEach es X.env)).any (·.1) = false := by rfl) :
    PE X (.Call (.Name x p) (e :: es) [] pos) (tCallG sp E t) := ⟨fun pins s σ H Q I h => wpAny_Call_Name_kw (ld_glob I hg hm (PySem.W.callWith_K (h₀ := X.base) I.ok.mod.kin hk
    (thn (ha.run pos pins s σ H _ I h) fun us s1 ⟨vs, H1, I1, r, q⟩ => ⟨I1.kIn, run_g F hr hb hx I1 r q⟩) he hpl) hdb)⟩
theorem pe_callG0 (F : GOk X.prog X.w X.K X.mg X.base CX k f fd ps sp) (hr : Rm k X) (hg : Gl X x) (hm : X.mg x = some (.ref f)) (hk : PySem.W.keepIn X.K (.ref f) = true) (hb : Binds X.K fd ps []) (hx : Passes CX X E)
    (hdb : (x == ("__debug__" : Str)) = false := by decide) : PE X (.Call (.Name x p) [] [] pos) (tCallG sp E tNil) :=
  ⟨fun pins s σ H Q I h => wpAny_Call_Name_kw (ld_glob I hg hm (PySem.W.callWith_K0 I.kIn hk (run_g (us := []) F hr hb hx I .nil h)) hdb)⟩
/-- o.m(..) -/
def tMethG (C : Addr) (m : Str) (sp : Sp) (E : XK) (ta : TE) (t : TA) : TE := fun σ H Q => ta σ H fun x H1 => ∃ a dx fs, x = .ref a ∧ H1 a = some (.ins C dx fs) ∧ fs.lookup m = none ∧ t σ H1 fun vs H2 => sp (x :: vs) H2 Q E
theorem pe_methG0 {pl : Sem Bool} (he : PE X o ta) (c : Cls X.K C) (hm : Meth X.K C m f) (F : GOk X.prog X.w X.K X.mg X.base CX k f fd ps sp) (hr : Rm k X) (hb : Binds X.K fd ps []) (hx : Passes CX X E)
    (ht : eval (.Call (.Attribute o m apos) [] [] pos) X.env = (do
      let ov ← eval o X.env
      standAt apos.atName
      let (f, first) ← holding [ov] (getMethod ov m pl)
      callWith pos f first (backTo pos (starEach [] X.env)) (backToKw pos (keywordEach [] X.env))) := by rfl) :
    PE X (.Call (.Attribute o m apos) [] [] pos) (tMethG C m sp E ta tNil) := by
  refine ⟨fun pins s σ H Q I h => PySem.W.methodCall_KW (pl := pl) (thn (he.run pins s σ H _ I h) fun u s1 ⟨x, H1, I1, rx, a, dx, fs, ex, ea, l, q⟩ => ?_) ht⟩
  subst ex
  cases rx
  exact getmeth_ok I1 ea c hm l (PySem.W.callWith_K0 (first := [.ref a]) I1.kIn hm.kp (run_g (us := [.ref a]) (vs := [.ref a]) F hr hb hx I1 (.cons rfl .nil) q))
theorem pe_methG {pl : Sem Bool} (he : PE X o ta) (c : Cls X.K C) (hm : Meth X.K C m f) (F : GOk X.prog X.w X.K X.mg X.base CX k f fd ps sp) (hr : Rm k X) (hb : Binds X.K fd ps []) (hx : Passes CX X E) (ha : PA X (e :: es) t)
    (hst : starEach (e :: es) X.env = (false, eval e X.env) :: starEach es X.env := by rfl) (hpl : (backTo pos (starEach es X.env)).any (·.1) = false := by rfl)
    (ht : eval (.Call (.Attribute o m apos) (e :: es) [] pos) X.env = (do
      let ov ← eval o X.env
      standAt apos.atName
      let (f, first) ← holding [ov] (getMethod ov m pl)
      callWith pos f first (backTo pos (starEach (e :: es) X.env)) (backToKw pos (keywordEach [] X.env))) := by rfl) :
    PE X (.Call (.Attribute o m apos) (e :: es) [] pos) (tMethG C m sp E ta t) := by
  refine ⟨fun pins s σ H Q I h => PySem.W.methodCall_KW (pl := pl) (thn (he.run pins s σ H _ I h) fun u s1 ⟨x, H1, I1, rx, a, dx, fs, ex, ea, l, q⟩ => ?_) ht⟩
  subst ex
  cases rx
  exact getmeth_ok I1 ea c hm l (PySem.W.callWith_K (first := [.ref a]) (h₀ := X.base) I.ok.mod.kin hm.kp (thn (ha.run pos pins s1 σ H1 _ I1 q) fun us s2 ⟨vs, H2, I2, r, q2⟩ => ⟨I2.kIn, run_g (us := .ref a :: us) (vs := .ref a :: vs) F hr hb hx I2 (.cons rfl r) q2⟩) hst hpl)
/-- C(..): a new instance, then its __init__ -/
def tMakeG (C : Addr) (sp : Sp) (E : XK) (t : TA) : TE := fun σ H Q => t σ H fun vs H1 => ∀ x dx, H1 x = none → H1 dx = none → dx ≠ x → sp (.ref x :: vs) (upd (upd H1 dx (.own x)) x (.ins C dx [])) (fun v H2 => v = .non ∧ Q (.ref x) H2) E
theorem make_guards {A : Around} {us : List Value} {kw : List (Str × Value)} (h : A.guards = some []) : (A.under (.builtin "type.__call__" ⟨.ref C :: us, kw⟩)).guards = some [] := by
  show pushGuards (Code.builtin "type.__call__" ⟨.ref C :: us, kw⟩).guards A.guards = some []
  rw [h]
  have e : (Code.builtin "type.__call__" ⟨.ref C :: us, kw⟩).guards = [] := by
    first | rfl | simp [Code.guards, Code.isGuard, guardIds]
  rw [e]
  rfl
theorem run_makeG {pins : List (Addr × Obj)} {σ : L2.St} {H : Hp} {s : Shared} {Q : VK} {us : List Value} {vs : List V} (M : Mk X.K C f) (F : GOk X.prog X.w X.K X.mg X.base CX k f fd ps sp) (hr : Rm (k + 1) X) (hb : Binds X.K fd ps [])
    (hx : Passes CX X E) (I : Inv X pins σ H s) (r : Vals vs us) (h : ∀ x dx, H x = none → H dx = none → dx ≠ x → sp (.ref x :: vs) (upd (upd H dx (.own x)) x (.ins C dx [])) (fun v H2 => v = .non ∧ Q (.ref x) H2) E) :
    wpAny (model X.prog X.w) X.A (call (.ref C) us) (EP X pins σ Q) X.xe s := by
  have hq := h (s.heap.objs.size + 1) s.heap.objs.size (I.hok.fresh (Nat.le_succ _)) (I.hok.fresh (Nat.le_refl _)) (Nat.ne_of_lt (Nat.lt_succ_self _))
  have I2 := Inv.made (C := C) I
  have r2 : Vals (V.ref (s.heap.objs.size + 1) :: vs) (Value.ref (s.heap.objs.size + 1) :: us) := .cons rfl r
  have hl : ((Value.ref (s.heap.objs.size + 1) :: us) ++ []).length = ps.length := by rw [List.append_nil, ← r2.length]; exact F.len _ _ _ _ hq
  have b := hb _ (Value.ref (s.heap.objs.size + 1) :: us) I2.kIn hl
  rw [List.append_nil] at b
  refine wpAny_call (make_map (f := f) I.kIn M.makes M.init (beq_iff_eq.mp M.fn) (codeAny_mono (F.run _ X.stack _ _ ⟨Value.ref (s.heap.objs.size + 1) :: us, []⟩ _ _ _ E (hr.r.make C us []) (make_guards hr.g) (I2.env0.make C us []) b r2 hq) fun r s' hq' => ?_))
  match r, hq' with
  | .error e, hq' => exact hx pins σ _ _ e s' I2 hq'
  | .ok (.ret u), hq' =>
    obtain ⟨v, H', I3, rv, ev, q3⟩ := I2.after hq'
    subst ev
    exact ⟨rv, ⟨V.ref (s.heap.objs.size + 1), H', I3, rfl, q3⟩⟩
  | .ok .next, hq' => exact False.elim hq'
  | .ok .brk, hq' => exact False.elim hq'
  | .ok .cont, hq' => exact False.elim hq'
theorem pe_makeG (M : Mk X.K C f) (F : GOk X.prog X.w X.K X.mg X.base CX k f fd ps sp) (hr : Rm (k + 1) X) (hg : Gl X x) (hm : X.mg x = some (.ref C)) (hb : Binds X.K fd ps []) (hx : Passes CX X E)
    (ha : PA X (e :: es) t) (hdb : (x == ("__debug__" : Str)) = false := by decide) (he : starEach (e :: es) X.env = (false, eval e X.env) :: starEach es X.env := by rfl) (hpl : (backTo pos (starEach es X.env)).any (·.1) = false := by rfl) :
    PE X (.Call (.Name x p) (e :: es) [] pos) (tMakeG C sp E t) := ⟨fun pins s σ H Q I h => wpAny_Call_Name_kw (ld_glob I hg hm (PySem.W.callWith_K (h₀ := X.base) I.ok.mod.kin M.kp
    (thn (ha.run pos pins s σ H _ I h) fun us s1 ⟨vs, H1, I1, r, q⟩ => ⟨I1.kIn, run_makeG M F hr hb hx I1 r q⟩) he hpl) hdb)⟩
end

/-! the law's own call -/
theorem law_callG {P : Program} {w : World} {K : PySem.W.Frag} {mg mb : Str → Option Value} {k : Nat} {fa a : Addr} {fd : FuncData} {x : Str} {sp : Sp} {s₁ : Shared} {vs : List Value} {ns : List Int}
    (KX : K.In s₁.heap) (hns : s₁.heap.Ns mainGlobals mg) (hb : s₁.heap.Ns builtinsNs mb) (hbb : ∀ x : Str, x ≠ "__name__" → mb x = bootBuiltins x) (hlim : s₁.heap.NoLimit) (hg : s₁.gens = #[])
    (ha : s₁.heap.get? a = some { cls := .type "list", data := .seq vs.toArray }) (hi : IntsAre vs ns) (hl : ns.length ≤ sizeLine) (hr : Room k callerA)
    (F : ∀ base : Heap, K.In base → base.Ns mainGlobals mg → GOk P w K mg base CX0 k fa fd [x] sp) (hbind : ∀ (s : Shared) (u : Value), BindsTo s fd ⟨[u], []⟩ [(x, u)])
    (hsp : ∀ H : Hp, Only H → SqL K H a (ns.map V.int) → sp [.ref a] H (fun v _ => v = .bl true) E0) :
    codeAny (model P w) callerA (.call (.ref fa) ⟨[.ref a], []⟩) (fun r s' => r = .ok (.ret (.bool true)) ∧ OldK s₁.heap s'.heap ∧ s'.os = s₁.os ∧ AllBare s'.gens) s₁ := by
  have dict_no : ∀ {H : Hp}, (∀ b, H b ≠ none → b = a) → ∀ {b : Addr} {m : Str → Option Value}, s₁.heap.Ns b m → (hidT s₁.heap H).Ns b m := fun {H} hA {b m} ⟨o, es, ep, e, d, r⟩ => by
    refine ⟨o, es, ep, hidT_get e ?_, d, r⟩
    cases q : H b with
    | none => rfl
    | some u =>
      obtain rfl : b = a := hA b (fun z => by rw [q] at z; cases z)
      rw [ha] at e; cases e; cases d
  have core : ∀ H : Hp, Only H → SqL K H a (ns.map V.int) → HOk P w H s₁.heap → (∀ b, H b ≠ none → b = a ∧ K.lookup a = none) →
      codeAny (model P w) callerA (.call (.ref fa) ⟨[.ref a], []⟩) (fun r s' => r = .ok (.ret (.bool true)) ∧ OldK s₁.heap s'.heap ∧ s'.os = s₁.os ∧ AllBare s'.gens) s₁ := by
    intro H hO hS hok hA
    have ns := fun {b m} => dict_no (H := H) (fun b z => (hA b z).1) (b := b) (m := m)
    have kin : K.In (hidT s₁.heap H) := fun b o e => hidT_get (KX b o e) (by
      cases q : H b with
      | none => rfl
      | some u =>
        obtain ⟨rfl, n⟩ := hA b (fun z => by rw [q] at z; cases z)
        rw [n] at e; cases e)
    have md : Mod K mg (hidT s₁.heap H) := ⟨kin, ns hns, ⟨mb, ns hb, hbb⟩, let ⟨mc, h1, h2⟩ := hlim; ⟨mc, ns h1, h2⟩⟩
    have e0 : Env0 P w K mg (hidT s₁.heap H) callerA [] s₁ H := ⟨rfl, md, fun b o e => of_hidT e, Nat.le_of_eq (hidT_size _ _), trivial, fun b z => absurd (show b ∈ ([] : List Addr) from z) (by simp), hok, .of_eq hg⟩
    refine codeAny_mono ((F _ kin (ns hns)).run callerA [] s₁ H ⟨[.ref a], []⟩ [.ref a] [.ref a] _ _ hr rfl e0 (hbind s₁ (.ref a)) (.cons rfl .nil) (hsp H hO hS)) fun r s' h => ?_
    match r, h with
    | .error e, h => exact h.elim
    | .ok .next, h => exact h.elim
    | .ok .brk, h => exact h.elim
    | .ok .cont, h => exact h.elim
    | .ok (.ret u), h =>
      obtain ⟨v, H', os, bare, un, hok', r', q⟩ := h
      cases (show v = .bl true from q)
      cases (show u = Value.bool true from r')
      refine ⟨rfl, OldK.of_keep fun b o e => ?_, os, bare⟩
      rcases hO b with z | ⟨ob, xs, z⟩
      · exact un.keep b o e z (by intro q; exact absurd (show b ∈ ([] : List Addr) from q) (by simp)) (by simp)
      · obtain ⟨e1, _⟩ := hok b _ z
        obtain ⟨e2, _⟩ := hok' b _ (un.frzs b ob _ z)
        rw [e] at e1; cases e1
        exact e2
  cases hk : K.lookup a with
  | some o =>
    have e := KX a o hk
    rw [ha] at e
    cases e
    refine core (fun _ => none) (fun _ => .inl rfl) (.inr ⟨_, vs.toArray, _, hk, rfl, rfl, rfl, by rw [List.size_toArray, hi.length]; exact hl, by simpa using vals_ints hi⟩) (fun b u z => nomatch z) fun b z => absurd rfl z
  | none =>
    have ob : ObjOk P w (upd (fun _ => none) a (.frz { cls := .type "list", data := .seq vs.toArray } (.lst (ns.map V.int)))) s₁.heap a (.frz { cls := .type "list", data := .seq vs.toArray } (.lst (ns.map V.int))) :=
      ⟨ha, by rw [List.length_map]; exact hl, vs, _, vals_ints hi, ha⟩
    refine core (upd (fun _ => none) a (.frz { cls := .type "list", data := .seq vs.toArray } (.lst (ns.map V.int)))) (fun b => ?_) (.inl (.inr ⟨_, upd_same⟩)) (fun b u z => ?_) (fun b z => ?_)
    · by_cases c : b = a
      · subst c; exact .inr ⟨_, _, upd_same⟩
      · exact .inl (upd_ne c)
    · by_cases c : b = a
      · subst c; rw [upd_same] at z; cases z; exact ob
      · rw [upd_ne c] at z; cases z
    · by_cases c : b = a
      · exact ⟨c, hk⟩
      · exact absurd (upd_ne c) z
theorem walk_G {l : PySem.W.OpenLaw} {n k : Nat} {q : Program} {loose : List Str} {XP : (Str → Option Value) → Heap → Prop} {YP : World → Heap → Prop} {d : DefRec} {K : Params → PySem.W.Frag} {sp : PySem.W.Frag → Sp} {x : Str}
    (hn : l.most = some n) (hn2 : n ≤ sizeLine) (hdf : d.params.defaults = []) (hr : Room k callerA) (hY : ∀ (w : World) (h : Heap), YP w h → (K w.params).In h)
    (F : ∀ (w : World) (mg : Str → Option Value) (fa : Addr) (h : Heap), (K w.params).In h → h.Ns mainGlobals mg → mg d.name = some (.ref fa) →
      ∃ fd : FuncData, (∀ (s : Shared) (u : Value), BindsTo s fd ⟨[u], []⟩ [(x, u)]) ∧ ∀ base : Heap, (K w.params).In base → base.Ns mainGlobals mg → GOk l.prog w (K w.params) mg base CX0 k fa fd [x] (sp (K w.params)))
    (hsp : ∀ (K : PySem.W.Frag) (H : Hp) (a : Addr) (ns : List Int), ns.length ≤ n → Only H → SqL K H a (ns.map V.int) → sp K [.ref a] H (fun v _ => v = .bl true) E0) :
    PySem.W.WalkO q loose XP YP l.row.toRowW d [] (fun f vs => PySem.call f vs) := by
  refine Att.attach_call hn hdf fun w s₀ s₁ mg mb fa o pm cd doc a vs ns G Y ho hd hcd hmg hobj hints hlen hg => ?_
  obtain ⟨fd, hb, hF⟩ := F w mg fa _ (hY w _ Y) G.T.g hmg
  exact law_callG (hY w _ Y) G.T.g G.T.b G.T.builtins G.T.nolimit hg hobj hints (Nat.le_trans hlen hn2) hr hF hb fun H hO hS => hsp _ H a ns hlen hO hS
end DL
set_option Elab.async false
set_option linter.all false
set_option autoImplicit false
set_option maxRecDepth 100000
set_option maxHeartbeats 400000
/-! Data: what a def promises, calls -/
namespace DL
open PySem L2 PyProof.Rows

/-- a step that only lays new things, and may write the source at p -/
structure GrowF (p : Addr) (B H B' H' : Hp) : Prop where
  b : Ex B B'
  h : ∀ a o, a ≠ p → H a = some o → H' a = some o
  f : FeedAt H' p
  i : Ex B' H'
  n : ∀ a, H a ≠ none → B a = none → B' a = none
theorem Rel.growF {g : G} {B H B' H' : Hp} {σ : L2.St} {ρ : List S} {p : Addr} {i : Nat} (r : Rel g B H σ ρ) (hi : ρ[i]? = some (.fd p)) (k : GrowF p B H B' H') : Rel g B' H' σ ρ := by
  obtain ⟨_, hb, h0, x0, y0, hp⟩ := r.sl i _ hi
  have np : H p ≠ none := fun z => by rw [hp] at z; cases z
  refine ⟨⟨k.i, r.hp.b0.tr k.b, fun a o n e => ?_, fun a n e => ?_, fun q e => ?_⟩, r.len, fun j s e => ?_, r.nd⟩
  · refine k.h a o (fun z => ?_) (r.hp.h0 a o n e)
    subst z
    rcases h0 with z | z
    · rw [z] at e; cases e
    · exact n z
  · by_cases hf : g.fd = some a
    · obtain ⟨⟨x, y, hx⟩, h2⟩ := r.hp.fd a hf
      exact k.n a (by rw [hx]; exact fun z => nomatch z) h2
    · refine k.n a (fun z => ?_) (r.hp.nw a n e)
      cases q : g.H0 a with
      | none => exact n q
      | some o => rw [r.hp.h0 a o hf q] at z; cases z
  · obtain ⟨⟨x, y, hx⟩, h2⟩ := r.hp.fd q e
    have nq : H q ≠ none := fun z => by rw [hx] at z; cases z
    refine ⟨?_, k.n q nq h2⟩
    by_cases c : q = p
    · subst c; exact k.f
    · exact ⟨x, y, k.h _ _ c hx⟩
  · have ok := r.sl j s e
    cases s with
    | un => trivial
    | d x => obtain ⟨v, h1, h2⟩ := ok; exact ⟨v, h1, h2.up k.b⟩
    | raw v => exact ok
    | own q xs =>
      obtain ⟨a1, a2, a3, vs, a4, a5⟩ := ok
      have ne : q ≠ p := fun z => by
        subst z
        by_cases c : i = j
        · subst c; rw [hi] at e; cases e
        · exact ads_out (s := .un) rfl hi rfl r.nd (ad_sub (ρ := ρ.set i .un) (i := j) (s := .own q xs) (by rw [List.getElem?_set_ne c]; exact e) (by simp [S.ad]))
      exact ⟨a1, k.n q (fun z => by rw [a4] at z; cases z) a2, a3, vs, k.h _ _ ne a4, a5.up k.b⟩
    | fd q =>
      obtain ⟨a1, a2, a3, x, y, a4⟩ := ok
      refine ⟨a1, k.n q (fun z => by rw [a4] at z; cases z) a2, a3, ?_⟩
      by_cases c : q = p
      · subst c; exact k.f
      · exact ⟨x, y, k.h _ _ c a4⟩

/-- what the bare arguments and the wish come to: a def over trees -/
abbrev Wt := List D → (D → Prop) → Prop
abbrev WtN := List D → (List D → Prop) → Prop
def spD (K : PySem.W.Frag) (n : Nat) (W : Wt) : Sp := fun vs H Q _ => vs.length = n ∧ ∃ B ds R, Ex B H ∧ DRs K B ds vs ∧ W ds R ∧ ∀ v d B' H', Grow B H B' H' → DR K B' d v → R d → Q v H'
/-- .. that hands back a new list -/
def spN (K : PySem.W.Frag) (n : Nat) (W : WtN) : Sp := fun vs H Q _ => vs.length = n ∧ ∃ B ds R, Ex B H ∧ DRs K B ds vs ∧ W ds R ∧ ∀ p vs ds B' H', Grow B H B' H' → H p = none → B' p = none → H' p = some (.lst vs) → DRs K B' ds vs → R ds → Q (.ref p) H'
/-- .. with a source of draws ahead -/
def spF (K : PySem.W.Frag) (n : Nat) (W : Wt) : Sp := fun vs H Q _ => vs.length = n + 1 ∧ ∃ p us B ds R, vs = .ref p :: us ∧ Ex B H ∧ FeedAt H p ∧ B p = none ∧ DRs K B ds us ∧ W ds R ∧ ∀ v d B' H', GrowF p B H B' H' → DR K B' d v → R d → Q v H'
def spFN (K : PySem.W.Frag) (n : Nat) (W : WtN) : Sp := fun vs H Q _ => vs.length = n + 1 ∧ ∃ p us B ds R, vs = .ref p :: us ∧ Ex B H ∧ FeedAt H p ∧ B p = none ∧ DRs K B ds us ∧ W ds R ∧ ∀ q vs ds B' H', GrowF p B H B' H' → H q = none → B' q = none → H' q = some (.lst vs) → DRs K B' ds vs → R ds → Q (.ref q) H'

def startS (N : List Str) (ss : List S) : List S := ss ++ List.replicate (N.length - ss.length) .un
def endR (R : D → Prop) : O → Prop
  | .rt d => R d
  | .rn xs => R (.lst xs)
  | .nx _ => R .non
  | _ => False
def endN (R : List D → Prop) : O → Prop
  | .rn xs => R xs
  | _ => False
theorem DRs.slots {g : G} {B H : Hp} : ∀ {ds : List D} {vs : List V} {n m : Nat}, DRs g.K B ds vs → n = m → ∀ (i : Nat) s, (ds.map S.d ++ List.replicate n .un)[i]? = some s → SlotOk g B H (vs.map some ++ List.replicate m none)[i]? s
  | [], vs, n, m, h, e, i, s, hs => by
    have : s = .un := by
      have := List.mem_of_getElem? hs
      simp at this
      exact this.2
    subst this
    trivial
  | d :: ds, vs, n, m, h, e, 0, s, hs => by
    obtain ⟨x, xs, rfl, h2, h3⟩ := h
    simp at hs
    subst hs
    exact ⟨x, rfl, h2⟩
  | d :: ds, vs, n, m, h, e, i + 1, s, hs => by
    obtain ⟨x, xs, rfl, h2, h3⟩ := h
    exact DRs.slots (ds := ds) h3 e i s (by simpa using hs)
theorem ads_ds : ∀ (ds : List D) (n : Nat), ads (ds.map S.d ++ List.replicate n .un) = []
  | [], 0 => rfl
  | [], n + 1 => ads_ds [] n
  | d :: ds, n => ads_ds ds n

section
variable {P : Program} {w : World} {K : PySem.W.Frag} {mg : Str → Option Value} {base : Heap} {x qual : Str} {st : Stmt} {f : Addr} {fd : FuncData} {N ps : List Str} {k n : Nat}
theorem Hps.grow0 {B H B' H' : Hp} (r : Hps ⟨K, B, H, none⟩ B' H') : Grow B H B' H' := ⟨r.b0, fun a o e => r.h0 a o (fun z => nomatch z) e, r.i, r.nw⟩
theorem Grow.freeze {B H B' H' : Hp} {p : Addr} {o : HO} (g : Grow B H B' H') (h : H' p = some o) (hb : B' p = none) (h0 : H p = none) : Grow B H (upd B' p o) H' := by
  refine ⟨g.b.tr (Ex.up hb), g.h, fun a u e => ?_, fun a n e => ?_⟩
  · by_cases c : a = p
    · subst c; rw [upd_same] at e; cases e; exact h
    · rw [upd_ne c] at e; exact g.i _ _ e
  · rw [upd_ne (fun z => n (by rw [z]; exact h0))]
    exact g.n a n e
theorem rel0 {B H : Hp} {ds : List D} {vs : List V} (i : Ex B H) (d : DRs K B ds vs) (N : List Str) : Rel ⟨K, B, H, none⟩ B H (start N vs) (startS N (ds.map S.d)) := by
  refine ⟨⟨i, Ex.rfl', fun a o _ e => e, fun a _ e => e, fun p e => nomatch e⟩, ?_, fun i s e => ?_, ?_⟩
  · simp [L2.start, startS, d.len]
  · unfold L2.start
    refine DRs.slots (n := N.length - ds.length) d (by rw [d.len]) i s ?_
    simpa [startS] using e
  · unfold startS
    rw [ads_ds]
    exact List.nodup_nil
/-- a def's body over trees keeps the def's promise -/
theorem fnD {W : Wt} (sm : True) (F : Fun K x qual st f fd) (Sc : FnScope N ps (defScope st)) (hn : ps.length = n)
    (body : ∀ (cdv : Value) (A : Around) (outer : List Env) (s : Shared) (H : Hp) (E : XK) (g : G) (ds : List D) (R : D → Prop), Rm k (cxOf CX0 P w K mg base N qual (defScope st) f cdv A outer s H E).nox → g.K = K → ds.length = n → W ds R →
      DSs (cxOf CX0 P w K mg base N qual (defScope st) f cdv A outer s H E).nox g (defBody st) (startS N (ds.map S.d)) (endR R)) : GOk P w K mg base CX0 (k + 1) f fd ps (spD K n W) := by
  refine gok F Sc (fun vs H Q E h => by rw [hn]; exact h.1) (fun cdv A outer s H vs Q E hr hg h => ?_)
  obtain ⟨hl, B, ds, R, i, d, hW, q⟩ := h
  refine ⟨_, PSs.nox ssW, (body cdv A outer s H E ⟨K, B, H, none⟩ ds R ⟨hr, hg, sm⟩ rfl (by rw [← d.len]; exact hl) hW).go _ B H _ (rel0 i d N) ⟨?_, ?_, ?_, ?_, ?_⟩⟩
  · exact fun σ ρ B' H' _ r hR => q .non .non B' H' r.hp.grow0 rfl hR
  · exact fun v d B' H' _ r dd hR => q v d B' H' r.grow0 dd hR
  · exact fun p vs ds B' H' _ r hb h0 hp dd hR => q _ (.lst ds) (upd B' p (.lst vs)) H' (r.grow0.freeze hp hb h0) ⟨p, vs, rfl, upd_same, dd.up (Ex.up hb)⟩ hR
  · exact fun _ _ _ _ _ _ z => z.elim
  · exact fun _ _ _ _ _ _ z => z.elim
theorem fnN {W : WtN} (sm : True) (F : Fun K x qual st f fd) (Sc : FnScope N ps (defScope st)) (hn : ps.length = n)
    (body : ∀ (cdv : Value) (A : Around) (outer : List Env) (s : Shared) (H : Hp) (E : XK) (g : G) (ds : List D) (R : List D → Prop), Rm k (cxOf CX0 P w K mg base N qual (defScope st) f cdv A outer s H E).nox → g.K = K → ds.length = n → W ds R →
      DSs (cxOf CX0 P w K mg base N qual (defScope st) f cdv A outer s H E).nox g (defBody st) (startS N (ds.map S.d)) (endN R)) : GOk P w K mg base CX0 (k + 1) f fd ps (spN K n W) := by
  refine gok F Sc (fun vs H Q E h => by rw [hn]; exact h.1) (fun cdv A outer s H vs Q E hr hg h => ?_)
  obtain ⟨hl, B, ds, R, i, d, hW, q⟩ := h
  refine ⟨_, PSs.nox ssW, (body cdv A outer s H E ⟨K, B, H, none⟩ ds R ⟨hr, hg, sm⟩ rfl (by rw [← d.len]; exact hl) hW).go _ B H _ (rel0 i d N) ⟨?_, ?_, ?_, ?_, ?_⟩⟩
  · exact fun _ _ _ _ _ _ z => z.elim
  · exact fun _ _ _ _ _ _ _ z => z.elim
  · exact fun p vs ds B' H' _ r hb h0 hp dd hR => q p vs ds B' H' r.grow0 h0 hb hp dd hR
  · exact fun _ _ _ _ _ _ z => z.elim
  · exact fun _ _ _ _ _ _ z => z.elim
theorem Hps.growF {B H B' H' : Hp} {p : Addr} (r : Hps ⟨K, B, H, some p⟩ B' H') : GrowF p B H B' H' :=
  ⟨r.b0, fun a o n e => r.h0 a o (fun z => n (Option.some.inj z).symm) e, (r.fd p rfl).1, r.i, r.nw⟩
theorem GrowF.freeze {B H B' H' : Hp} {p q : Addr} {o : HO} (g : GrowF p B H B' H') (h : H' q = some o) (hb : B' q = none) (h0 : H q = none) : GrowF p B H (upd B' q o) H' := by
  refine ⟨g.b.tr (Ex.up hb), g.h, g.f, fun a u e => ?_, fun a n e => ?_⟩
  · by_cases c : a = q
    · subst c; rw [upd_same] at e; cases e; exact h
    · rw [upd_ne c] at e; exact g.i _ _ e
  · rw [upd_ne (fun z => n (by rw [z]; exact h0))]
    exact g.n a n e
theorem relF {B H : Hp} {ds : List D} {vs : List V} {p : Addr} (i : Ex B H) (hf : FeedAt H p) (hb : B p = none) (d : DRs K B ds vs) (N : List Str) : Rel ⟨K, B, H, some p⟩ B H (start N (.ref p :: vs)) (startS N (.fd p :: ds.map S.d)) := by
  refine ⟨⟨i, Ex.rfl', fun a o _ e => e, fun a _ e => e, fun q e => ?_⟩, ?_, fun i s e => ?_, ?_⟩
  · have e : p = q := Option.some.inj e
    subst e
    exact ⟨hf, hb⟩
  · simp [L2.start, startS, d.len]
  · cases i with
    | zero =>
      have e : S.fd p = s := Option.some.inj e
      subst e
      exact ⟨rfl, hb, .inr rfl, hf⟩
    | succ i =>
      unfold L2.start
      have h := DRs.slots (g := ⟨K, B, H, some p⟩) (B := B) (H := H) (n := N.length - (ds.length + 1)) (m := N.length - (vs.length + 1)) d (by rw [d.len]) i s (by simpa [startS] using e)
      simpa using h
  · unfold startS
    show (p :: ads (ds.map S.d ++ List.replicate (N.length - (S.fd p :: ds.map S.d).length) .un)).Nodup
    rw [ads_ds]
    simp
theorem fnF {W : Wt} (sm : True) (F : Fun K x qual st f fd) (Sc : FnScope N ps (defScope st)) (hn : ps.length = n + 1)
    (body : ∀ (cdv : Value) (A : Around) (outer : List Env) (s : Shared) (H : Hp) (E : XK) (g : G) (p : Addr) (ds : List D) (R : D → Prop), Rm k (cxOf CX0 P w K mg base N qual (defScope st) f cdv A outer s H E).nox → g.K = K → ds.length = n → W ds R →
      DSs (cxOf CX0 P w K mg base N qual (defScope st) f cdv A outer s H E).nox g (defBody st) (startS N (.fd p :: ds.map S.d)) (endR R)) : GOk P w K mg base CX0 (k + 1) f fd ps (spF K n W) := by
  refine gok F Sc (fun vs H Q E h => by rw [hn]; exact h.1) (fun cdv A outer s H vs Q E hr hg h => ?_)
  obtain ⟨hl, p, us, B, ds, R, rfl, i, hf, hb, d, hW, q⟩ := h
  refine ⟨_, PSs.nox ssW, (body cdv A outer s H E ⟨K, B, H, some p⟩ p ds R ⟨hr, hg, sm⟩ rfl (by rw [← d.len]; simpa using hl) hW).go _ B H _ (relF i hf hb d N) ⟨?_, ?_, ?_, ?_, ?_⟩⟩
  · exact fun σ ρ B' H' _ r hR => q .non .non B' H' r.hp.growF rfl hR
  · exact fun v d B' H' _ r dd hR => q v d B' H' r.growF dd hR
  · exact fun p vs ds B' H' _ r hb h0 hp dd hR => q _ (.lst ds) (upd B' p (.lst vs)) H' (r.growF.freeze hp hb h0) ⟨p, vs, rfl, upd_same, dd.up (Ex.up hb)⟩ hR
  · exact fun _ _ _ _ _ _ z => z.elim
  · exact fun _ _ _ _ _ _ z => z.elim
theorem fnFN {W : WtN} (sm : True) (F : Fun K x qual st f fd) (Sc : FnScope N ps (defScope st)) (hn : ps.length = n + 1)
    (body : ∀ (cdv : Value) (A : Around) (outer : List Env) (s : Shared) (H : Hp) (E : XK) (g : G) (p : Addr) (ds : List D) (R : List D → Prop), Rm k (cxOf CX0 P w K mg base N qual (defScope st) f cdv A outer s H E).nox → g.K = K → ds.length = n → W ds R →
      DSs (cxOf CX0 P w K mg base N qual (defScope st) f cdv A outer s H E).nox g (defBody st) (startS N (.fd p :: ds.map S.d)) (endN R)) : GOk P w K mg base CX0 (k + 1) f fd ps (spFN K n W) := by
  refine gok F Sc (fun vs H Q E h => by rw [hn]; exact h.1) (fun cdv A outer s H vs Q E hr hg h => ?_)
  obtain ⟨hl, p, us, B, ds, R, rfl, i, hf, hb, d, hW, q⟩ := h
  refine ⟨_, PSs.nox ssW, (body cdv A outer s H E ⟨K, B, H, some p⟩ p ds R ⟨hr, hg, sm⟩ rfl (by rw [← d.len]; simpa using hl) hW).go _ B H _ (relF i hf hb d N) ⟨?_, ?_, ?_, ?_, ?_⟩⟩
  · exact fun _ _ _ _ _ _ z => z.elim
  · exact fun _ _ _ _ _ _ _ z => z.elim
  · exact fun p vs ds B' H' _ r hb h0 hp dd hR => q p vs ds B' H' r.growF h0 hb hp dd hR
  · exact fun _ _ _ _ _ _ z => z.elim
  · exact fun _ _ _ _ _ _ z => z.elim
end

/-- the def called x keeps the promise -/
structure Df (P : Program) (w : World) (K : PySem.W.Frag) (mg : Str → Option Value) (base : Heap) (k : Nat) (x : Str) (ps : List Str) (sp : Sp) : Prop where
  ex : ∃ f fd, mg x = some (.ref f) ∧ PySem.W.keepIn K (.ref f) = true ∧ Binds K fd ps [] ∧ GOk P w K mg base CX0 k f fd ps sp
section
variable {X : Cx} {g : G} {ρ : List S} {x : Str} {p pos : Pos} {e : Expr} {es : List Expr} {k n : Nat} {ps : List Str} {R : D → Prop} {Rs : List D → Prop}
theorem de_call {W : Wt} (Fd : Df X.prog X.w X.K X.mg X.base k x ps (spD X.K n W)) (hr : Rm k X) (hK : X.K = g.K) (h : DA X g (e :: es) ρ fun ds => ds.length = n ∧ W ds R) (hg : Gl X x := by rfl) (hdb : (x == ("__debug__" : Str)) = false := by decide)
    (he : starEach (e :: es) X.env = (false, eval e X.env) :: starEach es X.env := by rfl) (hpl : (backTo pos (starEach es X.env)).any (·.1) = false := by rfl) : DE X g (.Call (.Name x p) (e :: es) [] pos) ρ R := .mk fun σ B H Q rl k => by
  obtain ⟨f, fd, h1, h2, h3, h4⟩ := Fd.ex
  refine (pe_callG h4 hr hg h1 h2 h3 pass0 aW hdb he hpl).w (h.go σ B H _ rl fun vs ds B1 H1 e1 r1 dx ⟨hl, hW⟩ => ?_)
  exact ⟨by rw [dx.len]; exact hl, B1, ds, R, r1.hp.i, by rw [hK]; exact dx, hW, fun v d B' H' gr dd hR => k v d B' H' (e1.tr gr.b) (r1.grow gr) (by rw [← hK]; exact dd) hR⟩
theorem dn_call {W : WtN} (Fd : Df X.prog X.w X.K X.mg X.base k x ps (spN X.K n W)) (hr : Rm k X) (hK : X.K = g.K) (h : DA X g (e :: es) ρ fun ds => ds.length = n ∧ W ds Rs) (hg : Gl X x := by rfl) (hdb : (x == ("__debug__" : Str)) = false := by decide)
    (he : starEach (e :: es) X.env = (false, eval e X.env) :: starEach es X.env := by rfl) (hpl : (backTo pos (starEach es X.env)).any (·.1) = false := by rfl) : DN X g (.Call (.Name x p) (e :: es) [] pos) ρ Rs := .mk fun σ B H Q rl k => by
  obtain ⟨f, fd, h1, h2, h3, h4⟩ := Fd.ex
  refine (pe_callG h4 hr hg h1 h2 h3 pass0 aW hdb he hpl).w (h.go σ B H _ rl fun vs ds B1 H1 e1 r1 dx ⟨hl, hW⟩ => ?_)
  exact ⟨by rw [dx.len]; exact hl, B1, ds, Rs, r1.hp.i, by rw [hK]; exact dx, hW, fun p vs ds B' H' gr hp hb h5 dd hR => k p vs ds B' H' (e1.tr gr.b) (r1.grow gr) hb (r1.hp.fresh hp).1 (r1.fresh hp) (r1.hp.fresh hp).2 h5 (by rw [← hK]; exact dd) hR⟩
/-- f(feed, ..) -/
theorem de_callF {W : Wt} (i : Nat) {q : Addr} {y : Str} {py : Pos} (Fd : Df X.prog X.w X.K X.mg X.base k x ps (spF X.K n W)) (hr : Rm k X) (hK : X.K = g.K) (hs : ρ[i]? = some (.fd q)) (h : DA X g es ρ fun ds => ds.length = n ∧ W ds R) (hN : X.N[i]? = some y := by rfl)
    (hv : Vis X.env.scope y := by first | exact Or.inl rfl | exact Or.inr (Or.inl rfl) | exact Or.inr (Or.inr rfl)) (hd : (y == ("__debug__" : Str)) = false := by decide) (hcd : (y == ("__classdict__" : Str)) = false := by decide) (hg : Gl X x := by rfl) (hdb : (x == ("__debug__" : Str)) = false := by decide)
    (he : starEach (.Name y py :: es) X.env = (false, eval (.Name y py) X.env) :: starEach es X.env := by rfl) (hpl : (backTo pos (starEach es X.env)).any (·.1) = false := by rfl) : DE X g (.Call (.Name x p) (.Name y py :: es) [] pos) ρ R := .mk fun σ B H Q rl k => by
  obtain ⟨f, fd, h1, h2, h3, h4⟩ := Fd.ex
  refine (pe_callG h4 hr hg h1 h2 h3 pass0 (pa_cons (pe_var hN hv hd hcd) aW he) hdb he hpl).w ?_
  obtain ⟨s1, _⟩ := rl.sl i _ hs
  refine ⟨_, s1, h.go σ B H _ rl fun vs ds B1 H1 e1 r1 dx ⟨hl, hW⟩ => ?_⟩
  obtain ⟨_, s2, s3, s4⟩ := r1.sl i _ hs
  exact ⟨by rw [List.length_cons, dx.len, hl], q, vs, B1, ds, R, rfl, r1.hp.i, s4, s2, by rw [hK]; exact dx, hW, fun v d B' H' gr dd hR => k v d B' H' (e1.tr gr.b) (r1.growF hs gr) (by rw [← hK]; exact dd) hR⟩
theorem dn_callF {W : WtN} (i : Nat) {q : Addr} {y : Str} {py : Pos} (Fd : Df X.prog X.w X.K X.mg X.base k x ps (spFN X.K n W)) (hr : Rm k X) (hK : X.K = g.K) (hs : ρ[i]? = some (.fd q)) (h : DA X g es ρ fun ds => ds.length = n ∧ W ds Rs) (hN : X.N[i]? = some y := by rfl)
    (hv : Vis X.env.scope y := by first | exact Or.inl rfl | exact Or.inr (Or.inl rfl) | exact Or.inr (Or.inr rfl)) (hd : (y == ("__debug__" : Str)) = false := by decide) (hcd : (y == ("__classdict__" : Str)) = false := by decide) (hg : Gl X x := by rfl) (hdb : (x == ("__debug__" : Str)) = false := by decide)
    (he : starEach (.Name y py :: es) X.env = (false, eval (.Name y py) X.env) :: starEach es X.env := by rfl) (hpl : (backTo pos (starEach es X.env)).any (·.1) = false := by rfl) : DN X g (.Call (.Name x p) (.Name y py :: es) [] pos) ρ Rs := .mk fun σ B H Q rl k => by
  obtain ⟨f, fd, h1, h2, h3, h4⟩ := Fd.ex
  refine (pe_callG h4 hr hg h1 h2 h3 pass0 (pa_cons (pe_var hN hv hd hcd) aW he) hdb he hpl).w ?_
  obtain ⟨s1, _⟩ := rl.sl i _ hs
  refine ⟨_, s1, h.go σ B H _ rl fun vs ds B1 H1 e1 r1 dx ⟨hl, hW⟩ => ?_⟩
  obtain ⟨_, s2, s3, s4⟩ := r1.sl i _ hs
  refine ⟨by rw [List.length_cons, dx.len, hl], q, vs, B1, ds, Rs, rfl, r1.hp.i, s4, s2, by rw [hK]; exact dx, hW, fun p vs ds B' H' gr hp hb h5 dd hR => ?_⟩
  exact k p vs ds B' H' (e1.tr gr.b) (r1.growF hs gr) hb (r1.hp.fresh hp).1 (r1.fresh hp) (r1.hp.fresh hp).2 h5 (by rw [← hK]; exact dd) hR
end
end DL
set_option Elab.async false
set_option linter.all false
set_option autoImplicit false
set_option maxRecDepth 100000
set_option maxHeartbeats 400000
/-! Data: built-ins over trees -/
namespace DL
open PySem L2 PyProof.Rows

/-- the built-ins that a text leaves as they are -/
structure Bl (mg : Str → Option Value) : Prop where
  len : mg "len" = none
  list : mg "list" = none
  tuple : mg "tuple" = none
  abs : mg "abs" = none
  max : mg "max" = none
  min : mg "min" = none
  int : mg "int" = none
  bool : mg "bool" = none
  str : mg "str" = none
  dict : mg "dict" = none
  isi : mg "isinstance" = none
  range : mg "range" = none
  enum : mg "enumerate" = none
  sorted : mg "sorted" = none
  set : mg "set" = none
  repr : mg "repr" = none
  all : mg "all" = none
  any : mg "any" = none
  sum : mg "sum" = none
  zip : mg "zip" = none
  valueError : mg "ValueError" = none
theorem bt_len : bootBuiltins "len" = some (.builtin "len") := by decide +kernel
theorem bt_abs : bootBuiltins "abs" = some (.builtin "abs") := by decide +kernel
theorem bt_max : bootBuiltins "max" = some (.builtin "max") := by decide +kernel
theorem bt_min : bootBuiltins "min" = some (.builtin "min") := by decide +kernel
theorem bt_isi : bootBuiltins "isinstance" = some (.builtin "isinstance") := by decide +kernel
theorem bt_all : bootBuiltins "all" = some (.builtin "all") := by decide +kernel
theorem bt_any : bootBuiltins "any" = some (.builtin "any") := by decide +kernel
theorem bt_sum : bootBuiltins "sum" = some (.builtin "sum") := by decide +kernel
theorem bt_sorted : bootBuiltins "sorted" = some (.builtin "sorted") := by decide +kernel
theorem bt_int : bootBuiltins "int" = some (.type "int") := by decide +kernel
theorem bt_bool : bootBuiltins "bool" = some (.type "bool") := by decide +kernel
theorem bt_str : bootBuiltins "str" = some (.type "str") := by decide +kernel
theorem bt_list : bootBuiltins "list" = some (.type "list") := by decide +kernel
theorem bt_tuple : bootBuiltins "tuple" = some (.type "tuple") := by decide +kernel

section
variable {X : Cx} {g : G} {ρ : List S} {a b e : Expr} {p pos : Pos} {R : D → Prop} {Rs : List D → Prop} {Rb : Bool → Prop}
/-- a list of trees has as many things as the heap's -/
theorem de_len (bl : Bl X.mg) (hK : X.K = g.K) (h : DE X g a ρ fun d => (∃ xs, (d = .lst xs ∨ d = .tup xs) ∧ R (.int xs.length)) ∨ ∃ z, d = .str z ∧ z.length ≤ sizeLine ∧ R (.int z.length)) (hg : Gl X "len" := by rfl) (he : starEach [a] X.env = (false, eval a X.env) :: starEach [] X.env := by rfl) (hpl : (backTo pos (starEach [] X.env)).any (·.1) = false := by rfl) :
    DE X g (.Call (.Name "len" p) [a] [] pos) ρ R :=
  de_callB call_len bl.len bt_len (da_cons (de_mono h fun d h => da_nil fun B H vs Q i dd k => by
    obtain ⟨v, _, rfl, dv, rfl⟩ := dd
    rcases h with ⟨xs, rfl | rfl, hR⟩ | ⟨z, rfl, hz, hR⟩
    · obtain ⟨q, ws, rfl, h2, h3⟩ := dv
      exact ⟨_, xs.length, rfl, .inl ⟨ws, SqL.of (i _ _ h2), h3.len.symm⟩, k _ (.int _) B H (Grow.id i) rfl hR⟩
    · obtain ⟨q, ws, rfl, h2, h3⟩ := dv
      exact ⟨_, xs.length, rfl, .inr ⟨ws, by rw [hK]; exact i.sqt h2, h3.len.symm⟩, k _ (.int _) B H (Grow.id i) rfl hR⟩
    · cases (show v = _ from dv)
      exact ⟨_, z.length, rfl, ⟨hz, rfl⟩, k _ (.int _) B H (Grow.id i) rfl hR⟩) he) hg (by decide) (by decide) he hpl
theorem dn_list (bl : Bl X.mg) (hK : X.K = g.K) (h : DE X g a ρ fun d => ∃ xs, (d = .lst xs ∨ d = .tup xs) ∧ Rs xs) (hg : Gl X "list" := by rfl) (he : starEach [a] X.env = (false, eval a X.env) :: starEach [] X.env := by rfl) (hpl : (backTo pos (starEach [] X.env)).any (·.1) = false := by rfl) :
    DN X g (.Call (.Name "list" p) [a] [] pos) ρ Rs :=
  dn_callTy call_list_of bl.list bt_list (da_cons (de_mono h fun d h => da_nil fun B H vs Q i dd k => by
    obtain ⟨v, _, rfl, dv, rfl⟩ := dd
    obtain ⟨xs, rfl | rfl, hR⟩ := h
    · obtain ⟨q, ws, rfl, h2, h3⟩ := dv
      exact ⟨q, ws, rfl, .inl (SqL.of (i _ _ h2)), fun l hl => k l ws xs B _ (Grow.out i hl) hl (i.none hl) upd_same h3 hR⟩
    · obtain ⟨q, ws, rfl, h2, h3⟩ := dv
      exact ⟨q, ws, rfl, .inr (by rw [hK]; exact i.sqt h2), fun l hl => k l ws xs B _ (Grow.out i hl) hl (i.none hl) upd_same h3 hR⟩) he) hg (by decide) (by decide) he hpl
theorem de_tuple (bl : Bl X.mg) (hK : X.K = g.K) (h : DE X g a ρ fun d => ∃ xs, (d = .lst xs ∨ d = .tup xs) ∧ R (.tup xs)) (hg : Gl X "tuple" := by rfl) (he : starEach [a] X.env = (false, eval a X.env) :: starEach [] X.env := by rfl) (hpl : (backTo pos (starEach [] X.env)).any (·.1) = false := by rfl) :
    DE X g (.Call (.Name "tuple" p) [a] [] pos) ρ R :=
  de_callTy call_tuple_of bl.tuple bt_tuple (da_cons (de_mono h fun d h => da_nil fun B H vs Q i dd k => by
    obtain ⟨v, _, rfl, dv, rfl⟩ := dd
    obtain ⟨xs, rfl | rfl, hR⟩ := h
    · obtain ⟨q, ws, rfl, h2, h3⟩ := dv
      refine ⟨q, ws, rfl, .inl ⟨SqL.of (i _ _ h2), fun l hl => ?_⟩⟩
      have gr := Grow.new (o := .tup ws) i hl
      exact k _ (.tup xs) _ _ gr ⟨l, ws, rfl, SqT.of upd_same, h3.up gr.b⟩ hR
    · obtain ⟨q, ws, rfl, h2, h3⟩ := dv
      exact ⟨q, ws, rfl, .inr ⟨by rw [hK]; exact i.sqt h2, k _ (.tup xs) B H (Grow.id i) ⟨q, ws, rfl, h2, h3⟩ hR⟩⟩) he) hg (by decide) (by decide) he hpl
theorem de_abs (bl : Bl X.mg) (h : DE X g a ρ fun d => ∃ i, d = .int i ∧ R (.int (if i < 0 then -i else i))) (hg : Gl X "abs" := by rfl) (he : starEach [a] X.env = (false, eval a X.env) :: starEach [] X.env := by rfl) (hpl : (backTo pos (starEach [] X.env)).any (·.1) = false := by rfl) :
    DE X g (.Call (.Name "abs" p) [a] [] pos) ρ R :=
  de_callB call_abs bl.abs bt_abs (da_cons (de_mono h fun d h => da_nil fun B H vs Q i dd k => by
    obtain ⟨v, _, rfl, dv, rfl⟩ := dd
    obtain ⟨j, rfl, hR⟩ := h
    cases (show v = _ from dv)
    exact ⟨j, rfl, k _ (.int _) B H (Grow.id i) rfl hR⟩) he) hg (by decide) (by decide) he hpl
theorem de_toint (bl : Bl X.mg) (h : DE X g a ρ fun d => (∃ i, d = .int i ∧ R (.int i)) ∨ ∃ c, d = .bl c ∧ R (.int (if c then 1 else 0))) (hg : Gl X "int" := by rfl) (he : starEach [a] X.env = (false, eval a X.env) :: starEach [] X.env := by rfl) (hpl : (backTo pos (starEach [] X.env)).any (·.1) = false := by rfl) :
    DE X g (.Call (.Name "int" p) [a] [] pos) ρ R :=
  de_callTy call_int1 bl.int bt_int (da_cons (de_mono h fun d h => da_nil fun B H vs Q i dd k => by
    obtain ⟨v, _, rfl, dv, rfl⟩ := dd
    rcases h with ⟨j, rfl, hR⟩ | ⟨c, rfl, hR⟩
    · cases (show v = _ from dv)
      exact .inl ⟨j, rfl, k _ (.int _) B H (Grow.id i) rfl hR⟩
    · cases (show v = _ from dv)
      exact .inr ⟨c, rfl, k _ (.int _) B H (Grow.id i) rfl hR⟩) he) hg (by decide) (by decide) he hpl
theorem de_max2 (bl : Bl X.mg) (hc : X.calm = true) (h : DE X g a ρ fun x => DE X g b ρ fun y => ∃ i j, x = .int i ∧ y = .int j ∧ R (.int (max i j))) (hg : Gl X "max" := by rfl) (he : starEach [a, b] X.env = (false, eval a X.env) :: starEach [b] X.env := by rfl) (he2 : starEach [b] X.env = (false, eval b X.env) :: starEach [] X.env := by rfl) (hpl : (backTo pos (starEach [b] X.env)).any (·.1) = false := by rfl) :
    DE X g (.Call (.Name "max" p) [a, b] [] pos) ρ R :=
  de_callB (call_max2 hc) bl.max bt_max (da_cons (de_mono h fun x h => da_cons (de_mono h fun y h => da_nil fun B H vs Q i dd k => by
    obtain ⟨v, _, rfl, dv, w, _, rfl, dw, rfl⟩ := dd
    obtain ⟨j, l, rfl, rfl, hR⟩ := h
    cases (show v = _ from dv)
    cases (show w = _ from dw)
    have e : (if l > j then l else j) = max j l := by split <;> omega
    refine ⟨j, l, rfl, ?_⟩
    rw [e]
    exact k _ (.int _) B H (Grow.id i) rfl hR) he2) he) hg (by decide) (by decide) he hpl
theorem de_min2 (bl : Bl X.mg) (hc : X.calm = true) (h : DE X g a ρ fun x => DE X g b ρ fun y => ∃ i j, x = .int i ∧ y = .int j ∧ R (.int (min i j))) (hg : Gl X "min" := by rfl) (he : starEach [a, b] X.env = (false, eval a X.env) :: starEach [b] X.env := by rfl) (he2 : starEach [b] X.env = (false, eval b X.env) :: starEach [] X.env := by rfl) (hpl : (backTo pos (starEach [b] X.env)).any (·.1) = false := by rfl) :
    DE X g (.Call (.Name "min" p) [a, b] [] pos) ρ R :=
  de_callB (call_min2 hc) bl.min bt_min (da_cons (de_mono h fun x h => da_cons (de_mono h fun y h => da_nil fun B H vs Q i dd k => by
    obtain ⟨v, _, rfl, dv, w, _, rfl, dw, rfl⟩ := dd
    obtain ⟨j, l, rfl, rfl, hR⟩ := h
    cases (show v = _ from dv)
    cases (show w = _ from dw)
    have e : (if l < j then l else j) = min j l := by split <;> omega
    refine ⟨j, l, rfl, ?_⟩
    rw [e]
    exact k _ (.int _) B H (Grow.id i) rfl hR) he2) he) hg (by decide) (by decide) he hpl
theorem de_all (bl : Bl X.mg) (hc : X.calm = true) (h : DE X g a ρ fun d => ∃ bs : List Bool, d = .lst (bs.map D.bl) ∧ R (.bl (bs.all id))) (hg : Gl X "all" := by rfl) (he : starEach [a] X.env = (false, eval a X.env) :: starEach [] X.env := by rfl) (hpl : (backTo pos (starEach [] X.env)).any (·.1) = false := by rfl) :
    DE X g (.Call (.Name "all" p) [a] [] pos) ρ R :=
  de_callB (cr_all hc) bl.all bt_all (da_cons (de_mono h fun d h => da_nil fun B H vs Q i dd k => by
    obtain ⟨v, _, rfl, dv, rfl⟩ := dd
    obtain ⟨bs, rfl, hR⟩ := h
    obtain ⟨q, ws, rfl, h2, h3⟩ := dv
    have e := DRs.bls h3
    subst e
    exact ⟨q, bs, rfl, SqL.of (i _ _ h2), k _ (.bl _) B H (Grow.id i) rfl hR⟩) he) hg (by decide) (by decide) he hpl

/-! joined -/
theorem dn_cat (h : DE X g a ρ fun x => DE X g b ρ fun y => ∃ xs ys, x = .lst xs ∧ y = .lst ys ∧ xs.length + ys.length ≤ sizeLine ∧ Rs (xs ++ ys)) : DN X g (.BinOp a .Add b pos) ρ Rs :=
  dn_bin op_cat (de_mono h fun x h => de_mono h fun y ⟨xs, ys, ex, ey, hl, hR⟩ => fun B H v w Q i dx dy k => by
    subst ex ey
    obtain ⟨p1, v1, rfl, h2, h3⟩ := dx
    obtain ⟨p2, v2, rfl, h5, h6⟩ := dy
    exact ⟨p1, p2, v1, v2, rfl, rfl, i _ _ h2, i _ _ h5, by rw [h3.len, h6.len]; exact hl, fun l hl => k l _ (xs ++ ys) B _ (Grow.out i hl) hl (i.none hl) upd_same (h3.app h6) hR⟩)
theorem de_catT (hK : X.K = g.K) (h : DE X g a ρ fun x => DE X g b ρ fun y => ∃ xs ys, x = .tup xs ∧ y = .tup ys ∧ xs.length + ys.length ≤ sizeLine ∧ R (.tup (xs ++ ys))) : DE X g (.BinOp a .Add b pos) ρ R :=
  de_bin op_catA (de_mono h fun x h => de_mono h fun y ⟨xs, ys, ex, ey, hl, hR⟩ => fun B H v w Q i dx dy k => by
    subst ex ey
    obtain ⟨p1, v1, rfl, h2, h3⟩ := dx
    obtain ⟨p2, v2, rfl, h5, h6⟩ := dy
    have all := h3.app h6
    refine ⟨p1, p2, v1, v2, rfl, rfl, by rw [hK]; exact i.sqt h2, by rw [hK]; exact i.sqt h5, by rw [h3.len, h6.len]; exact hl, fun z => ?_, fun z z2 => ?_, fun _ _ l hl => ?_⟩
    · subst z
      exact k _ (.tup (xs ++ ys)) B H (Grow.id i) ⟨p2, v2, rfl, h5, by simpa using all⟩ hR
    · subst z2
      exact k _ (.tup (xs ++ ys)) B H (Grow.id i) ⟨p1, v1, rfl, h2, by simpa using all⟩ hR
    · have gr := Grow.new (o := .tup (v1 ++ v2)) i hl
      exact k _ (.tup (xs ++ ys)) _ _ gr ⟨l, _, rfl, SqT.of upd_same, all.up gr.b⟩ hR)
theorem de_catS (h : DE X g a ρ fun x => DE X g b ρ fun y => ∃ s t, x = .str s ∧ y = .str t ∧ s.length + t.length ≤ sizeLine ∧ R (.str (s ++ t))) : DE X g (.BinOp a .Add b pos) ρ R :=
  de_bin op_add_str (de_mono h fun x h => de_mono h fun y ⟨xs, ys, ex, ey, hl, hR⟩ => fun B H v w Q i dx dy k => by
    subst ex ey
    cases (show v = _ from dx)
    cases (show w = _ from dy)
    exact ⟨xs, ys, rfl, rfl, hl, k _ (.str _) B H (Grow.id i) rfl hR⟩)
theorem dn_rep (h : DE X g a ρ fun x => DE X g b ρ fun y => ∃ xs n, x = .lst xs ∧ y = .int n ∧ (-(2 ^ 63) ≤ n ∧ n < 2 ^ 63) ∧ xs.length * n.toNat ≤ sizeLine ∧ Rs (List.replicate n.toNat xs).flatten) : DN X g (.BinOp a .Mult b pos) ρ Rs :=
  dn_bin op_rep (de_mono h fun x h => de_mono h fun y ⟨xs, n, ex, ey, hn, hl, hR⟩ => fun B H v w Q i dx dy k => by
    subst ex ey
    obtain ⟨p1, v1, rfl, h2, h3⟩ := dx
    cases (show w = _ from dy)
    have rp : ∀ m : Nat, DRs g.K B (List.replicate m xs).flatten (List.replicate m v1).flatten := fun m => by
      induction m with
      | zero => rfl
      | succ m ih => rw [List.replicate_succ, List.replicate_succ, List.flatten_cons, List.flatten_cons]; exact h3.app ih
    exact ⟨p1, n, v1, rfl, rfl, i _ _ h2, hn.1, hn.2, by rw [h3.len]; exact hl, fun l hl => k l _ _ B _ (Grow.out i hl) hl (i.none hl) upd_same (rp _) hR⟩)

/-! in -/
theorem inV_ints (i : Int) (ns : List Int) : inV (.int i) (ns.map V.int) = decide (i ∈ ns) := by
  unfold inV
  rw [List.any_map, Bool.eq_iff_iff, List.any_eq_true, decide_eq_true_eq]
  constructor
  · rintro ⟨x, hx, e⟩
    have e' : (x == i) = true := e
    rw [beq_iff_eq] at e'
    subst e'; exact hx
  · intro h
    exact ⟨i, h, show (i == i) = true from beq_self_eq_true i⟩
theorem inV_strs (i : Str) (ns : List Str) : inV (.str i) (ns.map V.str) = decide (i ∈ ns) := by
  unfold inV
  rw [List.any_map, Bool.eq_iff_iff, List.any_eq_true, decide_eq_true_eq]
  constructor
  · rintro ⟨x, hx, e⟩
    have e' : (x == i) = true := e
    rw [beq_iff_eq] at e'
    subst e'; exact hx
  · intro h
    exact ⟨i, h, show (i == i) = true from beq_self_eq_true i⟩
theorem flat_ints (ns : List Int) : (ns.map V.int).all flatV = true := by
  rw [List.all_map]; exact List.all_eq_true.mpr fun _ _ => rfl
theorem flat_strs' (ns : List Str) : (ns.map V.str).all flatV = true := by
  rw [List.all_map]; exact List.all_eq_true.mpr fun _ _ => rfl
/-- what stands in a list or tuple of ints, of texts -/
def InOk (x y : D) (c : Bool) : Prop := (∃ (i : Int) (ns : List Int), x = .int i ∧ (y = .lst (ns.map D.int) ∨ y = .tup (ns.map D.int)) ∧ c = decide (i ∈ ns)) ∨ ∃ (i : Str) (ns : List Str), x = .str i ∧ (y = .lst (ns.map D.str) ∨ y = .tup (ns.map D.str)) ∧ c = decide (i ∈ ns)
theorem InOk.go {g : G} {x y : D} {c neg : Bool} (h : InOk x y c) {B H : Hp} {v w : V} {Q : VK} (i : Ex B H) (dx : DR g.K B x v) (dy : DR g.K B y w) (q : Q (.bl (if neg then !c else c)) H) : rIn g.K neg v w H Q := by
  rcases h with ⟨n, ns, rfl, hy, rfl⟩ | ⟨n, ns, rfl, hy, rfl⟩
  · cases (show v = _ from dx)
    have : ∃ p, w = .ref p ∧ (SqL g.K H p (ns.map V.int) ∨ SqT g.K H p (ns.map V.int)) := by
      rcases hy with rfl | rfl
      · obtain ⟨p, ws, rfl, h2, h3⟩ := dy
        have e := DRs.ints h3
        subst e
        exact ⟨p, rfl, .inl (SqL.of (i _ _ h2))⟩
      · obtain ⟨p, ws, rfl, h2, h3⟩ := dy
        have e := DRs.ints h3
        subst e
        exact ⟨p, rfl, .inr (i.sqt h2)⟩
    obtain ⟨p, rfl, h⟩ := this
    exact ⟨p, _, rfl, h, rfl, flat_ints ns, by rw [inV_ints]; exact q⟩
  · cases (show v = _ from dx)
    have : ∃ p, w = .ref p ∧ (SqL g.K H p (ns.map V.str) ∨ SqT g.K H p (ns.map V.str)) := by
      rcases hy with rfl | rfl
      · obtain ⟨p, ws, rfl, h2, h3⟩ := dy
        have e := DRs.strs h3
        subst e
        exact ⟨p, rfl, .inl (SqL.of (i _ _ h2))⟩
      · obtain ⟨p, ws, rfl, h2, h3⟩ := dy
        have e := DRs.strs h3
        subst e
        exact ⟨p, rfl, .inr (i.sqt h2)⟩
    obtain ⟨p, rfl, h⟩ := this
    exact ⟨p, _, rfl, h, rfl, flat_strs' ns, by rw [inV_strs]; exact q⟩
theorem de_in (hK : X.K = g.K) (h : DE X g a ρ fun x => DE X g b ρ fun y => ∃ c, InOk x y c ∧ R (.bl c)) (hm : behindInMarks .In b = false := by rfl) : DE X g (.Compare a [.In] [b] pos) ρ R :=
  de_cmp op_in_seq hm (de_mono h fun x h => de_mono h fun y ⟨c, hi, hR⟩ => fun B H v w Q i dx dy k => by rw [hK]; exact hi.go (neg := false) i dx dy (k _ (.bl c) B H (Grow.id i) rfl hR))
theorem de_notin (hK : X.K = g.K) (h : DE X g a ρ fun x => DE X g b ρ fun y => ∃ c, InOk x y c ∧ R (.bl (!c))) (hm : behindInMarks .NotIn b = false := by rfl) : DE X g (.Compare a [.NotIn] [b] pos) ρ R :=
  de_cmp op_notIn_seq hm (de_mono h fun x h => de_mono h fun y ⟨c, hi, hR⟩ => fun B H v w Q i dx dy k => by rw [hK]; exact hi.go (neg := true) i dx dy (k _ (.bl (!c)) B H (Grow.id i) rfl hR))

/-! isinstance of a built-in class -/
def D.tn : D → String
  | .non => "NoneType" | .bl _ => "bool" | .int _ => "int" | .str _ => "str" | .lst _ => "list" | .tup _ => "tuple" | .dic _ => "dict" | .obj _ _ => "" | .ty _ => "" | .cref _ => ""
/-- K says of an own class what isinstance asks -/
structure ObjTy (K : PySem.W.Frag) (C : Addr) : Prop where
  cls : Cls K C
  attr : PySem.W.findIn K (.ref C) "__class__" = some (some (.builtin "object.__class__"))
  get : PySem.W.specialIn K (.builtin "object.__class__") "__get__" = some (some (.builtin "getset_descriptor.__get__"))
  takes : PySem.W.takesIn K (.builtin "object.__class__") = some true
  mro : PySem.W.mroIn K C (.type "object") = some true
theorem ty_of {K : PySem.W.Frag} {H : Hp} {d : D} {v : V} (h : DR K H d v) (hn : d.tn ≠ "") : TyX K H v (.type d.tn) := by
  cases d with
  | non => cases (show v = _ from h); exact .base .non
  | bl _ => cases (show v = _ from h); exact .base (.bl _)
  | int _ => cases (show v = _ from h); exact .base (.int _)
  | str _ => cases (show v = _ from h); exact .base (.str _)
  | lst _ => obtain ⟨a, xs, rfl, h2, _⟩ := h; exact .base (.lst h2)
  | tup _ =>
    obtain ⟨a, xs, rfl, h2, _⟩ := h
    rcases h2 with (h2 | ⟨o, h2⟩) | ⟨o, its, n, hk, hc, _⟩
    · exact .base (.tup h2)
    · exact .fTuple h2
    · exact .kTuple hk hc
  | dic _ => obtain ⟨a, xs, rfl, h2, _⟩ := h; exact .base (.dK h2)
  | obj _ _ => exact absurd rfl hn
  | ty _ => exact absurd rfl hn
  | cref _ => exact absurd rfl hn
/-- isinstance(x, T), T a built-in class -/
theorem de_isi {T : Str} {q : Pos} {n : String} (bl : Bl X.mg) (hT : X.mg T = none) (hTb : bootBuiltins T = some (.type n)) (h : DE X g a ρ fun d => ∃ c, (d.tn ≠ "" ∧ kitB d.tn n = some c ∨ ∃ C fs, d = .obj C fs ∧ ObjTy X.K C ∧ PySem.W.kitOne X.K (.ref C) (.type n) = some c) ∧ R (.bl c)) (hK : X.K = g.K)
    (hg : Gl X "isinstance" := by rfl) (hgT : Gl X T := by rfl) (hTn : T ≠ "__name__" := by decide) (hTd : (T == ("__debug__" : Str)) = false := by decide)
    (he : starEach [a, .Name T q] X.env = (false, eval a X.env) :: starEach [.Name T q] X.env := by rfl) (he2 : starEach [.Name T q] X.env = (false, eval (.Name T q) X.env) :: starEach [] X.env := by rfl) (hpl : (backTo pos (starEach [.Name T q] X.env)).any (·.1) = false := by rfl) :
    DE X g (.Call (.Name "isinstance" p) [a, .Name T q] [] pos) ρ R := .mk fun σ B H Q rl k =>
  (pe_callB call_isi hg bl.isi bt_isi (pa_cons pW (pa_cons (pe_bltn (v := .ty n) hgT hT hTb rfl hTn hTd) pa_nil he2) he) (by decide) (by decide) he hpl).w (h.go σ B H _ rl fun v d B1 H1 e1 r1 dx ⟨c, hc, hR⟩ => by
    have fin : Q (.bl c) H1 := k _ (.bl c) B1 H1 e1 r1 rfl hR
    have dx' := dx.up r1.hp.i
    rcases hc with ⟨hn, hk⟩ | ⟨C, fs, rfl, ho, hk⟩
    · exact ⟨v, .ty n, .type d.tn, .type n, c, rfl, .ty n, by rw [hK]; exact ty_of dx' hn, kit_ty hk, fin⟩
    · obtain ⟨q, dx2, xs, rfl, h2, _⟩ := dx'
      exact ⟨_, .ty n, .ref C, .type n, c, rfl, .ty n, .base (.ins h2 ho.cls ho.attr ho.get ho.takes ho.mro), hk, fin⟩)
/-- isinstance(x, C), C an own class -/
theorem de_isiC {T : Str} {q : Pos} {C : Addr} (bl : Bl X.mg) (hT : X.mg T = some (.ref C)) (h : DE X g a ρ fun d => ∃ c, (d.tn ≠ "" ∧ PySem.W.kitOne X.K (.type d.tn) (.ref C) = some c ∨ ∃ C' fs, d = .obj C' fs ∧ ObjTy X.K C' ∧ PySem.W.kitOne X.K (.ref C') (.ref C) = some c) ∧ R (.bl c)) (hK : X.K = g.K)
    (hg : Gl X "isinstance" := by rfl) (hgT : Gl X T := by rfl) (hTd : (T == ("__debug__" : Str)) = false := by decide)
    (he : starEach [a, .Name T q] X.env = (false, eval a X.env) :: starEach [.Name T q] X.env := by rfl) (he2 : starEach [.Name T q] X.env = (false, eval (.Name T q) X.env) :: starEach [] X.env := by rfl) (hpl : (backTo pos (starEach [.Name T q] X.env)).any (·.1) = false := by rfl) :
    DE X g (.Call (.Name "isinstance" p) [a, .Name T q] [] pos) ρ R := .mk fun σ B H Q rl k =>
  (pe_callB call_isi hg bl.isi bt_isi (pa_cons pW (pa_cons (pe_glob (v := .ref C) hgT hT rfl hTd) pa_nil he2) he) (by decide) (by decide) he hpl).w (h.go σ B H _ rl fun v d B1 H1 e1 r1 dx ⟨c, hc, hR⟩ => by
    have fin : Q (.bl c) H1 := k _ (.bl c) B1 H1 e1 r1 rfl hR
    have dx' := dx.up r1.hp.i
    rcases hc with ⟨hn, hk⟩ | ⟨C', fs, rfl, ho, hk⟩
    · exact ⟨v, .ref C, .type d.tn, .ref C, c, rfl, .own C, by rw [hK]; exact ty_of dx' hn, hk, fin⟩
    · obtain ⟨q, dx2, xs, rfl, h2, _⟩ := dx'
      exact ⟨_, .ref C, .ref C', .ref C, c, rfl, .own C, .base (.ins h2 ho.cls ho.attr ho.get ho.takes ho.mro), hk, fin⟩)
/-- a < b < c: the reading -/
theorem chain_go {r r' : R2} {c : Expr} (h : DE X g a ρ fun x => DE X g b ρ fun y => OD g r x y fun z => ∃ t, z = .bl t ∧ if t = true then DE X g c ρ fun w => OD g r' y w R else R (.bl false)) {σ : L2.St} {B H : Hp} {Q : VK} (rl : Rel g B H σ ρ)
    (k : ∀ v d B' H', Ex B B' → Rel g B' H' σ ρ → DR g.K B' d v → R d → Q v H') : tChain r r' (WE X a) (WE X b) (WE X c) σ H Q := by
  refine h.go σ B H _ rl fun v x B1 H1 e1 r1 dx hx => hx.go σ B1 H1 _ r1 fun w y B2 H2 e2 r2 dy hy => hy B2 H2 v w _ r2.hp.i (dx.up e2) dy fun z d B3 H3 gr dz ⟨t, ed, hR⟩ => ?_
  subst ed
  refine ⟨t, dz, ?_⟩
  cases t with
  | false => exact k _ (.bl false) B3 H3 (e1.tr (e2.tr gr.b)) (r2.grow gr) rfl hR
  | true => exact hR.go σ B3 H3 _ (r2.grow gr) fun u f B4 H4 e4 r4 df hf => hf B4 H4 w u Q r4.hp.i (dy.up (gr.b.tr e4)) df fun z d B5 H5 gr5 dz hR => k z d B5 H5 (e1.tr (e2.tr (gr.b.tr (e4.tr gr5.b)))) (r4.grow gr5) dz hR
theorem de_chain {op op' : CmpOp} {r r' : R2} {c : Expr} (ho : OpR X (compareOp op) r) (ho' : OpR X (compareOp op') r') (h : DE X g a ρ fun x => DE X g b ρ fun y => OD g r x y fun z => ∃ t, z = .bl t ∧ if t = true then DE X g c ρ fun w => OD g r' y w R else R (.bl false))
    (hm : lastMarks [op, op'] [b, c] = false := by with_unfolding_all rfl) : DE X g (.Compare a [op, op'] [b, c] pos) ρ R := .mk fun σ B H Q rl k => (pe_chain ho ho' pW pW pW hm).w (chain_go h rl k)
theorem dt_chain {op op' : CmpOp} {r r' : R2} {c : Expr} (ho : OpR X (compareOp op) r) (ho' : OpR X (compareOp op') r') (h : DE X g a ρ fun x => DE X g b ρ fun y => OD g r x y fun z => ∃ t, z = .bl t ∧ if t = true then DE X g c ρ fun w => OD g r' y w fun u => ∃ t, u = .bl t ∧ Rb t else ∃ t, D.bl false = .bl t ∧ Rb t)
    (hm : lastMarks [op, op'] [b, c] = false := by with_unfolding_all rfl) : DT X g (.Compare a [op, op'] [b, c] pos) ρ Rb := .mk fun σ B H Q rl k => (pt_chain ho ho' pW pW pW hm).w (chain_go (R := fun u => ∃ t, u = .bl t ∧ Rb t) h rl fun v d B' H' e r dd ⟨t, ed, hR⟩ => by
    subst ed
    exact ⟨t, dd, k t B' H' e r hR⟩)
theorem od_eqI {x y : D} (h : ∃ i j : Int, x = .int i ∧ y = .int j ∧ R (.bl (decide (i = j)))) : OD g rEq x y R := fun B H v w Q e dx dy k => by
  obtain ⟨i, j, rfl, rfl, hR⟩ := h
  cases (show v = V.int i from dx)
  cases (show w = V.int j from dy)
  have e2 : decide (V.int i = V.int j) = decide (i = j) := by rw [Bool.eq_iff_iff, decide_eq_true_eq, decide_eq_true_eq]; exact ⟨fun h => by cases h; rfl, fun h => by rw [h]⟩
  refine ⟨rfl, ?_⟩
  rw [e2]
  exact k _ (.bl _) B H (Grow.id e) rfl hR
theorem od_neI {x y : D} (h : ∃ i j : Int, x = .int i ∧ y = .int j ∧ R (.bl (!decide (i = j)))) : OD g rNe x y R := fun B H v w Q e dx dy k => by
  obtain ⟨i, j, rfl, rfl, hR⟩ := h
  cases (show v = V.int i from dx)
  cases (show w = V.int j from dy)
  have e2 : decide (V.int i = V.int j) = decide (i = j) := by rw [Bool.eq_iff_iff, decide_eq_true_eq, decide_eq_true_eq]; exact ⟨fun h => by cases h; rfl, fun h => by rw [h]⟩
  refine ⟨rfl, ?_⟩
  rw [e2]
  exact k _ (.bl _) B H (Grow.id e) rfl hR
theorem de_eqI (h : DE X g a ρ fun x => DE X g b ρ fun y => ∃ i j : Int, x = .int i ∧ y = .int j ∧ R (.bl (decide (i = j)))) : DE X g (.Compare a [.Eq] [b] pos) ρ R := de_cmp op_eq (nomark _) (de_mono h fun _ h => de_mono h fun _ h => od_eqI h)
theorem de_neI (h : DE X g a ρ fun x => DE X g b ρ fun y => ∃ i j : Int, x = .int i ∧ y = .int j ∧ R (.bl (!decide (i = j)))) : DE X g (.Compare a [.NotEq] [b] pos) ρ R := de_cmp op_ne (nomark _) (de_mono h fun _ h => de_mono h fun _ h => od_neI h)
theorem dt_eqI (h : DE X g a ρ fun x => DE X g b ρ fun y => ∃ i j : Int, x = .int i ∧ y = .int j ∧ Rb (decide (i = j))) : DT X g (.Compare a [.Eq] [b] pos) ρ Rb := dt_cmp op_eq (nomark _) (de_mono h fun _ h => de_mono h fun _ ⟨i, j, h1, h2, h3⟩ => od_eqI ⟨i, j, h1, h2, _, rfl, h3⟩)
theorem dt_neI (h : DE X g a ρ fun x => DE X g b ρ fun y => ∃ i j : Int, x = .int i ∧ y = .int j ∧ Rb (!decide (i = j))) : DT X g (.Compare a [.NotEq] [b] pos) ρ Rb := dt_cmp op_ne (nomark _) (de_mono h fun _ h => de_mono h fun _ ⟨i, j, h1, h2, h3⟩ => od_neI ⟨i, j, h1, h2, _, rfl, h3⟩)
theorem od_eqS {x y : D} (h : ∃ i j : Str, x = .str i ∧ y = .str j ∧ R (.bl (decide (i = j)))) : OD g rEq x y R := fun B H v w Q e dx dy k => by
  obtain ⟨i, j, rfl, rfl, hR⟩ := h
  cases (show v = V.str i from dx)
  cases (show w = V.str j from dy)
  have e2 : decide (V.str i = V.str j) = decide (i = j) := by rw [Bool.eq_iff_iff, decide_eq_true_eq, decide_eq_true_eq]; exact ⟨fun h => by cases h; rfl, fun h => by rw [h]⟩
  refine ⟨rfl, ?_⟩
  rw [e2]
  exact k _ (.bl _) B H (Grow.id e) rfl hR
theorem od_neS {x y : D} (h : ∃ i j : Str, x = .str i ∧ y = .str j ∧ R (.bl (!decide (i = j)))) : OD g rNe x y R := fun B H v w Q e dx dy k => by
  obtain ⟨i, j, rfl, rfl, hR⟩ := h
  cases (show v = V.str i from dx)
  cases (show w = V.str j from dy)
  have e2 : decide (V.str i = V.str j) = decide (i = j) := by rw [Bool.eq_iff_iff, decide_eq_true_eq, decide_eq_true_eq]; exact ⟨fun h => by cases h; rfl, fun h => by rw [h]⟩
  refine ⟨rfl, ?_⟩
  rw [e2]
  exact k _ (.bl _) B H (Grow.id e) rfl hR
theorem de_eqS (h : DE X g a ρ fun x => DE X g b ρ fun y => ∃ i j : Str, x = .str i ∧ y = .str j ∧ R (.bl (decide (i = j)))) : DE X g (.Compare a [.Eq] [b] pos) ρ R := de_cmp op_eq (nomark _) (de_mono h fun _ h => de_mono h fun _ h => od_eqS h)
theorem de_neS (h : DE X g a ρ fun x => DE X g b ρ fun y => ∃ i j : Str, x = .str i ∧ y = .str j ∧ R (.bl (!decide (i = j)))) : DE X g (.Compare a [.NotEq] [b] pos) ρ R := de_cmp op_ne (nomark _) (de_mono h fun _ h => de_mono h fun _ h => od_neS h)
theorem dt_eqS (h : DE X g a ρ fun x => DE X g b ρ fun y => ∃ i j : Str, x = .str i ∧ y = .str j ∧ Rb (decide (i = j))) : DT X g (.Compare a [.Eq] [b] pos) ρ Rb := dt_cmp op_eq (nomark _) (de_mono h fun _ h => de_mono h fun _ ⟨i, j, h1, h2, h3⟩ => od_eqS ⟨i, j, h1, h2, _, rfl, h3⟩)
theorem dt_neS (h : DE X g a ρ fun x => DE X g b ρ fun y => ∃ i j : Str, x = .str i ∧ y = .str j ∧ Rb (!decide (i = j))) : DT X g (.Compare a [.NotEq] [b] pos) ρ Rb := dt_cmp op_ne (nomark _) (de_mono h fun _ h => de_mono h fun _ ⟨i, j, h1, h2, h3⟩ => od_neS ⟨i, j, h1, h2, _, rfl, h3⟩)
theorem od_eqB {x y : D} (h : ∃ i j : Bool, x = .bl i ∧ y = .bl j ∧ R (.bl (decide (i = j)))) : OD g rEq x y R := fun B H v w Q e dx dy k => by
  obtain ⟨i, j, rfl, rfl, hR⟩ := h
  cases (show v = V.bl i from dx)
  cases (show w = V.bl j from dy)
  have e2 : decide (V.bl i = V.bl j) = decide (i = j) := by rw [Bool.eq_iff_iff, decide_eq_true_eq, decide_eq_true_eq]; exact ⟨fun h => by cases h; rfl, fun h => by rw [h]⟩
  refine ⟨rfl, ?_⟩
  rw [e2]
  exact k _ (.bl _) B H (Grow.id e) rfl hR
theorem od_neB {x y : D} (h : ∃ i j : Bool, x = .bl i ∧ y = .bl j ∧ R (.bl (!decide (i = j)))) : OD g rNe x y R := fun B H v w Q e dx dy k => by
  obtain ⟨i, j, rfl, rfl, hR⟩ := h
  cases (show v = V.bl i from dx)
  cases (show w = V.bl j from dy)
  have e2 : decide (V.bl i = V.bl j) = decide (i = j) := by rw [Bool.eq_iff_iff, decide_eq_true_eq, decide_eq_true_eq]; exact ⟨fun h => by cases h; rfl, fun h => by rw [h]⟩
  refine ⟨rfl, ?_⟩
  rw [e2]
  exact k _ (.bl _) B H (Grow.id e) rfl hR
theorem de_eqB (h : DE X g a ρ fun x => DE X g b ρ fun y => ∃ i j : Bool, x = .bl i ∧ y = .bl j ∧ R (.bl (decide (i = j)))) : DE X g (.Compare a [.Eq] [b] pos) ρ R := de_cmp op_eq (nomark _) (de_mono h fun _ h => de_mono h fun _ h => od_eqB h)
theorem de_neB (h : DE X g a ρ fun x => DE X g b ρ fun y => ∃ i j : Bool, x = .bl i ∧ y = .bl j ∧ R (.bl (!decide (i = j)))) : DE X g (.Compare a [.NotEq] [b] pos) ρ R := de_cmp op_ne (nomark _) (de_mono h fun _ h => de_mono h fun _ h => od_neB h)
theorem dt_eqB (h : DE X g a ρ fun x => DE X g b ρ fun y => ∃ i j : Bool, x = .bl i ∧ y = .bl j ∧ Rb (decide (i = j))) : DT X g (.Compare a [.Eq] [b] pos) ρ Rb := dt_cmp op_eq (nomark _) (de_mono h fun _ h => de_mono h fun _ ⟨i, j, h1, h2, h3⟩ => od_eqB ⟨i, j, h1, h2, _, rfl, h3⟩)
theorem dt_neB (h : DE X g a ρ fun x => DE X g b ρ fun y => ∃ i j : Bool, x = .bl i ∧ y = .bl j ∧ Rb (!decide (i = j))) : DT X g (.Compare a [.NotEq] [b] pos) ρ Rb := dt_cmp op_ne (nomark _) (de_mono h fun _ h => de_mono h fun _ ⟨i, j, h1, h2, h3⟩ => od_neB ⟨i, j, h1, h2, _, rfl, h3⟩)
end
end DL
set_option Elab.async false
set_option linter.all false
set_option autoImplicit false
set_option maxRecDepth 100000
set_option maxHeartbeats 400000
/-! Data: the source of draws read and written -/
namespace DL
open PySem L2 PyProof.Rows
section
variable {X : Cx} {g : G} {ρ : List S} {e : Expr} {pos : Pos} {R : D → Prop} {Ro : O → Prop}
theorem FeedAt.at {H : Hp} {p : Addr} (h : FeedAt H p) {c : Int} (hc : c = 0 ∨ c = 1) : ∃ vs n, H p = some (.lst vs) ∧ atI vs c = some (V.int n) := by
  obtain ⟨a, b, h⟩ := h
  rcases hc with rfl | rfl
  · exact ⟨_, a, h, rfl⟩
  · exact ⟨_, b, h, rfl⟩
theorem de_fdix (i : Nat) {x : Str} {p1 p2 : Pos} {c : Int} {kk} {p : Addr} (hs : ρ[i]? = some (.fd p)) (h : ∀ n, R (.int n)) (hc : c = 0 ∨ c = 1 := by decide) (hN : X.N[i]? = some x := by rfl)
    (hv : Vis X.env.scope x := by first | exact Or.inl rfl | exact Or.inr (Or.inl rfl) | exact Or.inr (Or.inr rfl)) (hd : (x == ("__debug__" : Str)) = false := by decide) (hcd : (x == ("__classdict__" : Str)) = false := by decide) (hpl : PlainIx (.Constant (.int c) kk p2) := by exact fun _ _ => rfl) :
    DE X g (.Subscript (.Name x p1) (.Constant (.int c) kk p2) pos) ρ R := .mk fun σ B H Q rl k => (pe_ix ix_list (pe_var hN hv hd hcd) pe_int hpl).w (by
  obtain ⟨s1, s2, s3, s4⟩ := rl.sl i _ hs
  obtain ⟨vs, n, h1, h2⟩ := s4.at hc
  exact ⟨_, s1, p, vs, c, .int n, rfl, rfl, SqL.of h1, h2, k _ (.int n) B H Ex.rfl' rl rfl (h n)⟩)
theorem Rel.feed {B H : Hp} {σ : L2.St} {i : Nat} {p : Addr} {a b : Int} (r : Rel g B H σ ρ) (hs : ρ[i]? = some (.fd p)) : Rel g B (upd H p (.lst [.int a, .int b])) σ ρ := by
  obtain ⟨s1, s2, s3, x, y, s4⟩ := r.sl i _ hs
  refine r.growF hs ⟨Ex.rfl', fun q o n e => by rw [upd_ne n]; exact e, ⟨a, b, upd_same⟩, fun q o e => ?_, fun q _ e => e⟩
  rw [upd_ne (fun z => by subst z; rw [s2] at e; cases e)]
  exact r.hp.i _ _ e
theorem ds_fdset (i : Nat) {x : Str} {p1 p2 p3 : Pos} {c : Int} {kk} {p : Addr} (hs : ρ[i]? = some (.fd p)) (h : DE X g e ρ fun y => ∃ n, y = .int n ∧ Ro (.nx ρ)) (hc : c = 0 ∨ c = 1 := by decide) (hN : X.N[i]? = some x := by rfl)
    (hv : Vis X.env.scope x := by first | exact Or.inl rfl | exact Or.inr (Or.inl rfl) | exact Or.inr (Or.inr rfl)) (hd : (x == ("__debug__" : Str)) = false := by decide) (hcd : (x == ("__classdict__" : Str)) = false := by decide)
    (ha : ∀ v, assign (.Subscript (.Name x p1) (.Constant (.int c) kk p2) p3) X.env v = (do
      let ov ← holding [v] (eval (.Name x p1) X.env)
      let iv ← holding [v, ov] (eval (.Constant (.int c) kk p2) X.env)
      standAt p3
      holding [v, ov, iv] (setItem ov iv v)
      release [v, ov, iv] []) := by intro _; rfl)
    (hsw : swapsWithSole [.Subscript (.Name x p1) (.Constant (.int c) kk p2) p3] e pos.line X.env = pure false := by rfl) (hw : swappedStores [.Subscript (.Name x p1) (.Constant (.int c) kk p2) p3] e X.env = pure none := by rfl)
    (h1 : (assignEach [.Subscript (.Name x p1) (.Constant (.int c) kk p2) p3] X.env).map (·.2) = [assign (.Subscript (.Name x p1) (.Constant (.int c) kk p2) p3) X.env] := by rfl) :
    DS X g (.Assign [.Subscript (.Name x p1) (.Constant (.int c) kk p2) p3] e pos) ρ Ro := .mk fun σ B H Dn rl k =>
  (ps_asg pW (pg_sub (pe_var hN hv hd hcd) pe_int set_list ha) hsw hw h1).w (h.go σ B H _ rl fun v d B1 H1 e1 r1 dx ⟨n, ed, hR⟩ => by
    subst ed
    cases (show v = _ from dx)
    obtain ⟨s1, s2, s3, x0, y0, s4⟩ := r1.sl i _ hs
    refine ⟨_, s1, p, _, c, c.toNat, rfl, rfl, s4, ?_, ?_⟩
    · rcases hc with rfl | rfl <;> rfl
    · rcases hc with rfl | rfl
      · exact k.nx σ ρ B1 _ e1 (r1.feed hs) hR
      · exact k.nx σ ρ B1 _ e1 (r1.feed hs) hR)
end
end DL
set_option Elab.async false
set_option linter.all false
set_option autoImplicit false
set_option maxRecDepth 100000
set_option maxHeartbeats 400000
/-! repr of a list whose items' addresses are known not to be the modules' table -/
namespace PySem
open PyProof PyProof.V Builtin
section
variable {prog : Program} {w : World} {h₀ : Heap} {a : Addr} {o : Obj} {vs : Array Value} {n : Nat} {xs : List PyData} {bs : List Addr}
theorem showsL (g1 : h₀.get? a = some o) (g2 : o.cls = .type "list") (g3 : o.data = .seq vs n) (g4 : ReadsAll h₀ vs.toList xs bs) (sh : (PyData.list xs).showable = true) (no : sysModules ∉ bs)
    (sz : (PyData.list xs).shown.length ≤ sizeLine) : ∃ T idr, ShowsBy prog w h₀ a (.list xs) T idr := by
  have sz2 : (listText (PyData.shownAll xs)).length ≤ sizeLine := by
    rw [PyData.shown] at sz
    exact sz
  have sh2 := sh
  rw [PyData.showable] at sh2
  obtain ⟨cs, hb, hk⟩ := ReprAllK.of_readsAll (prog := prog) (w := w) g4 sh2 (fun _ => no) (fun t ht => Nat.le_trans (listText_mem_le ht) sz2)
  have na : a ∉ cs := not_mem_of_deeper (.list g1 g2 g3 g4) (by simp only [PyData.depth]; omega) hb
  refine ⟨"list", "list.__repr__", F.slot_list_repr.toG, F.slot_list_str, F.slot_list_format, fun s k0 => ⟨o, k0 _ _ g1, g2⟩, fun A E s Q gg gu k0 gQ => ?_⟩
  rw [PyData.depth] at gu
  rw [PyData.shown] at gQ
  obtain ⟨l⟩ := vs
  cases l with
  | nil =>
    cases (show ReadsAll h₀ [] xs _ from g4)
    rw [PyData.shownAll, listText_nil] at gQ
    exact call_list_repr_empty ⟨o, k0 _ _ g1, g2⟩ (k0 _ _ g1) g3 (gQ s.heap _ _ fun _ _ e => e)
  | cons x l => exact call_list_reprK g1 g2 g3 na (by simpa using hk.length_eq) (fun i y e => hk.item i y (by simpa using e)) gg (fun b _ => Clear.nil b) gu k0 gQ sz2
theorem repr_listTop {A : Around} {E : Value → Shared → Prop} {s : Shared} {Q : Value → Shared → Prop} (g1 : h₀.get? a = some o) (g2 : o.cls = .type "list") (g3 : o.data = .seq vs n) (g4 : ReadsAll h₀ vs.toList xs bs) (sh : (PyData.list xs).showable = true) (no : sysModules ∉ bs)
    (sz : (PyData.list xs).shown.length ≤ sizeLine) (gg : A.guards = some []) (gu : A.units + ((PyData.list xs).depth + 1) < cLine) (k0 : ∀ b o, h₀.get? b = some o → s.heap.get? b = some o)
    (gQ : ∀ h' u tk, (∀ b o, s.heap.get? b = some o → h'.get? b = some o) → Q (.str (PyData.list xs).shown u) { s with heap := h', toks := tk }) : wpAny (model prog w) A (call (.builtin "repr") [.ref a]) Q E s := by
  obtain ⟨T, idr, S⟩ := showsL (prog := prog) (w := w) g1 g2 g3 g4 sh no sz
  exact call_repr_slot (by omega) (S.typeIs s k0) S.slotRepr (S.call A.in1 E s _ gg (by show A.units + 1 + (PyData.list xs).depth < cLine; omega) k0 fun h' u tk hk => ⟨_, _, rfl, gQ h' u tk hk⟩)
end
end PySem
set_option Elab.async false
set_option linter.all false
set_option autoImplicit false
set_option maxRecDepth 100000
set_option maxHeartbeats 400000
/-! Data: repr; defs that are called where nothing is being shown -/
namespace DL
open PySem L2 PyProof.Rows
open PyProof.V (PairsRead reads_dictOf)
mutual
/-- nothing but plain data within -/
def D.ok : D → Bool
  | .non => true | .bl _ => true | .int _ => true | .str _ => true
  | .lst xs => oks xs | .tup xs => oks xs | .dic kvs => okk kvs
  | .obj _ _ => false | .ty _ => false | .cref _ => false
def oks : List D → Bool
  | [] => true
  | x :: xs => x.ok && oks xs
def okk : List (Key × D) → Bool
  | [] => true
  | (_, x) :: xs => x.ok && okk xs
end
def encK : Key → PyData
  | .inl i => .int i
  | .inr x => .str x
section
variable {X : Cx} {pins : List (Addr × Obj)} {σ : L2.St} {H : Hp} {s : Shared}
def Tr (H : Hp) (as : List Addr) : Prop := ∀ a ∈ as, ∃ o, H a = some o
theorem key_reads {h : Heap} (k : Key) (v : Value) (e : keyIs k v = true) : Reads h v (encK k) [] := by
  rcases keyIs_shape e with ⟨i, t, rfl, rfl⟩ | ⟨x, t, rfl, rfl⟩
  · exact .int i t
  · exact .str x t
theorem pyk_cons (k : Key) (d : D) (r : List (Key × D)) : pyk ((k, d) :: r) = (encK k, d.py) :: pyk r := by
  cases k <;> rfl
mutual
theorem DR.reads (I : Inv X pins σ H s) : ∀ (d : D) (v : V) (u : Value), d.ok = true → DR X.K H d v → RelV v u → ∃ as, Reads s.heap u d.py as ∧ Tr H as
  | .non => fun v u _ h r => by
    cases (show v = _ from h); cases r
    exact ⟨_, .none, fun a z => nomatch z⟩
  | .bl b => fun v u _ h r => by
    cases (show v = _ from h); cases r
    exact ⟨_, .bool b, fun a z => nomatch z⟩
  | .int i => fun v u _ h r => by
    cases (show v = _ from h); obtain ⟨t, rfl⟩ := r
    exact ⟨_, .int i t, fun a z => nomatch z⟩
  | .str i => fun v u _ h r => by
    cases (show v = _ from h); obtain ⟨t, rfl⟩ := r
    exact ⟨_, .str i t, fun a z => nomatch z⟩
  | .lst ds => fun v u p h r => by
    obtain ⟨a, xs, rfl, h2, h3⟩ := h
    cases r
    obtain ⟨its, rv, ⟨o, n, ho, hc, _, hd⟩, _⟩ := I.list (SqL.of h2)
    obtain ⟨as, hr, ht⟩ := DRs.reads I ds xs its (by rw [D.ok] at p; exact p) h3 rv
    refine ⟨a :: as, by rw [D.py]; exact Reads.list ho hc hd hr, fun b hb => ?_⟩
    rcases List.mem_cons.mp hb with z | z
    · exact ⟨_, z ▸ h2⟩
    · exact ht b z
  | .tup ds => fun v u p h r => by
    obtain ⟨a, xs, rfl, h2, h3⟩ := h
    cases r
    obtain ⟨its, rv, ⟨o, ho, hc, n, hd⟩, _⟩ := I.tuple h2
    obtain ⟨as, hr, ht⟩ := DRs.reads I ds xs its (by rw [D.ok] at p; exact p) h3 rv
    exact ⟨as, by rw [D.py]; exact Reads.tuple ho hc hd hr, ht⟩
  | .dic ds => fun v u p h r => by
    obtain ⟨a, xs, rfl, h2, h3⟩ := h
    cases r
    obtain ⟨_, _, vs, kv, hd⟩ := I.hok a _ h2
    obtain ⟨bs, hp, ht⟩ := DRk.reads I ds xs vs (by rw [D.ok] at p; exact p) h3 kv
    refine ⟨a :: bs, by rw [D.py]; exact reads_dictOf (enc := encK) (fun k key e => key_reads k key e) hd hp, fun b hb => ?_⟩
    rcases List.mem_cons.mp hb with z | z
    · exact ⟨_, z ▸ h2⟩
    · exact ht b z
  | .obj _ _ => fun _ _ p => by simp [D.ok] at p
  | .ty _ => fun _ _ p => by simp [D.ok] at p
  | .cref _ => fun _ _ p => by simp [D.ok] at p
theorem DRs.reads (I : Inv X pins σ H s) : ∀ (ds : List D) (vs : List V) (us : List Value), oks ds = true → DRs X.K H ds vs → Vals vs us → ∃ as, ReadsAll s.heap us (pys ds) as ∧ Tr H as
  | [] => fun vs us _ h r => by
    cases (show vs = [] from h); cases r
    exact ⟨_, .nil, fun a z => nomatch z⟩
  | d :: ds => fun vs us p h r => by
    obtain ⟨x, xs, rfl, h2, h3⟩ := h
    have p' : d.ok = true ∧ oks ds = true := by simpa [oks] using p
    cases r with
    | cons r1 r2 =>
      obtain ⟨as, q1, t1⟩ := DR.reads I d _ _ p'.1 h2 r1
      obtain ⟨bs, q2, t2⟩ := DRs.reads I ds _ _ p'.2 h3 r2
      exact ⟨as ++ bs, .cons q1 q2, fun a z => (List.mem_append.mp z).elim (t1 a) (t2 a)⟩
theorem DRk.reads (I : Inv X pins σ H s) : ∀ (ds : List (Key × D)) (vs : List (Key × V)) (us : List (Key × Value)), okk ds = true → DRk X.K H ds vs → KV vs us → ∃ as, PairsRead s.heap encK us (pyk ds) as ∧ Tr H as
  | [] => fun vs us _ h r => by
    cases (show vs = [] from h); cases r
    exact ⟨_, .nil, fun a z => nomatch z⟩
  | (k, d) :: ds => fun vs us p h r => by
    obtain ⟨x, xs, rfl, h2, h3⟩ := h
    have p' : d.ok = true ∧ okk ds = true := by simpa [okk] using p
    cases r with
    | @cons _ q _ us' r1 r2 =>
      obtain ⟨k', u⟩ := q
      obtain ⟨e1, e2⟩ := r1
      have e1 : k = k' := e1
      subst e1
      obtain ⟨as, q1, t1⟩ := DR.reads I d _ _ p'.1 h2 e2
      obtain ⟨bs, q2, t2⟩ := DRk.reads I ds _ _ p'.2 h3 r2
      refine ⟨as ++ bs, ?_, fun a z => (List.mem_append.mp z).elim (t1 a) (t2 a)⟩
      rw [pyk_cons]
      exact .cons q1 q2
end
/-! what is shown beside dicts -/
def D.sc : D → Bool
  | .non => true | .bl _ => true | .int _ => true | .str _ => true
  | _ => false
def D.it : D → Bool
  | .dic kvs => kvs.all fun p => p.2.sc
  | d => d.sc
/-- dicts stand at the top, or in a list at the top, and hold bare values -/
def D.sy : D → Bool
  | .dic kvs => kvs.all fun p => p.2.sc
  | .lst ds => !(D.lst ds).py.hasDict || ds.all D.it
  | d => !d.py.hasDict
theorem sc_reads {d : D} {v : V} {u : Value} {h : Heap} (p : d.sc = true) (e : DR X.K H d v) (r : RelV v u) : Reads h u d.py [] := by
  cases d with
  | non => cases (show v = _ from e); cases r; exact .none
  | bl b => cases (show v = _ from e); cases r; exact .bool b
  | int i => cases (show v = _ from e); obtain ⟨t, rfl⟩ := r; exact .int i t
  | str i => cases (show v = _ from e); obtain ⟨t, rfl⟩ := r; exact .str i t
  | _ => cases p
theorem flat_pairs {h : Heap} : ∀ {kvs : List (Key × D)} {vs : List (Key × V)} {us : List (Key × Value)}, (kvs.all fun p => p.2.sc) = true → DRk X.K H kvs vs → KV vs us → PairsRead h encK us (pyk kvs) []
  | [], _, _, _, e, r => by
    cases (show _ = [] from e)
    cases r
    exact .nil
  | (k, d) :: kvs, _, _, p, e, r => by
    obtain ⟨x, xs, rfl, h2, h3⟩ := e
    obtain ⟨p1, p2⟩ := Bool.and_eq_true_iff.mp (show (d.sc && kvs.all fun p => p.2.sc) = true from p)
    cases r with
    | @cons _ q _ _ r1 r2 =>
      obtain ⟨k', u⟩ := q
      obtain ⟨e1, e2⟩ := r1
      have e1 : k = k' := e1
      subst e1
      rw [pyk_cons]
      exact .cons (as := []) (bs := []) (sc_reads p1 h2 e2) (flat_pairs p2 h3 r2)
theorem it_reads (I : Inv X pins σ H s) {d : D} {v : V} {u : Value} (p : d.it = true) (e : DR X.K H d v) (r : RelV v u) : ∃ as, Reads s.heap u d.py as ∧ sysModules ∉ as := by
  cases d with
  | dic kvs =>
    obtain ⟨a, xs, rfl, h2, h3⟩ := e
    cases r
    obtain ⟨_, ne, vs, kv, hd⟩ := I.hok a _ h2
    refine ⟨[a], by rw [D.py]; exact reads_dictOf (enc := encK) (fun k key e => key_reads k key e) hd (flat_pairs p h3 kv), fun z => ?_⟩
    have z1 : sysModules = a := by simpa using z
    rw [← z1] at ne
    exact absurd ne (by decide)
  | non => exact ⟨[], sc_reads p e r, fun z => nomatch z⟩
  | bl b => exact ⟨[], sc_reads p e r, fun z => nomatch z⟩
  | int i => exact ⟨[], sc_reads p e r, fun z => nomatch z⟩
  | str i => exact ⟨[], sc_reads p e r, fun z => nomatch z⟩
  | _ => cases p
theorem its_reads (I : Inv X pins σ H s) : ∀ {ds : List D} {vs : List V} {us : List Value}, ds.all D.it = true → DRs X.K H ds vs → Vals vs us → ∃ as, ReadsAll s.heap us (pys ds) as ∧ sysModules ∉ as
  | [], _, _, _, e, r => by
    cases (show _ = [] from e)
    cases r
    exact ⟨[], .nil, fun z => nomatch z⟩
  | d :: ds, _, _, p, e, r => by
    obtain ⟨x, xs, rfl, h2, h3⟩ := e
    obtain ⟨p1, p2⟩ := Bool.and_eq_true_iff.mp (show (d.it && ds.all D.it) = true from p)
    cases r with
    | cons r1 r2 =>
      obtain ⟨as, q1, n1⟩ := it_reads I p1 h2 r1
      obtain ⟨bs, q2, n2⟩ := its_reads I p2 h3 r2
      exact ⟨as ++ bs, .cons q1 q2, fun z => (List.mem_append.mp z).elim n1 n2⟩
/-- what can be shown -/
structure D.Rp (d : D) : Prop where
  ok : d.ok = true
  sh : d.py.showable = true
  dp : d.py.depth ≤ 100
  sz : d.py.shown.length ≤ sizeLine
  sy : d.sy = true
def rRepr (K : PySem.W.Frag) : List V → Hp → VK → Prop := fun xs H Q => ∃ (x : V) (d : D), xs = [x] ∧ DR K H d x ∧ d.Rp ∧ Q (.str d.py.shown) H
/-- nothing is being shown; the modules' table is a known object -/
structure Quiet (X : Cx) : Prop where
  g : X.A.guards = some []
  u : X.A.units + 200 < cLine
theorem Rm.quiet {k : Nat} (h : Rm k X) : Quiet X := ⟨h.g, by have := h.r.un; omega⟩
theorem call_repr (q : Quiet X) : CallR X (.builtin "repr") (rRepr X.K) := by
  intro pins s σ H xs us Q I r h
  obtain ⟨x, d, rfl, hd, rp, hq⟩ := h
  obtain ⟨u, rfl, ru⟩ := vals1 r
  obtain ⟨as, hr, ht⟩ := DR.reads I d x u rp.ok hd ru
  have hu := q.u
  have dp := rp.dp
  have fin : ∀ (h' : Heap) (u' : Tok) (tk : Nat), (∀ b o, s.heap.get? b = some o → h'.get? b = some o) → EP X pins σ Q (.str d.py.shown u') { s with heap := h', toks := tk } := fun h' u' tk k => ⟨.str _, H, I.kept k, ⟨_, rfl⟩, hq⟩
  have sh := rp.sh
  have sz := rp.sz
  have sy := rp.sy
  cases d with
  | non =>
    cases (show x = _ from hd); cases ru
    exact PySem.P.repr_of_none (fin s.heap _ _ fun _ _ e => e)
  | bl b =>
    cases (show x = _ from hd); cases ru
    exact PySem.P.repr_of_bool (by cases b <;> exact fin s.heap _ _ fun _ _ e => e)
  | int i =>
    cases (show x = _ from hd); obtain ⟨t, rfl⟩ := ru
    exact PySem.P.repr_of_int (by simpa [D.py, PyData.showable] using sh) (fin s.heap _ _ fun _ _ e => e)
  | str i =>
    cases (show x = _ from hd); obtain ⟨t, rfl⟩ := ru
    exact PySem.P.repr_of_str (fin s.heap _ _ fun _ _ e => e) (by simpa [D.py, PyData.shown] using sz)
  | lst ds =>
    by_cases c : (D.lst ds).py.hasDict = true
    · obtain ⟨a, ws, rfl, h2, h3⟩ := hd
      cases ru
      obtain ⟨its, rv, ⟨o, n, ho, hc, _, hdt⟩, _⟩ := I.list (SqL.of h2)
      have sy2 : (!(D.lst ds).py.hasDict || ds.all D.it) = true := sy
      rw [c] at sy2
      obtain ⟨bs, hr2, hn⟩ := its_reads I (by simpa using sy2) h3 rv
      rw [D.py] at sh sz dp fin
      exact repr_listTop ho hc hdt hr2 sh hn sz q.g (by omega) (fun _ _ e => e) (fun h' u tk k => fin h' u tk k)
    · obtain ⟨a, ws, rfl, _⟩ := hd
      cases ru
      exact repr_of_reads' hr sh (fun z => absurd z c) q.g (by omega) (fun _ _ e => e) (fun h' u tk k => fin h' u tk k) sz
  | tup ds =>
    have c : ¬ (D.tup ds).py.hasDict = true := fun z => by
      have sy2 : (!(D.tup ds).py.hasDict) = true := sy
      rw [z] at sy2
      cases sy2
    obtain ⟨a, ws, rfl, _⟩ := hd
    cases ru
    exact repr_of_reads' hr sh (fun z => absurd z c) q.g (by omega) (fun _ _ e => e) (fun h' u tk k => fin h' u tk k) sz
  | dic ds =>
    obtain ⟨bs, hr2, hn⟩ := it_reads I (d := .dic ds) sy hd ru
    obtain ⟨a, ws, rfl, _⟩ := hd
    cases ru
    exact repr_of_reads' hr2 sh (fun _ => hn) q.g (by omega) (fun _ _ e => e) (fun h' u tk k => fin h' u tk k) sz
  | obj _ _ => exact absurd rp.ok (by simp [D.ok])
  | ty _ => exact absurd rp.ok (by simp [D.ok])
  | cref _ => exact absurd rp.ok (by simp [D.ok])
theorem bt_repr : bootBuiltins "repr" = some (.builtin "repr") := by decide +kernel
variable {g : G} {ρ : List S} {a : Expr} {p pos : Pos} {R : D → Prop}
theorem de_repr (bl : Bl X.mg) (q : Quiet X) (hK : X.K = g.K) (h : DE X g a ρ fun d => d.Rp ∧ R (.str d.py.shown)) (hg : Gl X "repr" := by rfl) (he : starEach [a] X.env = (false, eval a X.env) :: starEach [] X.env := by rfl) (hpl : (backTo pos (starEach [] X.env)).any (·.1) = false := by rfl) :
    DE X g (.Call (.Name "repr" p) [a] [] pos) ρ R :=
  de_callB (call_repr q) bl.repr bt_repr (da_cons (de_mono h fun d ⟨rp, hR⟩ => da_nil fun B H vs Q i dd k => by
    obtain ⟨v, _, rfl, dv, rfl⟩ := dd
    exact ⟨v, d, rfl, by rw [hK]; exact dv.up i, rp, k _ (.str _) B H (Grow.id i) rfl hR⟩) he) hg (by decide) (by decide) he hpl
end
end DL
set_option Elab.async false
set_option linter.all false
set_option autoImplicit false
set_option maxRecDepth 100000
set_option maxHeartbeats 400000
/-! Data: displays of written values -/
namespace DL
open PySem L2 PyProof.Rows
def constOf : Expr → Option D
  | .Constant (.int i) _ _ => some (.int i)
  | .Constant (.str i) _ _ => some (.str i)
  | .Constant (.bool i) _ _ => some (.bl i)
  | .Constant .none _ _ => some .non
  | .UnaryOp .USub (.Constant (.int i) _ _) _ => some (.int (-i))
  | _ => none
def constsOf : List Expr → Option (List D)
  | [] => some []
  | e :: es => match constOf e, constsOf es with
    | some d, some ds => some (d :: ds)
    | _, _ => none
section
variable {X : Cx} {g : G} {ρ : List S}
theorem de_const {e : Expr} {d : D} {R : D → Prop} (h : constOf e = some d) (k : R d) : DE X g e ρ R := by
  unfold constOf at h
  split at h
  · cases h; exact de_int k
  · cases h; exact de_str k
  · cases h; exact de_bl k
  · cases h; exact de_non k
  · cases h; exact de_neg (de_int ⟨_, rfl, k⟩)
  · cases h
theorem star_const {e : Expr} {d : D} (h : constOf e = some d) (es : List Expr) (env : Env) : starEach (e :: es) env = (false, eval e env) :: starEach es env := by
  unfold constOf at h
  split at h <;> first | rfl | cases h
theorem da_consts : ∀ {es : List Expr} {ds : List D} {R : List D → Prop}, R ds → constsOf es = some ds → DA X g es ρ R
  | [], ds, R, k, h => by cases h; exact da_nil k
  | e :: es, ds, R, k, h => by
    unfold constsOf at h
    split at h
    · rename_i d ds' h1 h2
      cases h
      exact da_cons (de_const h1 (da_consts (R := fun xs => R (d :: xs)) k h2)) (star_const h1 es X.env)
    · cases h
theorem dss_cut (M : List S → Prop) {st : Stmt} {sts : List Stmt} {R : O → Prop} (h : DS X g st ρ (O.to M R)) (k : ∀ ρ', M ρ' → DSs X g sts ρ' R) : DSs X g (st :: sts) ρ R :=
  dss_cons (ds_mono h fun o q => by
    cases o with
    | nx ρ' => exact k ρ' q
    | _ => exact q)
theorem dn_consts {es : List Expr} {pos : Pos} {ds : List D} {R : List D → Prop} (k : R ds) (h : constsOf es = some ds := by rfl) (hl : decide (ds.length ≤ sizeLine) = true := by rfl) : DN X g (.List es pos) ρ R := dn_lst (da_consts ⟨of_decide_eq_true hl, k⟩ h)
end
end DL
set_option Elab.async false
set_option linter.all false
set_option autoImplicit false
set_option maxRecDepth 100000
set_option maxHeartbeats 4000000
/-! an own exception class called, keywords too -/
namespace PySem
namespace DX
open Builtin Builtin.ObjectAttr PySem.HandSPX
section
variable {M : Model} {A : Around} {E : Value → Shared → Prop} {h : Heap} {gs : Array GenState} {dr : Drawn} {tk : Nat} {os : OsState}
variable {nm qn : Str} {C N : Addr} {bs bm bmB : List Value} {hd : Bool} {sn : List Str} {sub : List Value} {ab : Bool} {col : Option Bool} {dd : Option Addr} {k0 k1 k2 k3 k5 : Option Value} {B newId initId : String}
theorem new_check (F : ExcBaseFacts B newId initId bmB) (same : ∀ Y : String, bm.contains (.type Y) = bmB.contains (.type Y)) {us : List Value} {kw : List (Str × Value)} {Q : Unit → Shared → Prop}
    (oC : h.get? C = some (excClassObj nm qn C N bs bm hd sn sub ab col dd k0 k1 k2 k3 k5 newId)) (q : Q () ⟨h, gs, dr, tk, os⟩) : wpAny M A (checkBuiltinCall newId ⟨.ref C :: us, kw⟩) Q E ⟨h, gs, dr, tk, os⟩ := by
  have isB : (Value.ref C :: bm).contains (.type B) = true := by rw [List.contains_cons, same, F.hasB, Bool.or_true]
  have star := F.noStar
  simp only [checkBuiltinCall, F.newKind, F.newSplit, F.newRow]
  repeat (first
    | refine wpAny_loadPart_at oC ?_
    | (refine wpAny_isSubtype_exc oC ?_; rw [isB])
    | refine wpAny_staticBase_exc oC ?_
    | refine wpAny_madeBy_exc oC ?_
    | simp only [bne_self_eq_false, Bool.false_eq_true, if_false]
    | wp_step)
  exact q
theorem tcall_check {us : List Value} {kw : List (Str × Value)} {Q : Unit → Shared → Prop}
    (oC : h.get? C = some (excClassObj nm qn C N bs bm hd sn sub ab col dd k0 k1 k2 k3 k5 newId)) (q : Q () ⟨h, gs, dr, tk, os⟩) :
    wpAny M A (checkBuiltinCall "type.__call__" ⟨.ref C :: us, kw⟩) Q E ⟨h, gs, dr, tk, os⟩ := by
  have f3 := tc_sub
  have ty : (⟨h, gs, dr, tk, os⟩ : Shared).TypeIs (.ref C) "type" := ⟨_, oC, rfl⟩
  simp only [checkBuiltinCall, tc_kind, tc_split]
  repeat (any_goals (first
    | assumption
    | with_reducible refine wpAny_loadPart_at oC ?_
    | with_reducible refine wpAny_onRaise ?_
    | with_reducible refine wpAny_map ?_
    | wp_step))
end
end DX
end PySem
set_option Elab.async false
set_option linter.all false
set_option autoImplicit false
set_option maxRecDepth 100000
set_option maxHeartbeats 4000000
namespace PySem
namespace DX
open Builtin Builtin.ObjectAttr PySem.HandSPX
section
variable {P : Program} {wd : World} {A : Around} {E : Value → Shared → Prop} {R : Result → Shared → Prop} {h : Heap} {gs : Array GenState} {dr : Drawn} {tk : Nat} {os : OsState}
variable {nm qn : Str} {C N : Addr} {bs bm bmB : List Value} {hd : Bool} {sn : List Str} {sub : List Value} {ab : Bool} {col : Option Bool} {dd : Option Addr} {k0 k1 k2 k3 k5 : Option Value} {B newId initId : String}
/-- the heap with the new exception, its args behind it -/
abbrev laidX (h : Heap) (C : Addr) (us : List Value) : Heap := (h.push (W.kdv_tup us)).push (excO C h.objs.size)
theorem new_run (F : ExcBaseFacts B newId initId bmB) (same : ∀ Y : String, bm.contains (.type Y) = bmB.contains (.type Y)) {us : List Value} {kw : List (Str × Value)}
    (oC : h.get? C = some (excClassObj nm qn C N bs bm hd sn sub ab col dd k0 k1 k2 k3 k5 newId)) (q : R (.ok (.ret (.ref (h.objs.size + 1)))) ⟨laidX h C us, gs, dr, tk, os⟩) (few : us.length ≤ sizeLine) :
    codeAny (model P wd) A (.builtin newId ⟨.ref C :: us, kw⟩) R ⟨h, gs, dr, tk, os⟩ := by
  have fe := F.ends
  have isB : (Value.ref C :: bm).contains (.type B) = true := by rw [List.contains_cons, same, F.hasB, Bool.or_true]
  have isA : (Value.ref C :: bm).contains (.type "AttributeError") = false := by rw [List.contains_cons, same, F.noAttr]; rfl
  have isN : (Value.ref C :: bm).contains (.type "NameError") = false := by rw [List.contains_cons, same, F.noName]; rfl
  refine codeAny_builtinAt F.entry ?_
  unfold Builtin.«BaseException.__new__»
  refine wpAt_bind ?_
  show wpAt _ _ _ (stack >>= _) _ _ _
  refine wpAt_bind (wpAt_stack fun p below => wpAt_of_wpAny ?_)
  wp_walk
  refine wpAt_of_wpAny ?_
  rw [F.owner]
  repeat (first
    | with_reducible refine wpAny_madeHere_exc F.canon oC ?_
    | with_reducible refine wpAny_loadPart_at oC ?_
    | (with_reducible refine wpAny_isSubtype_exc oC ?_; first | rw [isB] | rw [isA] | rw [isN])
    | wp_step)
  show R _ _
  rw [Heap.size_push]
  exact q
theorem tcall_run (F : ExcBaseFacts B newId initId bmB) (same : ∀ Y : String, bm.contains (.type Y) = bmB.contains (.type Y)) {us : List Value} {kw : List (Str × Value)} {fI : Addr} {Q : Fin → Shared → Prop}
    (oC : h.get? C = some (excClassObj nm qn C N bs bm hd sn sub ab col dd k0 k1 k2 k3 k5 newId))
    (li : W.Looks (model P wd) h (typeLookup (.ref C) "__init__") (some (.ref fI))) (lb : ∀ self, W.Looks (model P wd) h (bindSpecial (.ref fI) self) (.ref fI, [self])) (few : us.length ≤ sizeLine)
    (q : codeAny (model P wd) A (.call (.ref fI) ⟨.ref (h.objs.size + 1) :: us, kw⟩)
      (fun r s' => match r with | .ok (.ret v) => v = .none ∧ Q (.done (.ret (.ref (h.objs.size + 1)))) s' | .ok _ => False | .error e => E e s')
      ⟨laidX h C us, gs, dr, tk, os⟩) :
    wpAny (model P wd) A (Builtin.«type.__call__» ⟨.ref C :: us, kw⟩) Q E ⟨h, gs, dr, tk, os⟩ := by
  repeat (first
    | with_reducible refine wpAny_loadPart_at oC ?_
    | with_reducible refine wpAny_madeBy_exc oC ?_
    | wp_step)
  refine codeAny_call_builtin_code (Code.quiet_builtin _ F.quiet) (new_check F same oC ?_)
  refine new_run F same oC ?_ few
  show wpAny _ _ _ _ _ _
  have kp : ∀ b o, h.get? b = some o → (laidX h C us).get? b = some o := fun b o e => Heap.get?_push_of_some _ (Heap.get?_push_of_some _ e)
  have oC2 := kp _ _ oC
  have oX : (laidX h C us).get? (h.objs.size + 1) = some (excO C h.objs.size) := by heap_get
  have isC : (Value.ref C :: bm).contains (.ref C) = true := by simp
  have li2 := li.keeps kp
  have lb2 := (lb (.ref (h.objs.size + 1))).keeps kp
  unfold isInstance
  repeat (first
    | with_reducible refine wpAny_loadPart_at oX ?_
    | (with_reducible refine wpAny_isSubtype_exc oC2 ?_; rw [isC])
    | wp_step)
  show wpAny _ _ (typeLookup (.ref C) _) _ _ _
  refine li2.at ?_
  refine wpAny_holding (wpAny_bind (lb2.at ?_))
  refine wpAny_bind (wpAny_call (codeAny_mono q fun r s' z => ?_))
  rcases r with e | (v | _ | _ | _) <;> first | exact z | exact z.elim | skip
  obtain ⟨rfl, z⟩ := z
  first
    | exact wpAny_pure (wpAny_pure z)
    | (wp_walk; exact z)
theorem call_run (F : ExcBaseFacts B newId initId bmB) (same : ∀ Y : String, bm.contains (.type Y) = bmB.contains (.type Y)) {us : List Value} {kw : List (Str × Value)} {fI : Addr}
    (oC : h.get? C = some (excClassObj nm qn C N bs bm hd sn sub ab col dd k0 k1 k2 k3 k5 newId))
    (li : W.Looks (model P wd) h (typeLookup (.ref C) "__init__") (some (.ref fI))) (lb : ∀ self, W.Looks (model P wd) h (bindSpecial (.ref fI) self) (.ref fI, [self])) (few : us.length ≤ sizeLine)
    (q : codeAny (model P wd) (A.under (.builtin "type.__call__" ⟨.ref C :: us, kw⟩)) (.call (.ref fI) ⟨.ref (h.objs.size + 1) :: us, kw⟩) (W.InitBack (h.objs.size + 1) R)
      ⟨laidX h C us, gs, dr, tk, os⟩) :
    codeAny (model P wd) A (.call (.ref C) ⟨us, kw⟩) R ⟨h, gs, dr, tk, os⟩ := by
  have f1 := tc_lookup
  have f2 := tc_bind (.ref C)
  have ty : (⟨h, gs, dr, tk, os⟩ : Shared).TypeIs (.ref C) "type" := ⟨_, oC, rfl⟩
  refine codeAny_of_tree ?_
  show wpAny _ _ (callAny (.ref C) _) _ _ _
  repeat (any_goals (first
    | assumption
    | with_reducible refine wpAny_loadPart_at oC ?_
    | wp_step))
  refine ⟨rfl, ?_⟩
  refine codeAny_call_builtin_at (Code.quiet_builtin _ (by decide +kernel)) entry_typeCall (tcall_check oC (tcall_run F same oC li lb few ?_))
  refine codeAny_mono q fun r s' z => ?_
  rcases r with e | (v | _ | _ | _) <;> exact z
end
end DX
end PySem
set_option Elab.async false
set_option linter.all false
set_option autoImplicit false
set_option maxRecDepth 100000
set_option maxHeartbeats 2000000
/-! own exceptions as values: made, caught and handed back -/
namespace DL
open PySem L2 PyProof.Rows
/-- an exception of the class C at a, d its dict -/
def exv (a C : Addr) (d : Option Addr) : HO := .ext fun h => ∃ (oe : Obj) (vs : Array Value), h.get? a = some oe ∧ Zc (.ref C) d oe ∧ oe.data = .fields vs
section
variable {P : Program} {w : World} {H : Hp} {h : Heap} {a C : Addr} {d : Option Addr} {oe : Obj} {vs : Array Value}
theorem exv_ok (e : h.get? a = some oe) (z : Zc (.ref C) d oe) (f : oe.data = .fields vs) : ObjOk P w H h a (exv a C d) :=
  ⟨⟨oe, vs, e, z, f⟩, ⟨oe, e⟩, fun h1 h2 ⟨o, v, x, r⟩ k => ⟨o, v, k o x, r⟩⟩
theorem exv_at (hok : HOk P w H h) (e : H a = some (exv a C d)) : ∃ (oe : Obj) (vs : Array Value), h.get? a = some oe ∧ Zc (.ref C) d oe ∧ oe.data = .fields vs := by
  obtain ⟨x, _⟩ := hok a _ e
  exact x
end
section
variable {X : Cx} {pins : List (Addr × Obj)} {σ : L2.St} {H : Hp} {sI s : Shared} {a : Addr} {o : HO}
/-- what was not there is there now, and is told -/
theorem track {σI : L2.St} {HI : Hp} (J : Inv X pins σI HI sI) (I : Inv X pins σ H s) (na : sI.heap.get? a = none) (hn : H a = none) (new : ObjOk X.prog X.w (upd H a o) s.heap a o) : Inv X pins σ (upd H a o) s := by
  have n0 : ∀ b u, X.s_0.heap.get? b = some u → b ∉ X.ex → b ≠ a := fun b u e x z => by
    obtain ⟨u', e'⟩ := J.base.there b u e x
    rw [z, na] at e'
    cases e'
  have up : ∀ {b : Addr}, b ≠ a → ∀ {q : Option HO}, H b = q → upd H a o b = q := fun {b} c {q} e => by rw [upd_ne c]; exact e
  have ne : ∀ {b : Addr} {u : HO}, H b = some u → b ≠ a := fun {b u} e z => by
    rw [z, hn] at e
    cases e
  refine ⟨I.ok, I.os, I.bare, ⟨I.base.keep, I.base.slot, fun b u e n x => up (n0 b u e x) (I.base.free b u e n x), I.base.there, ?_, ?_, ?_⟩, I.loc, I.cell, ?_, ?_, ?_, ?_, I.len⟩
  · intro b xs e
    have q := I.base.tups b xs e
    exact up (ne q) q
  · intro b xs u e
    have q := I.base.frzs b xs u e
    exact up (ne q) q
  · intro b ps e
    obtain ⟨m, q⟩ := I.base.tbls b ps e
    exact ⟨m, up (ne q) q⟩
  · obtain ⟨m, ⟨u, es, ep, e, _⟩, _⟩ := J.loc
    refine up (fun z => ?_) I.free
    rw [z, na] at e
    cases e
  · intro x c e
    obtain ⟨v, u, e', _⟩ := J.cell x c e
    refine up (fun z => ?_) (I.freeC x c e)
    rw [z, na] at e'
    cases e'
  · intro p hp
    obtain ⟨e1, e2, e3⟩ := I.pin p hp
    obtain ⟨e', _⟩ := J.pin p hp
    refine ⟨e1, up (fun z => ?_) e2, e3⟩
    rw [z, na] at e'
    cases e'
  · intro b u e
    by_cases c : b = a
    · subst c
      rw [upd_same] at e
      cases e
      exact new
    · rw [upd_ne c] at e
      exact (I.hok b u e).stay (fun _ _ _ z => z) (fun x q => up (ne q) q) (fun x xs q => up (ne q) q)
/-- into a suite where an exception is at hand -/
theorem toSuite (I : Inv X pins σ H s) : Inv (X.suite a (X.pn ++ pins)) [] σ H s :=
  ⟨I.ok.suite _ _, I.os, I.bare, I.base, I.loc, I.cell, I.free, I.freeC, fun p hp => I.pin p (by rw [List.append_nil] at hp; exact hp), I.hok, I.len⟩
theorem ofSuite (I : Inv (X.suite a (X.pn ++ pins)) [] σ H s) (ok : X.Ok) : Inv X pins σ H s :=
  ⟨ok, I.os, I.bare, I.base, I.loc, I.cell, I.free, I.freeC, fun p hp => I.pin p (by rw [List.append_nil]; exact hp), I.hok, I.len⟩
end
section
variable {X : Cx} {x n : Str} {c : Value} {i : Nat} {body : List Stmt} {np pos pos' p1 p2 : Pos} {tb : WX → TS}
/-- what 'except x as n: return n' wishes of an exception -/
def wRet (K : PySem.W.Frag) (c : Value) (i : Nat) (Dn : Ends) : WX := fun cls d σ H => ∃ C, cls = .ref C ∧ PySem.W.exmOne K cls c = some true ∧ ∀ a, H a = none → Dn.rt (.ref a) (upd H a (exv a C d))
theorem ps_try_ret (hs : X.stack = X.env :: X.outer) (hf : X.env.frame = some X.env.locals) (hN : X.N.Nodup) (hi : X.N[i]? = some n) (hln : X.env.kindOf n = some .local) (hc : Names X x c)
    (hcl : (n == ("__debug__" : Str)) = false) (hcd : (n == ("__classdict__" : Str)) = false)
    (hb : ∀ (W : WX) (pn : List (Addr × Obj)) (xe : Value → Shared → Prop), Takes (X.tr pn xe) W → PassesOwn (model X.prog X.w) X.A X.env xe → PSs (X.tr pn xe) body (tb W)) :
    PS X (.Try body [.ExceptHandler (some (.Name x np)) (some n) [.Return (some (.Name n p1)) p2] pos'] [] [] pos) (fun Dn σ H => tb (wRet X.K c i Dn) Dn σ H) := by
  refine ⟨fun pins s σ H Dn I h => ?_⟩
  have ok := I.ok
  have fr : X.A.frames = some (X.env :: X.outer) := ok.frames.trans (congrArg some hs)
  have lc : Loc X.env.scope n := .inl hln
  refine wpAny_Try_except ?_
  refine wpAny_mono ((hb (wRet X.K c i Dn) (X.pn ++ pins) (fun e t1 => wpAny (model X.prog X.w) X.A (noteFrame e X.env)
    (fun _ t2 => wpAny (model X.prog X.w) X.A (setFlight e none)
      (fun _ t3 => wpAny (model X.prog X.w) X.A (handleBy e X.env [.ExceptHandler (some (.Name x np)) (some n) [.Return (some (.Name n p1)) p2] pos']) (SP X pins Dn) X.xe t3) X.xe t2) X.xe t1)
    (fun u z xx => ?_) PassesOwn.looking).run [] s σ H Dn (I.toTry _) h) (fun fl z hz => ?_) (fun _ _ z => z)
  · obtain ⟨a, B, sI, pn1, σ1, H1, cls, d, rfl, K1, nb, up1, sky, na, eos, ab, C, rfl, hm, hq⟩ := xx
    have J : Inv X pins σ1 H1 sI := K1.ofTry ok
    show wpAny (model X.prog X.w) X.A (noteFrame (.ref a) X.env) _ _ _
    refine Sky.land Zc.steady fr hf (hs ▸ sky) fun h3 f3 up3 => ?_
    have J3 : Inv X pins σ1 H1 { z with heap := h3 } := J.landed nb f3.1 (up1.trans up3) eos ab
    obtain ⟨o3, v3, g3, z3, d3⟩ := f3.there
    have nf : a ∉ frs (X.env :: X.outer) := fun m => by
      obtain ⟨_, o', e', q⟩ := f3.2.2.1.mem m
      rw [g3] at e'
      cases e'
      exact q _ d3
    have nI : sI.heap.get? a = none := by
      cases q : sI.heap.get? a with
      | none => rfl
      | some o =>
        have e := nb a o q (by rw [hs]; exact nf)
        rw [f3.2.1] at e
        cases e
    have T3 := track J J3 nI na (exv_ok (C := C) (d := d) g3 z3 d3)
    refine wpAny_handleBy_cons (codeAny_handlers_test ?_) (by intro q; cases q)
    have ty : PySem.W.Looks (model X.prog X.w) h3 (typeOf (.ref a)) (.ref C) := fun A Q E s k q => wpAny_typeOf_ref (k _ _ g3) (by rw [z3.1]; exact q)
    have lm := PySem.W.exm_one (M := model X.prog X.w) J3.kIn ty hm
    have nm : ∀ {Q : Value → Shared → Prop} {E : Value → Shared → Prop}, Q c { z with heap := h3 } → wpAny (model X.prog X.w) (X.A.mark (some (.ref a))) (eval (.Name x np) X.env) Q E { z with heap := h3 } := fun {Q E} q => by
      obtain ⟨hg, hd, m | ⟨m, v, nn⟩⟩ := hc
      · exact ld_glob (X := X.suite a (X.pn ++ pins)) (toSuite T3) hg m q hd
      · exact ld_blt (X := X.suite a (X.pn ++ pins)) (toSuite T3) hg m v q nn hd
    refine nm (lm.here ?_)
    refine codeAny_handlers_suite_as ?_
    refine HandSPX.lands_againZ f3 fun h4 f4 up4 => ?_
    have J4 : Inv X pins σ1 H1 { z with heap := h4 } := J.landed nb f4.1 ((up1.trans up3).trans up4) eos ab
    obtain ⟨o4, v4, g4, z4, d4⟩ := f4.there
    have T4 := track J J4 nI na (exv_ok (C := C) (d := d) g4 z4 d4)
    refine store_ok (X := X.suite a (X.pn ++ pins)) (v := .ref a) (toSuite T4) hN hi lc rfl (fun s5 S5 => ?_) (.inr hln)
    have il : i < σ1.length := by
      rw [T4.len]
      exact (List.getElem?_eq_some_iff.mp hi).1
    refine wpAny_mono ((pss_one (X := X.suite a (X.pn ++ pins)) (ps_ret (pe_var hi (.inl hln) hcl hcd))).run [] s5 _ _ { nx := fun _ _ => False, rt := fun v H' => v = .ref a ∧ H' = upd H1 a (exv a C d) } S5 ⟨.ref a, by rw [List.getElem?_set_self il], rfl, rfl⟩) (fun fl s6 hz => ?_) (fun _ _ z => False.elim z)
    cases fl with
    | next => obtain ⟨_, _, _, q⟩ := hz; exact q.elim
    | brk => obtain ⟨_, _, _, q⟩ := hz; exact q.elim
    | cont => obtain ⟨_, _, _, q⟩ := hz; exact q.elim
    | ret u =>
      obtain ⟨v6, σ6, H6, S6, r6, e1, e2⟩ := hz
      subst e1 e2
      exact gone_ok (ofSuite S6 ok) hN hi hln fun s7 J7 => ⟨_, _, _, J7, r6, hq a na⟩
  · cases fl with
    | next =>
      obtain ⟨σ1, H1, J, q⟩ := hz
      exact wpAny_execs_nil ⟨σ1, H1, J.ofTry ok, q⟩
    | brk =>
      obtain ⟨σ1, H1, J, q⟩ := hz
      exact ⟨σ1, H1, J.ofTry ok, q⟩
    | cont =>
      obtain ⟨σ1, H1, J, q⟩ := hz
      exact ⟨σ1, H1, J.ofTry ok, q⟩
    | ret u =>
      obtain ⟨v, σ1, H1, J, r, q⟩ := hz
      exact ⟨v, σ1, H1, J.ofTry ok, r, q⟩
end
end DL
set_option Elab.async false
set_option linter.all false
set_option autoImplicit false
set_option maxRecDepth 100000
set_option maxHeartbeats 2000000
namespace DL
open PySem L2 PyProof.Rows
/-- __init__(self, n): self.n = n -/
def spIni (n : Str) (C : Addr) : Sp := fun vs H Q E => ∃ a y, vs = [.ref a, y] ∧ H a = some (exo a C none) ∧ ∀ dx, H dx = none → dx ≠ a → Q .non (upd (upd H dx (exd dx [(n, y)])) a (exo a C (some dx)))
/-- __init__(self): pass -/
def spIni0 : Sp := fun vs H Q E => ∃ a, vs = [.ref a] ∧ Q .non H
section
variable {P : Program} {w : World} {K : PySem.W.Frag} {mg : Str → Option Value} {base : Heap} {f C : Addr} {fd : FuncData} {x qual n : Str} {st : Stmt}
theorem ini_ok (F : Fun K x qual st f fd) (Sc : FnScope ["self", n] ["self", n] (defScope st)) (T : OexC K C) (hno : PySem.W.findIn K (.ref C) n = some none) {p1 p2 p3 p4 : Pos}
    (hb : defBody st = [.Assign [.Attribute (.Name "self" p1) n p2] (.Name n p3) p4]) (v0 : Vis (defScope st) "self") (v1 : Vis (defScope st) n)
    (h1 : (n == ("__debug__" : Str)) = false) (h2 : (n == ("__classdict__" : Str)) = false) : GOk P w K mg base CX0 1 f fd ["self", n] (spIni n C) := by
  refine gok F Sc (fun vs H Q E ⟨a, y, e, _⟩ => by rw [e]; rfl) (fun cdv A outer s H vs Q E hr hg h => ?_)
  obtain ⟨a, y, rfl, e, q⟩ := h
  rw [hb]
  refine ⟨_, pss_one (ps_ost (pe_var (i := 0) rfl v0) (pe_var (i := 1) rfl v1 h1 h2)), y, rfl, .ref a, rfl, a, C, rfl, T, hno, .inl ⟨e, fun dx n d => q dx n d⟩⟩
theorem ini0_ok (F : Fun K x qual st f fd) (Sc : FnScope ["self"] ["self"] (defScope st)) {p4 : Pos} (hb : defBody st = [.Pass p4]) : GOk P w K mg base CX0 1 f fd ["self"] spIni0 := by
  refine gok F Sc (fun vs H Q E ⟨a, e, _⟩ => by rw [e]; rfl) (fun cdv A outer s H vs Q E hr hg h => ?_)
  obtain ⟨a, rfl, q⟩ := h
  rw [hb]
  exact ⟨_, pss_one ps_pass, q⟩
end
/-- an own exception class with one field: its __init__ stores what it is called with -/
structure XCls (P : Program) (w : World) (K : PySem.W.Frag) (mg : Str → Option Value) (base : Heap) (x n : Str) (C : Addr) : Prop where
  m : mg x = some (.ref C)
  T : OexC K C
  F : XfC K C
  no : PySem.W.findIn K (.ref C) n = some none
  ex : ∃ (fI : Addr) (fd : FuncData), PySem.W.findIn K (.ref C) "__init__" = some (some (.ref fI)) ∧ PySem.W.typeIn K (.ref fI) = some (.type "function") ∧ GOk P w K mg base CX0 1 fI fd ["self", n] (spIni n C) ∧
    (∀ (s : Shared) (a : Addr) (u : Value), BindsTo s fd ⟨[.ref a, u], []⟩ [("self", .ref a), (n, u)]) ∧ ∀ (s : Shared) (a : Addr) (u : Value), BindsTo s fd ⟨[.ref a], [(n, u)]⟩ [("self", .ref a), (n, u)]
section
variable {X : Cx} {pins : List (Addr × Obj)} {σ : L2.St} {H : Hp} {s : Shared} {x n : Str} {C : Addr}
/-- what stands behind C(y) -/
def madeX (H : Hp) (a C dx : Addr) (n : Str) (y : V) : Hp := upd (upd (upd H a (exo a C none)) dx (exd dx [(n, y)])) a (exo a C (some dx))
/-- the call, in the machine's words -/
theorem run_x (c : XCls X.prog X.w X.K X.mg X.base x n C) (hr : Rm 2 X) (hx : Passes CX0 X (fun _ _ _ => False)) {us : List Value} {kw : List (Str × Value)} {u : Value} {y : V} (ry : RelV y u) (ha : us = [u] ∧ kw = [] ∨ us = [] ∧ kw = [(n, u)])
    (I : Inv X pins σ H s) {Q : Value → Shared → Prop}
    (q : ∀ (a dx : Addr) (s' : Shared), H a = none → H dx = none → dx ≠ a → s.heap.objs.size ≤ a →
      (∃ (hp2 : Heap) , (∀ b o, s.heap.get? b = some o → hp2.get? b = some o) ∧ Un (frs X.stack) [] (upd H a (exo a C none)) (madeX H a C dx n y) hp2 s'.heap) → HOk X.prog X.w (madeX H a C dx n y) s'.heap → s'.os = s.os → AllBare s'.gens →
      Inv X pins σ (madeX H a C dx n y) s' → Q (.ref a) s') :
    wpAny (model X.prog X.w) X.A (call (.ref C) us kw) Q X.xe s := by
  obtain ⟨fI, fd, iC, tI, F1, b1, b2⟩ := c.ex
  obtain ⟨nm, qn, N, bs, bm, sn, sub, ab, col, dd, k0, k1, k2, k3, k5, hC, hbm⟩ := c.T.cls
  obtain ⟨hp, gs, dr, tk, os⟩ := s
  have hn : H (hp.objs.size + 1) = none := I.hok.fresh (Nat.le_succ _)
  have kk : ∀ b o, hp.get? b = some o → (DX.laidX hp C us).get? b = some o := fun b o e => Heap.get?_push_of_some _ (Heap.get?_push_of_some _ e)
  have hget : (DX.laidX hp C us).get? (hp.objs.size + 1) = some (PySem.HandSPX.excO C hp.objs.size) := by heap_get
  have I2 : Inv X pins σ (upd H (hp.objs.size + 1) (exo (hp.objs.size + 1) C none)) ⟨DX.laidX hp C us, gs, dr, tk, os⟩ :=
    I.laid (t' := tk) (a := hp.objs.size + 1) (o := exo (hp.objs.size + 1) C none) (h' := DX.laidX hp C us) kk (Nat.le_succ _) (exo_ok hget)
  have few : us.length ≤ sizeLine := by
    rcases ha with ⟨e, _⟩ | ⟨e, _⟩
    · rw [e]; show 1 ≤ sizeLine; decide
    · rw [e]; show 0 ≤ sizeLine; decide
  have bd : BindsTo ⟨DX.laidX hp C us, gs, dr, tk, os⟩ fd ⟨.ref (hp.objs.size + 1) :: us, kw⟩ ([("self" : Str), n].zip [.ref (hp.objs.size + 1), u]) := by
    rcases ha with ⟨e1, e2⟩ | ⟨e1, e2⟩
    · rw [e1, e2]; exact b1 _ _ _
    · rw [e1, e2]; exact b2 _ _ _
  refine wpAny_call (DX.call_run F.excBase_ValueError (fun Y => PySem.HandSPX.refsVE_contains Y bm hbm) (I.kIn _ _ hC) (PySem.W.looks_findIn I.kIn iC) (fun self => PySem.W.bind_fn I.kIn self tI) few
    (codeAny_mono (F1.run _ X.stack _ _ ⟨.ref (hp.objs.size + 1) :: us, kw⟩ [.ref (hp.objs.size + 1), u] [.ref (hp.objs.size + 1), y]
      (fun v H2 => v = .non ∧ ∃ dx, H dx = none ∧ dx ≠ hp.objs.size + 1 ∧ H2 = madeX H (hp.objs.size + 1) C dx n y) (fun _ _ _ => False) (hr.r.make C us kw) (make_guards hr.g) (I2.env0.make C us kw) bd (.cons rfl (.cons ry .nil))
      ⟨_, _, rfl, upd_same, fun dx e ne => ⟨rfl, dx, by rw [upd_ne ne] at e; exact e, ne, rfl⟩⟩) fun r s' hq' => ?_))
  match r, hq' with
  | .error er, hq' => exact hx pins σ _ _ er s' I2 hq'
  | .ok (.ret v0), hq' =>
    obtain ⟨v, H2, os2, bare2, un2, hok2, rv, ev, dx, nd, ne, eH⟩ := hq'
    subst ev eH
    obtain ⟨h2, g2, d2, t2, os'⟩ := s'
    exact ⟨rv, q _ dx _ hn nd ne (Nat.le_succ _) ⟨_, kk, un2⟩ hok2 os2 bare2 (I2.call' (ch := []) os2 un2 hok2 bare2 (fun b z => absurd z (by simp)))⟩
  | .ok .next, hq' => exact False.elim hq'
  | .ok .brk, hq' => exact False.elim hq'
  | .ok .cont, hq' => exact False.elim hq'
end
end DL
set_option Elab.async false
set_option linter.all false
set_option autoImplicit false
set_option maxRecDepth 100000
set_option maxHeartbeats 400000
namespace DL
open PySem L2 PyProof.Rows
/-- an exception's dict is there -/
def DicAt (H : Hp) (d : Option Addr) : Prop := d = none ∨ ∃ dd fs, d = some dd ∧ H dd = some (.xd fs)
/-- isinstance(e, c), e an own exception -/
def rIsX (K : PySem.W.Frag) : List V → Hp → VK → Prop := fun xs H Q => ∃ (a D : Addr) (d : Option Addr) (c : V) (cv : Value) (b : Bool), xs = [.ref a, c] ∧ H a = some (exv a D d) ∧ DicAt H d ∧ ExcC K D ∧
  (∀ u, RelV c u → u = cv) ∧ PySem.W.kitOne K (.ref D) cv = some b ∧ Q (.bl b) H
theorem call_isX {X : Cx} : CallR X (.builtin "isinstance") (rIsX X.K) := by
  intro pins s σ H xs us Q I r h
  obtain ⟨a, D, d, c, cv, b, rfl, ha, hd, T, hcv, e, q⟩ := h
  cases r with
  | cons rx rr => cases rr with
    | cons rt rr =>
      cases rr
      cases rx
      cases hcv _ rt
      obtain ⟨oe, vs, g1, z1, f1⟩ := exv_at I.hok ha
      have J : ∃ od, PySem.W.InstAt s.heap a oe D od := by
        obtain ⟨oc, od, oda, osl⟩ := oe
        obtain ⟨z2, z3⟩ := z1
        dsimp only at z2 z3 f1
        subst z2 z3 f1
        rcases hd with rfl | ⟨dd, fs, rfl, hx⟩
        · exact ⟨none, g1, rfl, rfl, trivial⟩
        · have x : ObjOk X.prog X.w H s.heap dd (.xd fs) := I.hok dd _ hx
          obtain ⟨mA, ⟨o, es, ep, ho, _⟩, _⟩ := x
          exact ⟨some o, g1, rfl, rfl, ho⟩
      obtain ⟨od, J⟩ := J
      have hcl : (PySem.W.clsIn X.K D).isSome = true := by
        obtain ⟨cd, hc, _⟩ := PySem.W.any_some T.hd
        rw [hc]
        rfl
      exact PySem.W.kia_one (PySem.W.kitx_exc hcl T.hg T.hk T.hs T.ha T.hn T.ht T.hm) I.kIn J e (fun z => nomatch z) fun tk => ⟨.bl b, H, I.kept (t' := tk) fun _ _ z => z, rfl, q⟩
section
variable {X : Cx} {x n f : Str} {C : Addr} {e : Expr} {te : TE} {ta : TA} {kws : List Keyword} {p pos kpos : Pos}
/-- C(e), a new exception of an own class -/
def tXv (C : Addr) (n : Str) (ta : TA) : TE := fun σ H Q => ta σ H fun vs H1 => ∃ y, vs = [y] ∧ ∀ a dx, H1 a = none → H1 dx = none → dx ≠ a → Q (.ref a) (madeX H1 a C dx n y)
theorem xv_end (c : XCls X.prog X.w X.K X.mg X.base x n C) (hr : Rm 2 X) (hx : Passes CX0 X (fun _ _ _ => False)) {pins : List (Addr × Obj)} {σ : L2.St} {H1 : Hp} {s1 : Shared} {Q : VK} {vs : List V} {us : List Value} (kw : Bool) (I1 : Inv X pins σ H1 s1) (r : Vals vs us)
    (h : ∃ y, vs = [y] ∧ ∀ a dx, H1 a = none → H1 dx = none → dx ≠ a → Q (.ref a) (madeX H1 a C dx n y)) :
    wpAny (model X.prog X.w) X.A (call (.ref C) (if kw = true then [] else us) (if kw = true then [n].zip us else [])) (EP X pins σ Q) X.xe s1 := by
  obtain ⟨y, rfl, q⟩ := h
  cases r with
  | @cons _ u _ ur ry rr =>
    cases rr
    refine run_x c hr hx ry ?_ I1 fun a dx s' h1 h2 h3 _ _ _ _ _ J => ⟨.ref a, _, J, rfl, q a dx h1 h2 h3⟩
    cases kw
    · exact .inl ⟨rfl, rfl⟩
    · exact .inr ⟨rfl, rfl⟩
theorem pe_xv (c : XCls X.prog X.w X.K X.mg X.base x n C) (kC : PySem.W.keepIn X.K (.ref C) = true) (hr : Rm 2 X) (hx : Passes CX0 X (fun _ _ _ => False)) (hg : Gl X x) (ha : PA X [e] ta)
    (hdb : (x == ("__debug__" : Str)) = false := by decide) (he : starEach [e] X.env = (false, eval e X.env) :: starEach [] X.env := by rfl) (hpl : (backTo pos (starEach [] X.env)).any (·.1) = false := by rfl) :
    PE X (.Call (.Name x p) [e] [] pos) (tXv C n ta) := by
  refine ⟨fun pins s σ H Q I h => wpAny_Call_Name_kw (ld_glob I hg c.m ?_ hdb)⟩
  exact PySem.W.callWith_K (h₀ := X.base) I.ok.mod.kin kC (thn (ha.run pos pins s σ H _ I h) fun us s1 ⟨vs, H1, I1, r, q⟩ => ⟨I1.kIn, xv_end c hr hx false I1 r q⟩) he hpl
/-- C(n=e) -/
theorem pe_xvk (c : XCls X.prog X.w X.K X.mg X.base x n C) (kC : PySem.W.keepIn X.K (.ref C) = true) (hr : Rm 2 X) (hx : Passes CX0 X (fun _ _ _ => False)) (hg : Gl X x) (ha : PK X kws ta)
    (hdb : (x == ("__debug__" : Str)) = false := by decide) (hall : (backToKw pos (keywordEach kws X.env)).all (·.1.isSome) = true := by rfl) (hks : (backToKw pos (keywordEach kws X.env)).filterMap (·.1) = [n] := by rfl)
    (hpl : ((backTo pos (starEach [] X.env)).any (·.1) || (backToKw pos (keywordEach kws X.env)).any (·.1.isNone)) = false := by rfl) :
    PE X (.Call (.Name x p) [] kws pos) (tXv C n ta) := by
  refine ⟨fun pins s σ H Q I h => wpAny_Call_Name_kw (ld_glob I hg c.m ?_ hdb)⟩
  refine PySem.W.callWith_KW0 (h₀ := X.base) I.ok.mod.kin kC hall (thn (ha.run pos pins s σ H _ I h) fun us s1 ⟨vs, H1, I1, r, q⟩ => ⟨I1.kIn, ?_⟩) hpl
  rw [hks]
  exact xv_end c hr hx true I1 r q
/-- o.f, o a new exception -/
def tXg (K : PySem.W.Frag) (f : Str) (to : TE) : TE := fun σ H Q => to σ H fun u H1 => ∃ (a C dx : Addr) (fs : List (Str × V)) (v : V), u = .ref a ∧ H1 a = some (exo a C (some dx)) ∧ H1 dx = some (exd dx fs) ∧ XfC K C ∧ PySem.W.findIn K (.ref C) f = some none ∧ fs.lookup f = some v ∧ Q v H1
theorem pe_xg (ha : PE X e te) (hb : attributeBase e f X.env (eval e X.env) = eval e X.env := by rfl) : PE X (.Attribute e f pos) (tXg X.K f te) := by
  refine ⟨fun pins s σ H Q I h => attr_of hb (thn (ha.run pins s σ H _ I h) fun u s1 hh => ?_)⟩
  obtain ⟨x, H1, I1, rx, a, C, dx, fs, v, ex, ea, ed, T, hno, l, q⟩ := hh
  subst ex
  cases rx
  obtain ⟨t1, g1⟩ := exo_at I1.hok ea
  obtain ⟨mA, hns, hr⟩ := exd_at I1.hok ed
  obtain ⟨od, ho, hl⟩ := lookIn_ns hns
  obtain ⟨u, hu, ru⟩ := RelO.some_of (v := v) (o := mA f) (by rw [← l]; exact hr f)
  have J : PySem.W.InstAt s1.heap a { cls := .ref C, dict := some dx, data := .fields #[.ref t1, .none, .none, .none, .bool false, .none] } C (some od) := ⟨g1, rfl, rfl, ho⟩
  exact PySem.HandSPX.exc_get I1.kIn J T.ga T.gg T.exC (PySem.W.findObj_own T.hdC hno rfl (by rw [hl, hu])) (handed_of ru) ⟨v, H1, I1.tok _, ru, q⟩
end
section
variable {X : Cx} {g : G} {ρ : List S} {x n : Str} {C : Addr} {e : Expr} {p p2 pos kpos : Pos} {R : D → Prop}
theorem madeX_grow {B H : Hp} {a dx : Addr} {y : V} (i : Ex B H) (h1 : H a = none) (h2 : H dx = none) : Grow B H B (madeX H a C dx n y) := by
  have e : Ex H (madeX H a C dx n y) := fun b o q => by
    unfold madeX
    rw [upd_ne (ne_of_none q h1), upd_ne (ne_of_none q h2), upd_ne (ne_of_none q h1)]
    exact q
  exact ⟨Ex.rfl', e, i.tr e, fun _ _ h => h⟩
/-- C(e).n -/
theorem xf_go {q : Expr} (c : XCls X.prog X.w X.K X.mg X.base x n C) (hq : PE X q (tXv C n (tCons (WE X e) tNil))) (h : DE X g e ρ R) (hb : attributeBase q n X.env (eval q X.env) = eval q X.env) : DE X g (.Attribute q n pos) ρ R := .mk fun σ B H Q rl k =>
  (pe_xg hq hb).w (h.go σ B H _ rl fun v d B1 H1 e1 r1 dv hR => ⟨v, rfl, fun a dx h1 h2 ne => by
    have gr := madeX_grow (C := C) (n := n) (y := v) r1.hp.i h1 h2
    exact ⟨a, C, dx, [(n, v)], v, rfl, upd_same, (upd_ne ne).trans upd_same, c.F, c.no, by simp [List.lookup], k v d B1 _ e1 (r1.grow gr) dv hR⟩⟩)
theorem de_xf (c : XCls X.prog X.w X.K X.mg X.base x n C) (kC : PySem.W.keepIn X.K (.ref C) = true) (hr : Rm 2 X) (hx : Passes CX0 X (fun _ _ _ => False)) (h : DE X g e ρ R) (hg : Gl X x := by rfl) (hdb : (x == ("__debug__" : Str)) = false := by decide) (he : starEach [e] X.env = (false, eval e X.env) :: starEach [] X.env := by rfl)
    (hb : attributeBase (.Call (.Name x p) [e] [] pos) n X.env (eval (.Call (.Name x p) [e] [] pos) X.env) = eval (.Call (.Name x p) [e] [] pos) X.env := by rfl) : DE X g (.Attribute (.Call (.Name x p) [e] [] pos) n p2) ρ R :=
  xf_go c (pe_xv c kC hr hx hg (pa_cons pW pa_nil he) hdb he) h hb
theorem de_xfk (c : XCls X.prog X.w X.K X.mg X.base x n C) (kC : PySem.W.keepIn X.K (.ref C) = true) (hr : Rm 2 X) (hx : Passes CX0 X (fun _ _ _ => False)) (h : DE X g e ρ R) (hg : Gl X x := by rfl) (hdb : (x == ("__debug__" : Str)) = false := by decide)
    (hb : attributeBase (.Call (.Name x p) [] [⟨some n, e, kpos⟩] pos) n X.env (eval (.Call (.Name x p) [] [⟨some n, e, kpos⟩] pos) X.env) = eval (.Call (.Name x p) [] [⟨some n, e, kpos⟩] pos) X.env := by rfl) : DE X g (.Attribute (.Call (.Name x p) [] [⟨some n, e, kpos⟩] pos) n p2) ρ R :=
  xf_go c (pe_xvk c kC hr hx hg (pk_cons pW pk_nil) hdb) h hb
/-- isinstance(e, T), e a slot that holds an exception -/
theorem isX_go {T n1 : Str} {q p1 : Pos} {tv : V} {tu : Value} {i : Nat} {a D : Addr} {d : Option Addr} {b : Bool} (bl : Bl X.mg) (hK : X.K = g.K) (hs : ρ[i]? = some (.raw (.ref a))) (h0 : g.H0 a = some (exv a D d)) (hd : DicAt g.H0 d) (hf : g.fd = none) (T1 : ExcC X.K D) (ht : PE X (.Name T q) (tC tv)) (hu : ∀ u, RelV tv u → u = tu)
    (hk : PySem.W.kitOne X.K (.ref D) tu = some b) (hR : R (.bl b)) (hN : X.N[i]? = some n1) (hv : Vis X.env.scope n1) (hd1 : (n1 == ("__debug__" : Str)) = false) (hd2 : (n1 == ("__classdict__" : Str)) = false) (hg : Gl X "isinstance") :
    DE X g (.Call (.Name "isinstance" p) [.Name n1 p1, .Name T q] [] pos) ρ R := .mk fun σ B H Q rl k =>
  (pe_callB call_isX hg bl.isi bt_isi (pa_cons (pe_var hN hv hd1 hd2) (pa_cons ht pa_nil rfl) rfl) (by decide) (by decide) rfl rfl).w (by
    have st : σ[i]? = some (some (.ref a)) := rl.sl i _ hs
    have up : ∀ {c : Addr} {o : HO}, g.H0 c = some o → H c = some o := fun {c o} z => rl.hp.h0 c o (by rw [hf]; exact fun z => nomatch z) z
    refine ⟨_, st, a, D, d, tv, tu, b, rfl, up h0, ?_, T1, hu, hk, k _ (.bl b) B H Ex.rfl' rl rfl hR⟩
    rcases hd with rfl | ⟨dd, fs, rfl, z⟩
    · exact .inl rfl
    · exact .inr ⟨dd, fs, rfl, up z⟩)
end
end DL
set_option Elab.async false
set_option linter.all false
set_option autoImplicit false
set_option maxRecDepth 100000
set_option maxHeartbeats 400000
namespace DL
open PySem L2 PyProof.Rows
section
variable {X : Cx} {pins : List (Addr × Obj)} {σ : L2.St} {H1 : Hp} {x n : Str} {C : Addr} {e : Expr} {ta : TA} {p pos : Pos}
theorem made_gone {H : Hp} {a dx : Addr} {y : V} (h1 : H a = none) (ne : dx ≠ a) : upd (L2.del (madeX H a C dx n y) a) dx (.xd [(n, y)]) = upd H dx (.xd [(n, y)]) := by
  funext b
  by_cases c : b = dx
  · subst c
    rw [upd_same, upd_same]
  · rw [upd_ne c, upd_ne c]
    by_cases d : b = a
    · subst d
      rw [L2.del_same, h1]
    · unfold madeX
      rw [L2.del_ne d, upd_ne d, upd_ne c, upd_ne d]
/-- raise C(e): the exception that is raised -/
theorem pmk_x (c : XCls X.prog X.w X.K X.mg X.base x n C) (kC : PySem.W.keepIn X.K (.ref C) = true) (hr : Rm 2 X) (hx : Passes CX0 X (fun _ _ _ => False)) (hg : Gl X x) (ha : PA X [e] ta)
    (hdb : (x == ("__debug__" : Str)) = false := by decide) (he : starEach [e] X.env = (false, eval e X.env) :: starEach [] X.env := by rfl) (hpl : (backTo pos (starEach [] X.env)).any (·.1) = false := by rfl) :
    PMk X (.Call (.Name x p) [e] [] pos) (fun σ H Q => ta σ H fun vs H1 => ∃ y, vs = [y] ∧ ∀ dx, H1 dx = none → Q (.ref C) (some dx) (upd H1 dx (.xd [(n, y)]))) := by
  intro pins s σ H Q I h
  refine wpAny_Call_Name_kw (ld_glob I hg c.m ?_ hdb)
  refine PySem.W.callWith_K (h₀ := X.base) I.ok.mod.kin kC (thn (ha.run pos pins s σ H _ I h) fun us s1 ⟨vs, H1, I1, r, y, ev, q⟩ => ⟨I1.kIn, ?_⟩) he hpl
  subst ev
  cases r with
  | @cons _ u _ ur ry rr =>
    cases rr
    refine run_x c hr hx ry (.inl ⟨rfl, rfl⟩) I1 fun a dx s' h1 h2 h3 h4 ⟨hp2, k, un⟩ hok ho hb J => ?_
    obtain ⟨hp, g1, d1, t1, os1⟩ := s1
    obtain ⟨hp', g2, d2, t2, os2⟩ := s'
    have q2 := q dx h2
    rw [← made_gone (C := C) h1 h3] at q2
    exact mk_end (raises_own c.T.exC c.T.tyC) I1 h4 k un hok ho hb upd_same ((upd_ne h3).trans upd_same) h2 q2
end
/-- an own exception class that takes nothing -/
structure XCls0 (P : Program) (w : World) (K : PySem.W.Frag) (mg : Str → Option Value) (base : Heap) (x : Str) (C : Addr) : Prop where
  m : mg x = some (.ref C)
  T : OexC K C
  ex : ∃ (fI : Addr) (fd : FuncData), PySem.W.findIn K (.ref C) "__init__" = some (some (.ref fI)) ∧ PySem.W.typeIn K (.ref fI) = some (.type "function") ∧ GOk P w K mg base CX0 1 fI fd ["self"] spIni0 ∧
    (∀ (s : Shared) (a : Addr), BindsTo s fd ⟨[.ref a], []⟩ [("self", .ref a)])
section
variable {X : Cx} {pins : List (Addr × Obj)} {σ : L2.St} {H1 : Hp} {x n : Str} {C : Addr} {p pos : Pos}
/-- the new exception is let go -/
theorem letgo {hp hp2 h2 : Heap} {g1 g2 : Array GenState} {d1 d2 : Drawn} {t1 t2 : Nat} {os1 os2 : OsState} {a : Addr} (I : Inv X pins σ H1 ⟨hp, g1, d1, t1, os1⟩) (ha : hp.objs.size ≤ a) (k : ∀ b o, hp.get? b = some o → hp2.get? b = some o)
    (un : Un (frs X.stack) [] (upd H1 a (exo a C none)) (upd H1 a (exo a C none)) hp2 h2) (hok : HOk X.prog X.w (upd H1 a (exo a C none)) h2) (ho : os2 = os1) (hb : AllBare g2) :
    ∃ (t0 : Addr) (G : Heap), Inv X pins σ H1 ⟨G, g2, d2, t2, os2⟩ ∧ (∀ b o, G.get? b = some o → h2.get? b = some o) ∧ G.get? a = none ∧ h2.get? a = some (PySem.HandSPX.excO C t0) := by
  obtain ⟨t0, hoe⟩ := exo_at hok upd_same
  have hn : H1 a = none := I.hok.fresh ha
  obtain ⟨G, r1, r2⟩ := restrict h2 fun b => decide (b ≠ a)
  have gk : ∀ b, b ≠ a → G.get? b = h2.get? b := fun b c => r1 b (decide_eq_true c)
  have ga : G.get? a = none := r2 a (by simp)
  have na : ∀ {b : Addr} {o : Obj}, hp.get? b = some o → b ≠ a := fun {b o} z => Nat.ne_of_lt (Nat.lt_of_lt_of_le (Heap.lt_size z) ha)
  have nb : ∀ {b : Addr} {o : HO}, H1 b = some o → b ≠ a := fun {b o} z c => by
    rw [c, hn] at z
    cases z
  have up : ∀ {b : Addr} {q : Option HO}, b ≠ a → H1 b = q → upd H1 a (exo a C none) b = q := fun {b q} c z => by rw [upd_ne c]; exact z
  have dn : ∀ {b : Addr} {q : Option HO}, b ≠ a → upd H1 a (exo a C none) b = q → H1 b = q := fun {b q} c z => by rw [upd_ne c] at z; exact z
  have U : Un (frs X.stack) [] H1 H1 hp G := by
    refine ⟨?_, ?_, fun b o z n _ => n, ?_, fun b xs z => z, fun b o u z => z, fun b ps z => ⟨#[], by rw [z]; simp⟩⟩
    · intro b o z m f1 f2
      rw [gk b (na z)]
      exact un.keep b o (k b o z) (up (na z) m) f1 f2
    · intro b o z m f1 f2
      rw [gk b (na z)]
      exact un.slot b o (k b o z) (up (na z) m) f1 f2
    · intro b o z f2
      rw [gk b (na z)]
      exact un.there b o (k b o z) f2
  have hok2 : HOk X.prog X.w H1 G := fun b o z => by
    have c := nb z
    refine (hok b o (up c z)).stay (fun y v hy q => ?_) (fun y q => ?_) (fun y xs q => ?_)
    · have cy : y ≠ a := by
        rcases hy with hy | hy
        · rw [hy]; exact c
        · exact at_ne upd_same hy exo_own
      rw [gk y cy]
      exact q
    · exact dn (at_ne upd_same q exo_own) q
    · exact dn (at_ne upd_same q exo_tup) q
  refine ⟨t0, G, I.call' (ch := []) ho U hok2 hb (fun b z => absurd z (by simp)), fun b o z => ?_, ga, hoe⟩
  by_cases c : b = a
  · rw [c, ga] at z
    cases z
  · rw [← gk b c]
    exact z
theorem pmk_x0 (c : XCls0 X.prog X.w X.K X.mg X.base x C) (kC : PySem.W.keepIn X.K (.ref C) = true) (hr : Rm 2 X) (hx : Passes CX0 X (fun _ _ _ => False)) (hg : Gl X x) (hdb : (x == ("__debug__" : Str)) = false := by decide) :
    PMk X (.Call (.Name x p) [] [] pos) (fun σ H Q => Q (.ref C) none H) := by
  intro pins s σ H Q I h
  refine wpAny_Call_Name_kw (ld_glob I hg c.m ?_ hdb)
  refine PySem.W.callWith_K0 I.kIn kC ?_
  obtain ⟨fI, fd, iC, tI, F1, b1⟩ := c.ex
  obtain ⟨nm, qn, N, bs, bm, sn, sub, ab, col, dd, k0, k1, k2, k3, k5, hC, hbm⟩ := c.T.cls
  obtain ⟨hp, gs, dr, tk, os⟩ := s
  have hn : H (hp.objs.size + 1) = none := I.hok.fresh (Nat.le_succ _)
  have kk : ∀ b o, hp.get? b = some o → (DX.laidX hp C []).get? b = some o := fun b o e => Heap.get?_push_of_some _ (Heap.get?_push_of_some _ e)
  have hget : (DX.laidX hp C []).get? (hp.objs.size + 1) = some (PySem.HandSPX.excO C hp.objs.size) := by heap_get
  have I2 : Inv X pins σ (upd H (hp.objs.size + 1) (exo (hp.objs.size + 1) C none)) ⟨DX.laidX hp C [], gs, dr, tk, os⟩ :=
    I.laid (t' := tk) (a := hp.objs.size + 1) (o := exo (hp.objs.size + 1) C none) (h' := DX.laidX hp C []) kk (Nat.le_succ _) (exo_ok hget)
  refine wpAny_call (DX.call_run F.excBase_ValueError (fun Y => PySem.HandSPX.refsVE_contains Y bm hbm) (I.kIn _ _ hC) (PySem.W.looks_findIn I.kIn iC) (fun self => PySem.W.bind_fn I.kIn self tI) (Nat.zero_le _)
    (codeAny_mono (F1.run _ X.stack _ _ ⟨[.ref (hp.objs.size + 1)], []⟩ [.ref (hp.objs.size + 1)] [.ref (hp.objs.size + 1)]
      (fun v H2 => v = .non ∧ H2 = upd H (hp.objs.size + 1) (exo (hp.objs.size + 1) C none)) (fun _ _ _ => False) (hr.r.make C [] []) (make_guards hr.g) (I2.env0.make C [] []) (b1 _ _) (.cons rfl .nil)
      ⟨_, rfl, rfl, rfl⟩) fun r s' hq' => ?_))
  match r, hq' with
  | .error er, hq' => exact hx pins σ _ _ er s' I2 hq'
  | .ok (.ret v0), hq' =>
    obtain ⟨v, H2, os2, bare2, un2, hok2, rv, ev, eH⟩ := hq'
    subst ev eH
    obtain ⟨h2, g2, d2, t2, os'⟩ := s'
    obtain ⟨t0, G, J, kG, ga, hoe⟩ := letgo (d2 := d2) (t2 := t2) I (Nat.le_succ _) kk un2 hok2 os2 bare2
    exact ⟨rv, hp.objs.size + 1, _, _, ⟨G, g2, d2, t2, os'⟩, H, .ref C, none, rfl, J, kG, ga, hoe, ⟨rfl, rfl⟩, rfl, rfl, hn, rfl, bare2, raises_own c.T.exC c.T.tyC, h⟩
  | .ok .next, hq' => exact False.elim hq'
  | .ok .brk, hq' => exact False.elim hq'
  | .ok .cont, hq' => exact False.elim hq'
end
end DL
set_option Elab.async false
set_option linter.all false
set_option autoImplicit false
set_option maxRecDepth 100000
set_option maxHeartbeats 400000
namespace DL
open PySem L2 PyProof.Rows
/-- a def of one exception that hands back a new list -/
def spX (K : PySem.W.Frag) (W : Addr → (List D → Prop) → Prop) : Sp := fun vs H Q _ => vs.length = 1 ∧ ∃ B a C d R, vs = [.ref a] ∧ Ex B H ∧ H a = some (exv a C d) ∧ DicAt H d ∧ B a = none ∧ W C R ∧
  ∀ p vs ds B' H', Grow B H B' H' → H p = none → B' p = none → H' p = some (.lst vs) → DRs K B' ds vs → R ds → Q (.ref p) H'
/-- a def that hands back an exception -/
def spR (K : PySem.W.Frag) (n : Nat) (W : List D → (Addr → Prop) → Prop) : Sp := fun vs H Q _ => vs.length = n ∧ ∃ B ds R, Ex B H ∧ DRs K B ds vs ∧ W ds R ∧
  ∀ a C d H', Grow B H B H' → H' a = some (exv a C d) → H a = none → DicAt H' d → R C → Q (.ref a) H'
section
variable {P : Program} {w : World} {K : PySem.W.Frag} {mg : Str → Option Value} {base : Heap} {x qual : Str} {st : Stmt} {f : Addr} {fd : FuncData} {N ps : List Str} {k n : Nat}
def startX (N : List Str) (a : Addr) : List S := .raw (.ref a) :: List.replicate (N.length - 1) .un
theorem relX {B H : Hp} {a : Addr} (i : Ex B H) (N : List Str) : Rel ⟨K, B, H, none⟩ B H (L2.start N [.ref a]) (startX N a) := by
  refine ⟨⟨i, Ex.rfl', fun a o _ e => e, fun a _ e => e, fun p e => nomatch e⟩, ?_, fun i s e => ?_, ?_⟩
  · simp [L2.start, startX]
  · cases i with
    | zero =>
      have e' : some (S.raw (.ref a)) = some s := e
      cases e'
      rfl
    | succ i =>
      have m := List.mem_of_getElem? (show (List.replicate (N.length - 1) S.un)[i]? = some s from e)
      have es : s = .un := (List.mem_replicate.mp m).2
      subst es
      trivial
  · have e : ∀ n : Nat, ads (S.raw (.ref a) :: List.replicate n .un) = [] := fun n => by
      induction n with
      | zero => rfl
      | succ n ih => exact ih
    unfold startX
    rw [e]
    exact List.nodup_nil
theorem fnX {W : Addr → (List D → Prop) → Prop} (sm : True) (F : Fun K x qual st f fd) (Sc : FnScope N ps (defScope st)) (hn : ps.length = 1)
    (body : ∀ (cdv : Value) (A : Around) (outer : List Env) (s : Shared) (H : Hp) (E : XK) (g : G) (a C : Addr) (d : Option Addr) (R : List D → Prop), Rm k (cxOf CX0 P w K mg base N qual (defScope st) f cdv A outer s H E).nox → g.K = K → g.fd = none → g.H0 a = some (exv a C d) → DicAt g.H0 d → W C R →
      DSs (cxOf CX0 P w K mg base N qual (defScope st) f cdv A outer s H E).nox g (defBody st) (startX N a) (endN R)) : GOk P w K mg base CX0 (k + 1) f fd ps (spX K W) := by
  refine gok F Sc (fun vs H Q E h => by rw [hn]; exact h.1) (fun cdv A outer s H vs Q E hr hg h => ?_)
  obtain ⟨hl, B, a, C, d, R, rfl, i, ha, hd, hb, hW, q⟩ := h
  refine ⟨_, PSs.nox ssW, (body cdv A outer s H E ⟨K, B, H, none⟩ a C d R ⟨hr, hg, sm⟩ rfl rfl ha hd hW).go _ B H _ (relX i N) ⟨?_, ?_, ?_, ?_, ?_⟩⟩
  · exact fun _ _ _ _ _ _ z => z.elim
  · exact fun _ _ _ _ _ _ _ z => z.elim
  · exact fun p vs ds B' H' _ r hb h0 hp dd hR => q p vs ds B' H' r.grow0 h0 hb hp dd hR
  · exact fun _ _ _ _ _ _ z => z.elim
  · exact fun _ _ _ _ _ _ z => z.elim
end
section
variable {X : Cx} {g : G} {ρ : List S} {x y : Str} {p p2 pos pos2 : Pos} {e : Expr} {es : List Expr} {k k2 n : Nat} {ps qs : List Str} {Rs : List D → Prop}
theorem dn_callX {W : Addr → (List D → Prop) → Prop} {V : List D → (Addr → Prop) → Prop} (Fd : Df X.prog X.w X.K X.mg X.base k x ps (spX X.K W)) (Fr : Df X.prog X.w X.K X.mg X.base k2 y qs (spR X.K n V)) (hr : Rm k X) (hr2 : Rm k2 X) (hK : X.K = g.K)
    (h : DA X g (e :: es) ρ fun ds => ds.length = n ∧ V ds fun C => W C Rs) (hg : Gl X x := by rfl) (hg2 : Gl X y := by rfl) (hdb : (x == ("__debug__" : Str)) = false := by decide) (hdb2 : (y == ("__debug__" : Str)) = false := by decide)
    (he : starEach (e :: es) X.env = (false, eval e X.env) :: starEach es X.env := by rfl) (hpl : (backTo pos2 (starEach es X.env)).any (·.1) = false := by rfl) (he2 : starEach [.Call (.Name y p2) (e :: es) [] pos2] X.env = (false, eval (.Call (.Name y p2) (e :: es) [] pos2) X.env) :: starEach [] X.env := by rfl)
    (hpl2 : (backTo pos (starEach [] X.env)).any (·.1) = false := by rfl) : DN X g (.Call (.Name x p) [.Call (.Name y p2) (e :: es) [] pos2] [] pos) ρ Rs := .mk fun σ B H Q rl k => by
  obtain ⟨f, fd, h1, h2, h3, h4⟩ := Fd.ex
  obtain ⟨f2, fd2, i1, i2, i3, i4⟩ := Fr.ex
  refine (pe_callG h4 hr hg h1 h2 h3 pass0 (pa_cons (pe_callG i4 hr2 hg2 i1 i2 i3 pass0 aW hdb2 he hpl) pa_nil he2) hdb he2 hpl2).w (h.go σ B H _ rl fun vs ds B1 H1 e1 r1 dx ⟨hl, hW⟩ => ?_)
  refine ⟨by rw [dx.len]; exact hl, B1, ds, _, r1.hp.i, by rw [hK]; exact dx, hW, fun a C d H2 gr ha hn hd hV => ?_⟩
  have r2 := r1.grow gr
  exact ⟨rfl, B1, a, C, d, Rs, rfl, r2.hp.i, ha, hd, r1.hp.i.none hn, hV, fun p vs ds B' H' gr2 hp hb h5 dd hR => k p vs ds B' H' (e1.tr gr2.b) (r2.grow gr2) hb (r2.hp.fresh hp).1 (r2.fresh hp) (r2.hp.fresh hp).2 h5 (by rw [← hK]; exact dd) hR⟩
end
/-! if way == j: raise C(value) -/
section
variable {X : Cx} {W : WX} {x n v1 v2 : Str} {C : Addr} {j : Int} {p0 p1 p2 p3 p4 p5 p6 p7 pos : Pos} {kk : _}
def tRX (C : Addr) (n : Str) (W : WX) : TS := fun _ σ H => ∃ y, σ[1]? = some (some y) ∧ ∀ dx, H dx = none → W (.ref C) (some dx) σ (upd H dx (.xd [(n, y)]))
theorem ps_rx (c : XCls X.prog X.w X.K X.mg X.base x n C) (kC : PySem.W.keepIn X.K (.ref C) = true) (hr : Rm 2 X) (hc : X.calm = true) (hg : Gl X x) (hdb : (x == ("__debug__" : Str)) = false) (tk : Takes X W) (hN1 : X.N[1]? = some v2) (w1 : Vis X.env.scope v2) (a3 : (v2 == ("__debug__" : Str)) = false) (a4 : (v2 == ("__classdict__" : Str)) = false) :
    PS X (.Raise (some (.Call (.Name x p0) [.Name v2 p1] [] p2)) none p3) (tRX C n W) := by
  refine ⟨fun pins s σ H Dn I h => (ps_raise hc tk (pmk_x c kC hr pass0 hg (pa_cons (pe_var hN1 w1 a3 a4) pa_nil rfl) hdb rfl rfl)).run pins s σ H Dn I ?_⟩
  obtain ⟨y, h1, h2⟩ := h
  exact ⟨y, h1, y, rfl, h2⟩
theorem ps_rx0 (c : XCls0 X.prog X.w X.K X.mg X.base x C) (kC : PySem.W.keepIn X.K (.ref C) = true) (hr : Rm 2 X) (hc : X.calm = true) (hg : Gl X x) (hdb : (x == ("__debug__" : Str)) = false) (tk : Takes X W) :
    PS X (.Raise (some (.Call (.Name x p0) [] [] p2)) none p3) (fun _ σ H => W (.ref C) none σ H) := ps_raise hc tk (pmk_x0 c kC hr pass0 hg hdb)
def tIfJ (j : Int) (t u : TS) : TS := fun Dn σ H => ∃ w : Int, σ[0]? = some (some (.int w)) ∧ (w = j → t Dn σ H) ∧ (w ≠ j → u Dn σ H)
theorem pss_ifj {st : Stmt} {sts : List Stmt} {t u : TS} (hN0 : X.N[0]? = some v1) (w0 : Vis X.env.scope v1) (a1 : (v1 == ("__debug__" : Str)) = false) (a2 : (v1 == ("__classdict__" : Str)) = false) (ht : ∀ D1 D2 σ H, t D1 σ H → t D2 σ H) (h : PS X st t) (hs : PSs X sts u) :
    PSs X (.If (.Compare (.Name v1 p4) [.Eq] [.Constant (.int j) kk p5] p6) [st] [] p7 :: sts) (tIfJ j t u) := by
  refine ⟨fun pins s σ H Dn I hh => (pss_cons (ps_if (pt_cmpR op_eq (pe_var hN0 w0 a1 a2) pe_int (nomark _)) (pss_one h) pss_nil) hs).run pins s σ H Dn I ?_⟩
  obtain ⟨w, h0, h1, h2⟩ := hh
  refine ⟨.int w, h0, rfl, _, rfl, ?_⟩
  show if decide (V.int w = V.int j) = true then t { Dn with nx := u Dn } σ H else u Dn σ H
  by_cases c : w = j
  · subst c
    rw [decide_eq_true rfl, if_pos rfl]
    exact ht _ _ _ _ (h1 rfl)
  · have c2 : V.int w ≠ V.int j := fun z => by cases z; exact c rfl
    rw [decide_eq_false c2, if_neg Bool.false_ne_true]
    exact h2 c
end
end DL
namespace DL
open PySem L2 PyProof.Rows
section
variable {X : Cx} {g : G} {ρ : List S} {T n1 : Str} {p q p1 pos : Pos} {i : Nat} {a D C : Addr} {d : Option Addr} {b : Bool} {R : DL.D → Prop}
theorem de_isXC (i : Nat) (bl : Bl X.mg) (hT : X.mg T = some (.ref C)) (hK : X.K = g.K) (hs : ρ[i]? = some (.raw (.ref a))) (h0 : g.H0 a = some (exv a D d)) (hd : DicAt g.H0 d) (hf : g.fd = none) (T1 : ExcC X.K D) (hk : PySem.W.kitOne X.K (.ref D) (.ref C) = some b) (hR : R (.bl b))
    (hN : X.N[i]? = some n1 := by rfl) (hv : Vis X.env.scope n1 := by first | exact Or.inl rfl | exact Or.inr (Or.inl rfl) | exact Or.inr (Or.inr rfl)) (hd1 : (n1 == ("__debug__" : Str)) = false := by decide) (hd2 : (n1 == ("__classdict__" : Str)) = false := by decide)
    (hg : Gl X "isinstance" := by rfl) (hgT : Gl X T := by rfl) (hTd : (T == ("__debug__" : Str)) = false := by decide) : DE X g (.Call (.Name "isinstance" p) [.Name n1 p1, .Name T q] [] pos) ρ R :=
  isX_go bl hK hs h0 hd hf T1 (pe_glob (v := .ref C) hgT hT rfl hTd) (fun u r => r) hk hR hN hv hd1 hd2 hg
theorem de_isXV (i : Nat) (bl : Bl X.mg) (hK : X.K = g.K) (hs : ρ[i]? = some (.raw (.ref a))) (h0 : g.H0 a = some (exv a D d)) (hd : DicAt g.H0 d) (hf : g.fd = none) (T1 : ExcC X.K D) (hk : PySem.W.kitOne X.K (.ref D) (.type "ValueError") = some b) (hR : R (.bl b))
    (hN : X.N[i]? = some n1 := by rfl) (hv : Vis X.env.scope n1 := by first | exact Or.inl rfl | exact Or.inr (Or.inl rfl) | exact Or.inr (Or.inr rfl)) (hd1 : (n1 == ("__debug__" : Str)) = false := by decide) (hd2 : (n1 == ("__classdict__" : Str)) = false := by decide)
    (hg : Gl X "isinstance" := by rfl) (hgT : Gl X "ValueError" := by rfl) : DE X g (.Call (.Name "isinstance" p) [.Name n1 p1, .Name "ValueError" q] [] pos) ρ R :=
  isX_go bl hK hs h0 hd hf T1 (pe_bltn (v := .ty "ValueError") hgT bl.valueError boot_ValueError rfl (by decide) (by decide)) (fun u r => by exact r) hk hR hN hv hd1 hd2 hg
end
end DL
set_option Elab.async false
set_option linter.all false
set_option autoImplicit false
set_option maxRecDepth 100000
set_option maxHeartbeats 400000
/-! the law's own list; the source of draws; an exception of a built-in class -/
namespace DL
open PySem L2 PyProof.Rows
section
variable {X : Cx} {g : G} {ρ : List S} {x : Str} {p p1 p2 pos : Pos} {a : Addr} {ns : List Int} {R : D → Prop} {Rs : List D → Prop} {Ro : O → Prop}
/-- slot i is the law's own list of ints -/
structure Raw (g : G) (ρ : List S) (i : Nat) (a : Addr) (ns : List Int) : Prop where
  s : ρ[i]? = some (.raw (.ref a))
  l : SqL g.K g.H0 a (ns.map V.int)
  f : g.fd = none
theorem sql_up {K : PySem.W.Frag} {H H' : Hp} (e : ∀ c o, H c = some o → H' c = some o) {xs : List V} (h : SqL K H a xs) : SqL K H' a xs := Ex.sql (H := H) (H' := H') e h
theorem Raw.at {i : Nat} {B H : Hp} {σ : L2.St} (w : Raw g ρ i a ns) (rl : Rel g B H σ ρ) : σ[i]? = some (some (.ref a)) ∧ SqL g.K H a (ns.map V.int) :=
  ⟨rl.sl i _ w.s, sql_up (fun c o z => rl.hp.h0 c o (by rw [w.f]; exact fun z => nomatch z) z) w.l⟩
theorem dn_rawcut (i : Nat) {lo hi : Option Expr} (w : Raw g ρ i a ns) (hK : X.K = g.K) (h : DO X g lo ρ fun l => DO X g hi ρ fun u => Rs (cutD (ns.map D.int) l u)) (hN : X.N[i]? = some x := by rfl)
    (hv : Vis X.env.scope x := by first | exact Or.inl rfl | exact Or.inr (Or.inl rfl) | exact Or.inr (Or.inr rfl)) (hd : (x == ("__debug__" : Str)) = false := by decide) (hcd : (x == ("__classdict__" : Str)) = false := by decide) :
    DN X g (.Subscript (.Name x p1) (.Slice lo hi none p2) pos) ρ Rs := .mk fun σ B H Q rl k =>
  (pe_slice sl_list (pe_var hN hv hd hcd) oW oW).w (by
    refine ⟨_, (w.at rl).1, DO_go h rl fun l B2 H2 e2 r2 h2 => DO_go h2 r2 fun u B3 H3 e3 r3 hR => ?_⟩
    refine ⟨a, ns.map V.int, rfl, by rw [hK]; exact (w.at r3).2, fun p hp => ?_⟩
    have gr := Grow.out (o := .lst (cutV (ns.map V.int) l u)) r3.hp.i hp
    exact k p _ _ B3 _ (e2.tr e3) (r3.grow gr) (r3.hp.i.none hp) (r3.hp.fresh hp).1 (r3.fresh hp) (r3.hp.fresh hp).2 upd_same ((DRs.of_ints (K := g.K)).cut l u) hR)
theorem de_rawlen (i : Nat) (bl : Bl X.mg) (w : Raw g ρ i a ns) (hK : X.K = g.K) (hR : R (.int ns.length)) (hN : X.N[i]? = some x := by rfl)
    (hv : Vis X.env.scope x := by first | exact Or.inl rfl | exact Or.inr (Or.inl rfl) | exact Or.inr (Or.inr rfl)) (hd : (x == ("__debug__" : Str)) = false := by decide) (hcd : (x == ("__classdict__" : Str)) = false := by decide) (hg : Gl X "len" := by rfl) :
    DE X g (.Call (.Name "len" p) [.Name x p1] [] pos) ρ R := .mk fun σ B H Q rl k =>
  (pe_callB call_len hg bl.len bt_len (pa_cons (pe_var hN hv hd hcd) pa_nil rfl) (by decide) (by decide) rfl rfl).w (by
    refine ⟨_, (w.at rl).1, _, ns.length, rfl, .inl ⟨ns.map V.int, by rw [hK]; exact (w.at rl).2, by rw [List.length_map]⟩, k _ (.int _) B H Ex.rfl' rl rfl hR⟩)
/-- a list of two ints of our own becomes a source of draws -/
theorem ads_same {s t : S} (e : s.ad = t.ad) : ∀ {ρ : List S} {i : Nat}, ρ[i]? = some t → ads (ρ.set i s) = ads ρ
  | [], i, h => by cases i <;> cases h
  | u :: r, 0, h => by
    cases h
    show s.ad ++ ads r = t.ad ++ ads r
    rw [e]
  | u :: r, i + 1, h => by
    show u.ad ++ ads (r.set i s) = u.ad ++ ads r
    rw [ads_same e (i := i) h]
theorem Rel.toFd {B H : Hp} {σ : L2.St} {i : Nat} {q : Addr} {m n : Int} (r : Rel g B H σ ρ) (h : ρ[i]? = some (.own q [.int m, .int n])) : Rel g B H σ (ρ.set i (.fd q)) := by
  obtain ⟨h1, h2, h3, h4, vs, h5, h6⟩ := slot_own r h
  refine ⟨r.hp, by rw [List.length_set]; exact r.len, fun j s e => ?_, by rw [ads_same (s := .fd q) (t := .own q [.int m, .int n]) rfl h]; exact r.nd⟩
  by_cases c : i = j
  · subst c
    have il : i < ρ.length := (List.getElem?_eq_some_iff.mp h).1
    rw [List.getElem?_set_self il] at e
    cases e
    obtain ⟨y1, w1, rfl, z1, y2, w2, rfl, z2, rfl⟩ := h6
    cases z1
    cases z2
    exact ⟨h1, h2, .inl h3, m, n, h5⟩
  · rw [List.getElem?_set_ne c] at e
    exact r.sl j s e
theorem dss_feed (i : Nat) {q : Addr} {m n : Int} {sts : List Stmt} (h : ρ[i]? = some (.own q [.int m, .int n])) (k : DSs X g sts (ρ.set i (.fd q)) Ro) : DSs X g sts ρ Ro := .mk fun σ B H Dn rl kk => k.go σ B H Dn (rl.toFd h) kk
end
/-! the law's own promise -/
def spLaw (K : PySem.W.Frag) : Sp := fun vs H Q _ => ∃ (a : Addr) (ns : List Int), vs = [.ref a] ∧ ns.length ≤ 63 ∧ SqL K H a (ns.map V.int) ∧ ∀ H', Q (.bl true) H'
/-- a def of the law's list and a number -/
def spG (K : PySem.W.Frag) (W : List Int → Int → (List D → Prop) → Prop) : Sp := fun vs H Q _ => vs.length = 2 ∧ ∃ (B : Hp) (a : Addr) (ns : List Int) (k : Int) (R : List D → Prop), vs = [.ref a, .int k] ∧ Ex B H ∧ SqL K H a (ns.map V.int) ∧ W ns k R ∧
  ∀ p vs ds B' H', Grow B H B' H' → H p = none → B' p = none → H' p = some (.lst vs) → DRs K B' ds vs → R ds → Q (.ref p) H'
def startG (N : List Str) (a : Addr) (k : Int) : List S := .raw (.ref a) :: .d (.int k) :: List.replicate (N.length - 2) .un
section
variable {P : Program} {w : World} {K : PySem.W.Frag} {mg : Str → Option Value} {base : Heap} {x qual : Str} {st : Stmt} {f : Addr} {fd : FuncData} {N ps : List Str} {k : Nat}
theorem ads_un (n : Nat) : ads (List.replicate n S.un) = [] := by
  induction n with
  | zero => rfl
  | succ n ih => exact ih
theorem fnL (sm : True) (F : Fun K x qual st f fd) (Sc : FnScope N ps (defScope st)) (hn : ps.length = 1)
    (body : ∀ (cdv : Value) (A : Around) (outer : List Env) (s : Shared) (H : Hp) (E : XK) (g : G) (a : Addr) (ns : List Int), Rm k (cxOf CX0 P w K mg base N qual (defScope st) f cdv A outer s H E).nox → g.K = K → ns.length ≤ 63 → Raw g (startX N a) 0 a ns →
      DSs (cxOf CX0 P w K mg base N qual (defScope st) f cdv A outer s H E).nox g (defBody st) (startX N a) (fun o => o = .rt (.bl true))) : GOk P w K mg base CX0 (k + 1) f fd ps (spLaw K) := by
  refine gok F Sc (fun vs H Q E ⟨a, ns, h, _⟩ => by rw [hn, h]; rfl) (fun cdv A outer s H vs Q E hr hg h => ?_)
  obtain ⟨a, ns, rfl, hl, hs, q⟩ := h
  have i : Ex (fun _ => none) H := fun _ _ z => nomatch z
  refine ⟨_, PSs.nox ssW, (body cdv A outer s H E ⟨K, fun _ => none, H, none⟩ a ns ⟨hr, hg, sm⟩ rfl hl ⟨rfl, hs, rfl⟩).go _ (fun _ => none) H _ (relX i N) ⟨?_, ?_, ?_, ?_, ?_⟩⟩
  · exact fun _ _ _ _ _ _ z => nomatch z
  · intro v d B' H' _ _ dd e
    cases e
    cases dd
    exact q H'
  · exact fun _ _ _ _ _ _ _ _ _ _ _ z => nomatch z
  · exact fun _ _ _ _ _ _ z => nomatch z
  · exact fun _ _ _ _ _ _ z => nomatch z
theorem relG {B H : Hp} {a : Addr} {k : Int} (i : Ex B H) (N : List Str) : Rel ⟨K, B, H, none⟩ B H (L2.start N [.ref a, .int k]) (startG N a k) := by
  refine ⟨⟨i, Ex.rfl', fun a o _ e => e, fun a _ e => e, fun p e => nomatch e⟩, ?_, fun i s e => ?_, ?_⟩
  · simp [L2.start, startG]
  · match i, e with
    | 0, e =>
      cases (show some (S.raw (.ref a)) = some s from e)
      rfl
    | 1, e =>
      cases (show some (S.d (.int k)) = some s from e)
      exact ⟨.int k, rfl, rfl⟩
    | i + 2, e =>
      have m := List.mem_of_getElem? (show (List.replicate (N.length - 2) S.un)[i]? = some s from e)
      cases (List.mem_replicate.mp m).2
      trivial
  · show (ads (List.replicate (N.length - 2) S.un)).Nodup
    rw [ads_un]
    exact List.nodup_nil
theorem fnG {W : List Int → Int → (List D → Prop) → Prop} (sm : True) (F : Fun K x qual st f fd) (Sc : FnScope N ps (defScope st)) (hn : ps.length = 2)
    (body : ∀ (cdv : Value) (A : Around) (outer : List Env) (s : Shared) (H : Hp) (E : XK) (g : G) (a : Addr) (ns : List Int) (j : Int) (R : List D → Prop), Rm k (cxOf CX0 P w K mg base N qual (defScope st) f cdv A outer s H E).nox → g.K = K → Raw g (startG N a j) 0 a ns → W ns j R →
      DSs (cxOf CX0 P w K mg base N qual (defScope st) f cdv A outer s H E).nox g (defBody st) (startG N a j) (endN R)) : GOk P w K mg base CX0 (k + 1) f fd ps (spG K W) := by
  refine gok F Sc (fun vs H Q E h => by rw [hn]; exact h.1) (fun cdv A outer s H vs Q E hr hg h => ?_)
  obtain ⟨hl, B, a, ns, j, R, rfl, i, hs, hW, q⟩ := h
  refine ⟨_, PSs.nox ssW, (body cdv A outer s H E ⟨K, B, H, none⟩ a ns j R ⟨hr, hg, sm⟩ rfl ⟨rfl, hs, rfl⟩ hW).go _ B H _ (relG i N) ⟨?_, ?_, ?_, ?_, ?_⟩⟩
  · exact fun _ _ _ _ _ _ z => z.elim
  · exact fun _ _ _ _ _ _ _ z => z.elim
  · exact fun p vs ds B' H' _ r hb h0 hp dd hR => q p vs ds B' H' r.grow0 h0 hb hp dd hR
  · exact fun _ _ _ _ _ _ z => z.elim
  · exact fun _ _ _ _ _ _ z => z.elim
end
section
variable {X : Cx} {g : G} {ρ : List S} {x y : Str} {p p1 p2 pos : Pos} {e : Expr} {a : Addr} {ns : List Int} {k : Nat} {ps : List Str} {Rs : List D → Prop} {R : D → Prop}
theorem dn_callG (i : Nat) {W : List Int → Int → (List D → Prop) → Prop} (Fd : Df X.prog X.w X.K X.mg X.base k x ps (spG X.K W)) (hr : Rm k X) (hK : X.K = g.K) (w : Raw g ρ i a ns) (h : DE X g e ρ fun d => ∃ j, d = .int j ∧ W ns j Rs)
    (hN : X.N[i]? = some y := by rfl) (hv : Vis X.env.scope y := by first | exact Or.inl rfl | exact Or.inr (Or.inl rfl) | exact Or.inr (Or.inr rfl)) (hd : (y == ("__debug__" : Str)) = false := by decide) (hcd : (y == ("__classdict__" : Str)) = false := by decide) (hg : Gl X x := by rfl)
    (hdb : (x == ("__debug__" : Str)) = false := by decide) (he : starEach [.Name y p1, e] X.env = (false, eval (.Name y p1) X.env) :: starEach [e] X.env := by rfl) (he2 : starEach [e] X.env = (false, eval e X.env) :: starEach [] X.env := by rfl)
    (hpl : (backTo pos (starEach [e] X.env)).any (·.1) = false := by rfl) : DN X g (.Call (.Name x p) [.Name y p1, e] [] pos) ρ Rs := .mk fun σ B H Q rl kk => by
  obtain ⟨f, fd, h1, h2, h3, h4⟩ := Fd.ex
  refine (pe_callG h4 hr hg h1 h2 h3 pass0 (pa_cons (pe_var hN hv hd hcd) (pa_cons pW pa_nil he2) he) hdb he hpl).w ?_
  refine ⟨_, (w.at rl).1, h.go σ B H _ rl fun v d B1 H1 e1 r1 dx ⟨j, ed, hW⟩ => ?_⟩
  subst ed
  cases dx
  exact ⟨rfl, B1, a, ns, j, Rs, rfl, r1.hp.i, by rw [hK]; exact (w.at r1).2, hW, fun p vs ds B' H' gr hp hb h5 dd hR => kk p vs ds B' H' (e1.tr gr.b) (r1.grow gr) hb (r1.hp.fresh hp).1 (r1.fresh hp) (r1.hp.fresh hp).2 h5 (by rw [← hK]; exact dd) hR⟩
/-- isinstance(ValueError(), C) -/
def exw (a : Addr) (T : String) : HO := .ext fun h => PySem.W.KitAt a T h
theorem pe_ve0 (bl : Bl X.mg) (hg : Gl X "ValueError") : PE X (.Call (.Name "ValueError" p) [] [] pos) (fun _ H Q => ∀ a, H a = none → Q (.ref a) (upd H a (exw a "ValueError"))) := by
  refine ⟨fun pins s σ H Q J h => wpAny_Call_Name_kw (ld_blt J hg bl.valueError boot_ValueError ?_ (by decide) (by decide))⟩
  obtain ⟨hp1, g1, d1, tk1, os1⟩ := s
  refine PyProof.Rows.callWith_type0 (wpAny_call_exc exb_ValueError.call (fun h' a mk => ?_) (Nat.zero_le _))
  have m := PySem.Heap.MadeExc.of mk
  have hn : H a = none := J.hok.gone m.new
  obtain ⟨t, ht, _, _⟩ := m.there
  have ok : ObjOk X.prog X.w (upd H a (exw a "ValueError")) h' a (exw a "ValueError") := ⟨⟨_, ht, rfl⟩, ⟨_, ht⟩, fun h1 h2 ⟨o, z1, z2⟩ kk => ⟨o, kk o z1, z2⟩⟩
  exact ⟨.ref a, _, J.laidN m.keeps m.new hn ok, rfl, h a hn⟩
def rIsW (K : PySem.W.Frag) : List V → Hp → VK → Prop := fun xs H Q => ∃ (a : Addr) (c : V) (cv : Value) (b : Bool), xs = [.ref a, c] ∧ H a = some (exw a "ValueError") ∧ (∀ u, RelV c u → u = cv) ∧ PySem.W.kitOne K (.type "ValueError") cv = some b ∧ Q (.bl b) H
theorem call_isW : CallR X (.builtin "isinstance") (rIsW X.K) := by
  intro pins s σ H xs us Q I r h
  obtain ⟨a, c, cv, b, rfl, ha, hcv, e, q⟩ := h
  cases r with
  | cons rx rr => cases rr with
    | cons rt rr =>
      cases rr
      cases rx
      cases hcv _ rt
      have J : PySem.W.KitAt a "ValueError" s.heap := by
        obtain ⟨z, _⟩ := I.hok a _ ha
        exact z
      exact PySem.W.kia_one (PySem.W.kitx_bexc PySem.F.excAttr_ValueError PySem.F.lkClass_ValueError PySem.F.soClass_ValueError (by rfl)) I.kIn J e (fun z => nomatch z) fun tk => ⟨.bl b, H, I.kept (t' := tk) fun _ _ z => z, rfl, q⟩
theorem de_veIs {T : Str} {q p0 : Pos} {C : Addr} {b : Bool} (bl : Bl X.mg) (hT : X.mg T = some (.ref C)) (hk : PySem.W.kitOne X.K (.type "ValueError") (.ref C) = some b) (hR : R (.bl b)) (hg : Gl X "isinstance" := by rfl) (hgV : Gl X "ValueError" := by rfl) (hgT : Gl X T := by rfl) (hTd : (T == ("__debug__" : Str)) = false := by decide) :
    DE X g (.Call (.Name "isinstance" p) [.Call (.Name "ValueError" p0) [] [] p1, .Name T q] [] pos) ρ R := .mk fun σ B H Q rl k =>
  (pe_callB call_isW hg bl.isi bt_isi (pa_cons (pe_ve0 bl hgV) (pa_cons (pe_glob (v := .ref C) hgT hT rfl hTd) pa_nil rfl) rfl) (by decide) (by decide) rfl rfl).w fun a hn =>
    ⟨a, .ref C, .ref C, b, rfl, upd_same, fun u r => r, hk, k _ (.bl b) B _ Ex.rfl' (rl.grow (Grow.out rl.hp.i hn)) rfl hR⟩
end
end DL
set_option Elab.async false
set_option linter.all false
set_option autoImplicit false
set_option maxRecDepth 100000
set_option maxHeartbeats 400000
namespace DL
open PySem L2 PyProof.Rows
section
variable {X : Cx} {g : G} {ρ : List S} {R : D → Prop} {j1 j2 : _} {p1 p2 pos : Pos}
/-- {"k": i} -/
theorem de_dic1 {k : Str} {i : Int} (h : R (.dic [(.inr k, .int i)])) : DE X g (.Dict [some (.Constant (.str k) j1 p1)] [.Constant (.int i) j2 p2] pos) ρ R := .mk fun σ B H Q rl kk =>
  (pe_disp (pps_cons pe_str pe_int pps_nil) rfl rfl (by simp) (by show 1 ≤ 15; decide)).w fun p hp => by
    refine ⟨upd_same, [(.inr k, .int i)], rfl, by show 1 ≤ 15; decide, ?_⟩
    have e : upd (upd H p (.dK [])) p (.dK (mergeK [] [((.inr k : Key), V.int i)])) = upd H p (.dK [((.inr k : Key), V.int i)]) := by
      funext b
      by_cases c : b = p
      · subst c
        rw [upd_same, upd_same]
        rfl
      · rw [upd_ne c, upd_ne c, upd_ne c]
    rw [e]
    have gr := Grow.new (o := .dK [((.inr k : Key), V.int i)]) rl.hp.i hp
    exact kk _ (.dic [(.inr k, .int i)]) _ _ gr.b (rl.grow gr) ⟨p, _, rfl, upd_same, .int i, [], rfl, rfl, rfl⟩ h
end
end DL
set_option Elab.async false
set_option linter.all false
set_option autoImplicit false
set_option maxRecDepth 100000
set_option maxHeartbeats 400000
/-! what the written part says of the exception classes -/
namespace DL
open PySem L2 PyProof.Rows
/-- a class of exceptions, nothing of it special -/
def xB (K : PySem.W.Frag) (C : Addr) : Bool :=
  decide (PySem.W.findIn K (.ref C) "__setattr__" = some (some (.builtin "object.__setattr__"))) &&
  (decide (PySem.W.subIn K (.ref C) (.type "BaseException") = some true) &&
  (decide (PySem.W.typeIn K (.ref C) = some (.type "type")) &&
  (PySem.W.keepIn K (.ref C) &&
  (xfB K C &&
  (decide (PySem.W.findIn K (.ref C) "__class__" = some (some (.builtin "object.__class__"))) &&
  (decide (PySem.W.specialIn K (.builtin "object.__class__") "__get__" = some (some (.builtin "getset_descriptor.__get__"))) &&
  (decide (PySem.W.takesIn K (.builtin "object.__class__") = some true) &&
  decide (PySem.W.mroIn K C (.type "object") = some true))))))))
structure XB (K : PySem.W.Frag) (C : Addr) : Prop where
  sa : PySem.W.findIn K (.ref C) "__setattr__" = some (some (.builtin "object.__setattr__"))
  ex : PySem.W.subIn K (.ref C) (.type "BaseException") = some true
  ty : PySem.W.typeIn K (.ref C) = some (.type "type")
  kp : PySem.W.keepIn K (.ref C) = true
  F : XfC K C
  T : ExcC K C
theorem xB_ok {K : PySem.W.Frag} {C : Addr} (h : xB K C = true) : XB K C := by
  unfold xB at h
  obtain ⟨h1, h⟩ := Bool.and_eq_true_iff.mp h
  obtain ⟨h2, h⟩ := Bool.and_eq_true_iff.mp h
  obtain ⟨h3, h⟩ := Bool.and_eq_true_iff.mp h
  obtain ⟨h4, h⟩ := Bool.and_eq_true_iff.mp h
  obtain ⟨h5, h⟩ := Bool.and_eq_true_iff.mp h
  obtain ⟨h6, h⟩ := Bool.and_eq_true_iff.mp h
  obtain ⟨h7, h⟩ := Bool.and_eq_true_iff.mp h
  obtain ⟨h8, h9⟩ := Bool.and_eq_true_iff.mp h
  have f := xfB_ok h5
  exact ⟨of_decide_eq_true h1, of_decide_eq_true h2, of_decide_eq_true h3, h4, f, ⟨f.ga, f.gg, f.exC, f.hdC, of_decide_eq_true h6, of_decide_eq_true h7, of_decide_eq_true h8, of_decide_eq_true h9⟩⟩
/-- of which classes its exceptions are -/
def kitR (K : PySem.W.Frag) (C : Addr) (j : Nat) (cs : List Addr) (cW : Addr) : Bool :=
  decide (cs.map (fun D => PySem.W.kitOne K (.ref C) (.ref D)) = (List.range cs.length).map fun i => some (decide (j = i))) &&
  (decide (PySem.W.kitOne K (.ref C) (.ref cW) = some true) &&
  (decide (PySem.W.kitOne K (.ref C) (.type "ValueError") = some true) &&
  decide (PySem.W.exmOne K (.ref C) (.ref cW) = some true)))
structure KitR (K : PySem.W.Frag) (C : Addr) (j : Nat) (cs : List Addr) (cW : Addr) : Prop where
  r : ∀ i, i < cs.length → PySem.W.kitOne K (.ref C) (.ref (cs.getD i 0)) = some (decide (j = i))
  w : PySem.W.kitOne K (.ref C) (.ref cW) = some true
  v : PySem.W.kitOne K (.ref C) (.type "ValueError") = some true
  e : PySem.W.exmOne K (.ref C) (.ref cW) = some true
theorem kitR_ok {K : PySem.W.Frag} {C : Addr} {j : Nat} {cs : List Addr} {cW : Addr} (h : kitR K C j cs cW = true) : KitR K C j cs cW := by
  unfold kitR at h
  obtain ⟨h1, h⟩ := Bool.and_eq_true_iff.mp h
  obtain ⟨h2, h⟩ := Bool.and_eq_true_iff.mp h
  obtain ⟨h3, h4⟩ := Bool.and_eq_true_iff.mp h
  refine ⟨fun i hi => ?_, of_decide_eq_true h2, of_decide_eq_true h3, of_decide_eq_true h4⟩
  have e := congrArg (fun l => l[i]?) (of_decide_eq_true h1)
  simp only [List.getElem?_map, List.getElem?_range hi, List.getElem?_eq_getElem hi, Option.map_some] at e
  rw [List.getD_eq_getElem?_getD, List.getElem?_eq_getElem hi, Option.getD_some]
  exact Option.some.inj e
theorem refs1 {W : Addr} : PySem.HandSPX.refsVE [.ref W, .type "ValueError", .type "Exception", .type "BaseException", .type "object"] = true := by
  show PySem.HandSPX.refsVE [.type "ValueError", .type "Exception", .type "BaseException", .type "object"] = true
  decide +kernel
section
variable {P : Program} {w : World} {K : PySem.W.Frag} {mg : Str → Option Value} {base : Heap} {x n qual : Str} {st : Stmt} {C f N : Addr} {oc : Value} {od an : Option Addr} {osl : Array (Option Value)} {kV doc pm cdv ct : Value}
variable {nm qn : Str} {bs bm : List Value} {sn : List Str} {sub : List Value} {ab : Bool} {col : Option Bool} {dd : Option Addr} {k0 k1 k2 k3 k5 : Option Value}
theorem oexc_mk (b : XB K C) (xL : K.lookup C = some (excClassObj nm qn C N bs bm true sn sub ab col dd k0 k1 k2 k3 k5 "ValueError.__new__")) (hb : PySem.HandSPX.refsVE bm = true) : OexC K C :=
  ⟨⟨nm, qn, N, bs, bm, sn, sub, ab, col, dd, k0, k1, k2, k3, k5, xL, hb⟩, b.sa, b.ex, b.ty, b.kp⟩
theorem xcls_mk (m : mg x = some (.ref C)) (b : XB K C) (xL : K.lookup C = some (excClassObj nm qn C N bs bm true sn sub ab col dd k0 k1 k2 k3 k5 "ValueError.__new__")) (hb : PySem.HandSPX.refsVE bm = true) (no : PySem.W.findIn K (.ref C) n = some none)
    (iC : PySem.W.findIn K (.ref C) "__init__" = some (some (.ref f))) (tI : PySem.W.typeIn K (.ref f) = some (.type "function"))
    (l : K.lookup f = some ⟨oc, od, .func (PySem.W.fnOf "__init__" qual (defArgs st) (defBody st) (defScope st) .none kV doc pm an cdv ct), osl⟩) (c : PySem.W.codeIn K cdv qual = true) (k : PySem.W.keepIn K (.ref f) = true)
    (Sc : FnScope ["self", n] ["self", n] (defScope st)) {p1 p2 p3 p4 : Pos} (hbd : defBody st = [.Assign [.Attribute (.Name "self" p1) n p2] (.Name n p3) p4]) (v0 : Vis (defScope st) "self") (v1 : Vis (defScope st) n)
    (h1 : (n == ("__debug__" : Str)) = false) (h2 : (n == ("__classdict__" : Str)) = false)
    (b1 : ∀ (a u : Value), bindArgs (PySem.W.fnOf "__init__" qual (defArgs st) (defBody st) (defScope st) .none kV doc pm an cdv ct) ⟨[a, u], []⟩ = pure [(("self" : Str), a), (n, u)])
    (b2 : ∀ (a u : Value), bindArgs (PySem.W.fnOf "__init__" qual (defArgs st) (defBody st) (defScope st) .none kV doc pm an cdv ct) ⟨[a], [(n, u)]⟩ = pure [(("self" : Str), a), (n, u)]) : XCls P w K mg base x n C :=
  ⟨m, oexc_mk b xL hb, b.F, no, f, _, iC, tI, ini_ok (fun_mk l c k) Sc (oexc_mk b xL hb) no hbd v0 v1 h1 h2, fun s a u => .of_eq (b1 _ u), fun s a u => .of_eq (b2 _ u)⟩
theorem xcls0_mk (m : mg x = some (.ref C)) (b : XB K C) (xL : K.lookup C = some (excClassObj nm qn C N bs bm true sn sub ab col dd k0 k1 k2 k3 k5 "ValueError.__new__")) (hb : PySem.HandSPX.refsVE bm = true)
    (iC : PySem.W.findIn K (.ref C) "__init__" = some (some (.ref f))) (tI : PySem.W.typeIn K (.ref f) = some (.type "function"))
    (l : K.lookup f = some ⟨oc, od, .func (PySem.W.fnOf "__init__" qual (defArgs st) (defBody st) (defScope st) .none kV doc pm an cdv ct), osl⟩) (c : PySem.W.codeIn K cdv qual = true) (k : PySem.W.keepIn K (.ref f) = true)
    (Sc : FnScope ["self"] ["self"] (defScope st)) {p4 : Pos} (hbd : defBody st = [.Pass p4])
    (b1 : ∀ (a : Value), bindArgs (PySem.W.fnOf "__init__" qual (defArgs st) (defBody st) (defScope st) .none kV doc pm an cdv ct) ⟨[a], []⟩ = pure [(("self" : Str), a)]) : XCls0 P w K mg base x C :=
  ⟨m, oexc_mk b xL hb, f, _, iC, tI, ini0_ok (fun_mk l c k) Sc hbd, fun s a => .of_eq (b1 _)⟩
end
end DL
set_option Elab.async false
set_option linter.all false
set_option autoImplicit false
set_option maxRecDepth 100000
set_option maxHeartbeats 400000
/-! the values of k03 can be shown, sixteen times, too -/
namespace DL
open PySem L2
structure Sma (d : D) : Prop where
  ok : d.ok = true
  sh : d.py.showable = true
  dp : d.py.depth ≤ 60
  sz : d.py.shown.length ≤ 1000
  sy : d.sy = true
  dc : d.it = true ∨ d.py.hasDict = false
theorem rep16 (d : D) : List.replicate 16 d = [d, d, d, d, d, d, d, d, d, d, d, d, d, d, d, d] := rfl
theorem Sma.rp {d : D} (h : Sma d) : d.Rp ∧ (D.lst (List.replicate 16 d)).Rp := by
  have sz : d.py.shown.length ≤ sizeLine := by rw [sizeLine_eq]; have := h.sz; omega
  refine ⟨⟨h.ok, h.sh, by have := h.dp; omega, sz, h.sy⟩, ?_⟩
  rw [rep16]
  refine ⟨?_, ?_, ?_, ?_, ?_⟩
  · simp only [D.ok, oks, h.ok, Bool.and_self]
  · simp only [D.py, pys, PyData.showable, PyData.showableAll, h.sh, Bool.and_self]
  · have := h.dp
    simp only [D.py, pys, PyData.depth, PyData.depthAll]
    omega
  · have := h.sz
    simp only [D.py, pys, PyData.shown, PyData.shownAll]
    refine Nat.le_trans (PySem.listText_len_le _) ?_
    rw [sizeLine_eq]
    simp only [List.map_cons, List.map_nil, List.sum_cons, List.sum_nil, List.length_cons, List.length_nil]
    omega
  · unfold D.sy
    rcases h.dc with e | e
    · simp [e]
    · simp only [D.py, pys, PyData.hasDict, PyData.hasDictAll, e]
      rfl
def nest : Nat → D
  | 0 => .lst []
  | n + 1 => .lst [nest n]
theorem nest_all : ∀ n : Nat, (nest n).ok = true ∧ (nest n).py.showable = true ∧ (nest n).py.depth ≤ n + 1 ∧ (nest n).py.shown.length ≤ 5 * n + 5 ∧ (nest n).py.hasDict = false
  | 0 => by decide +kernel
  | n + 1 => by
    obtain ⟨h1, h2, h3, h4, h5⟩ := nest_all n
    refine ⟨?_, ?_, ?_, ?_, ?_⟩
    · simp only [nest, D.ok, oks, h1, Bool.and_self]
    · simp only [nest, D.py, pys, PyData.showable, PyData.showableAll, h2, Bool.and_self]
    · simp only [nest, D.py, pys, PyData.depth, PyData.depthAll]
      omega
    · simp only [nest, D.py, pys, PyData.shown, PyData.shownAll]
      refine Nat.le_trans (PySem.listText_len_le _) ?_
      simp only [List.map_cons, List.map_nil, List.sum_cons, List.sum_nil, List.length_cons, List.length_nil]
      omega
    · simp only [nest, D.py, pys, PyData.hasDict, PyData.hasDictAll, h5]
      rfl
theorem nest_sma : Sma (nest 48) := by
  obtain ⟨h1, h2, h3, h4, h5⟩ := nest_all 48
  refine ⟨h1, h2, by omega, by omega, ?_, .inr h5⟩
  have e : (nest 48).sy = (!(nest 48).py.hasDict || [nest 47].all D.it) := rfl
  rw [e, h5]
  rfl
def smaB (d : D) : Bool := d.ok && (d.py.showable && (decide (d.py.depth ≤ 60) && (decide (d.py.shown.length ≤ 1000) && (d.sy && (d.it || !d.py.hasDict)))))
theorem smaB_ok {d : D} (h : smaB d = true) : Sma d := by
  unfold smaB at h
  simp only [Bool.and_eq_true, decide_eq_true_eq, Bool.or_eq_true, Bool.not_eq_true'] at h
  exact ⟨h.1, h.2.1, h.2.2.1, h.2.2.2.1, h.2.2.2.2.1, h.2.2.2.2.2⟩
def valsB : List D := [.non, .int 0, .int (-5), .bl true, .str "text", .tup [], .tup [.int 1, .lst [.int 2]], .lst [.int 3, .tup [.int 4]], .int (10 ^ 39), .dic [(.inr "a", .int 1)]]
def valsC : List D := valsB ++ [nest 48]
theorem valsB_ok : valsB.all smaB = true := by decide +kernel
theorem vals_int : ((List.range 100).all fun n => smaB (.int (n : Int))) = true := by decide +kernel
end DL
set_option Elab.async false
set_option linter.all false
set_option autoImplicit false
set_option maxRecDepth 100000
set_option maxHeartbeats 400000
namespace W
open PySem L2 PyProof.Rows DL
def top (i : Nat) : Stmt := PySem.Challenge.pw_whoseword_k03_errors_by_hand.main.body.getD i (.Pass ⟨0, 0, 0, 0⟩)
abbrev s_BadMatter_init : Stmt := inClass (top 2) 0
abbrev n_BadMatter_init : List Str := ["self", "place"]
theorem sc_BadMatter_init : FnScope ["self", "place"] ["self", "place"] (defScope s_BadMatter_init) := ⟨rfl, rfl, rfl, by decide +kernel, rfl, by decide +kernel, by decide +kernel⟩
-- slots: 0 self, 1 place
abbrev s_Unlike_init : Stmt := inClass (top 3) 0
abbrev n_Unlike_init : List Str := ["self", "place"]
theorem sc_Unlike_init : FnScope ["self", "place"] ["self", "place"] (defScope s_Unlike_init) := ⟨rfl, rfl, rfl, by decide +kernel, rfl, by decide +kernel, by decide +kernel⟩
-- slots: 0 self, 1 place
abbrev s_NotBalanced_init : Stmt := inClass (top 4) 0
abbrev n_NotBalanced_init : List Str := ["self", "ring"]
theorem sc_NotBalanced_init : FnScope ["self", "ring"] ["self", "ring"] (defScope s_NotBalanced_init) := ⟨rfl, rfl, rfl, by decide +kernel, rfl, by decide +kernel, by decide +kernel⟩
-- slots: 0 self, 1 ring
abbrev s_NoFit_init : Stmt := inClass (top 5) 0
abbrev n_NoFit_init : List Str := ["self", "most"]
theorem sc_NoFit_init : FnScope ["self", "most"] ["self", "most"] (defScope s_NoFit_init) := ⟨rfl, rfl, rfl, by decide +kernel, rfl, by decide +kernel, by decide +kernel⟩
-- slots: 0 self, 1 most
abbrev s_BadSaying_init : Stmt := inClass (top 6) 0
abbrev n_BadSaying_init : List Str := ["self", "saying"]
theorem sc_BadSaying_init : FnScope ["self", "saying"] ["self", "saying"] (defScope s_BadSaying_init) := ⟨rfl, rfl, rfl, by decide +kernel, rfl, by decide +kernel, by decide +kernel⟩
-- slots: 0 self, 1 saying
abbrev s_NoSaying_init : Stmt := inClass (top 7) 0
abbrev n_NoSaying_init : List Str := ["self", "number"]
theorem sc_NoSaying_init : FnScope ["self", "number"] ["self", "number"] (defScope s_NoSaying_init) := ⟨rfl, rfl, rfl, by decide +kernel, rfl, by decide +kernel, by decide +kernel⟩
-- slots: 0 self, 1 number
abbrev s_Contradicts_init : Stmt := inClass (top 8) 0
abbrev n_Contradicts_init : List Str := ["self", "pair"]
theorem sc_Contradicts_init : FnScope ["self", "pair"] ["self", "pair"] (defScope s_Contradicts_init) := ⟨rfl, rfl, rfl, by decide +kernel, rfl, by decide +kernel, by decide +kernel⟩
-- slots: 0 self, 1 pair
abbrev s_TooMuch_init : Stmt := inClass (top 9) 0
abbrev n_TooMuch_init : List Str := ["self", "limit"]
theorem sc_TooMuch_init : FnScope ["self", "limit"] ["self", "limit"] (defScope s_TooMuch_init) := ⟨rfl, rfl, rfl, by decide +kernel, rfl, by decide +kernel, by decide +kernel⟩
-- slots: 0 self, 1 limit
abbrev s_NothingDone_init : Stmt := inClass (top 10) 0
abbrev n_NothingDone_init : List Str := ["self"]
theorem sc_NothingDone_init : FnScope ["self"] ["self"] (defScope s_NothingDone_init) := ⟨rfl, rfl, rfl, by decide +kernel, rfl, by decide +kernel, by decide +kernel⟩
-- slots: 0 self
abbrev s_law_feed : Stmt := top 12
abbrev n_law_feed : List Str := ["script", "k", "seed", "digits"]
theorem sc_law_feed : FnScope ["script", "k", "seed", "digits"] ["script", "k"] (defScope s_law_feed) := ⟨rfl, rfl, rfl, by decide +kernel, rfl, by decide +kernel, by decide +kernel⟩
-- slots: 0 script, 1 k, 2 seed, 3 digits
abbrev s_law_take : Stmt := top 13
abbrev n_law_take : List Str := ["feed", "many", "digit"]
theorem sc_law_take : FnScope ["feed", "many", "digit"] ["feed", "many"] (defScope s_law_take) := ⟨rfl, rfl, rfl, by decide +kernel, rfl, by decide +kernel, by decide +kernel⟩
-- slots: 0 feed, 1 many, 2 digit
abbrev s_law_pick : Stmt := top 14
abbrev n_law_pick : List Str := ["feed", "some"]
theorem sc_law_pick : FnScope ["feed", "some"] ["feed", "some"] (defScope s_law_pick) := ⟨rfl, rfl, rfl, by decide +kernel, rfl, by decide +kernel, by decide +kernel⟩
-- slots: 0 feed, 1 some
abbrev s_law_kinds : Stmt := top 15
abbrev n_law_kinds : List Str := ["error", "some"]
theorem sc_law_kinds : FnScope ["error", "some"] ["error"] (defScope s_law_kinds) := ⟨rfl, rfl, rfl, by decide +kernel, rfl, by decide +kernel, by decide +kernel⟩
-- slots: 0 error, 1 some
abbrev s_law_raised : Stmt := top 16
abbrev n_law_raised : List Str := ["way", "value", "error"]
theorem sc_law_raised : FnScope ["way", "value", "error"] ["way", "value"] (defScope s_law_raised) := ⟨rfl, rfl, rfl, by decide +kernel, rfl, by decide +kernel, by decide +kernel⟩
-- slots: 0 way, 1 value, 2 error
abbrev s_law_fields : Stmt := top 17
abbrev n_law_fields : List Str := ["value", "found"]
theorem sc_law_fields : FnScope ["value", "found"] ["value"] (defScope s_law_fields) := ⟨rfl, rfl, rfl, by decide +kernel, rfl, by decide +kernel, by decide +kernel⟩
-- slots: 0 value, 1 found
abbrev s_law : Stmt := top 18
abbrev n_law : List Str := ["script", "k", "feed", "deep", "turn", "some", "value", "shown", "way", "spot"]
theorem sc_law : FnScope ["script", "k", "feed", "deep", "turn", "some", "value", "shown", "way", "spot"] ["script"] (defScope s_law) := ⟨rfl, rfl, rfl, by decide +kernel, rfl, by decide +kernel, by decide +kernel⟩
-- slots: 0 script, 1 k, 2 feed, 3 deep, 4 turn, 5 some, 6 value, 7 shown, 8 way, 9 spot
/-! ### k03: the errors -/
structure Xs (P : Program) (w : World) (K : PySem.W.Frag) (mg : Str → Option Value) (base : Heap) (c : Nat → Addr) (cW : Addr) : Prop where
  i0 : XCls P w K mg base "BadMatter" "place" (c 0)
  i1 : XCls P w K mg base "Unlike" "place" (c 1)
  i2 : XCls P w K mg base "NotBalanced" "ring" (c 2)
  i3 : XCls P w K mg base "NoFit" "most" (c 3)
  i4 : XCls P w K mg base "BadSaying" "saying" (c 4)
  i5 : XCls P w K mg base "NoSaying" "number" (c 5)
  i6 : XCls P w K mg base "Contradicts" "pair" (c 6)
  i7 : XCls P w K mg base "TooMuch" "limit" (c 7)
  i8 : XCls0 P w K mg base "NothingDone" (c 8)
  kp : ∀ j, j < 9 → PySem.W.keepIn K (.ref (c j)) = true
  T : ∀ j, j < 9 → ExcC K (c j)
  mW : mg "WordError" = some (.ref cW)
  ex : ∀ j, j < 9 → PySem.W.exmOne K (.ref (c j)) (.ref cW) = some true
  kit : ∀ j, j < 9 → ∀ i, i < 9 → PySem.W.kitOne K (.ref (c j)) (.ref (c i)) = some (decide (j = i))
  kitW : ∀ j, j < 9 → PySem.W.kitOne K (.ref (c j)) (.ref cW) = some true
  kitV : ∀ j, j < 9 → PySem.W.kitOne K (.ref (c j)) (.type "ValueError") = some true
def kindsD (j : Nat) : List D := (List.range 9).map (fun i => D.bl (decide (j = i))) ++ [.bl true, .bl true]
def Wkinds (c : Nat → Addr) : Addr → (List D → Prop) → Prop := fun C R => ∃ j, j < 9 ∧ C = c j ∧ R (kindsD j)
def Wraised (c : Nat → Addr) : List D → (Addr → Prop) → Prop := fun ds R => ∃ (j : Nat) (d : D), ds = [.int j, d] ∧ j < 9 ∧ R (c j)
section
variable {P : Program} {w : World} {K : PySem.W.Frag} {mg : Str → Option Value} {base : Heap} {f : Addr} {fd : FuncData} {c : Nat → Addr} {cW : Addr}
theorem f_kinds (F : Fun K "_law_kinds" "_law_kinds" s_law_kinds f fd) (sm : True) (bl : Bl mg) (S : Xs P w K mg base c cW) : GOk P w K mg base CX0 1 f fd ["error"] (spX K (Wkinds c)) := by
  refine fnX sm F sc_law_kinds rfl fun cdv A outer s H E g a C d R hr hK hf h0 hd hW => ?_
  obtain ⟨j, hj, rfl, hR⟩ := hW
  have nd := sc_law_kinds.nd
  have T := S.T j hj
  have k := S.kit j hj
  refine dss_cons (ds_set 1 nd (de_n (dn_lst ?_)))
  refine da_cons (de_isXC 0 bl S.i0.m hK.symm rfl h0 hd hf T (k 0 (by decide)) ?_)
  refine da_cons (de_isXC 0 bl S.i1.m hK.symm rfl h0 hd hf T (k 1 (by decide)) ?_)
  refine da_cons (de_isXC 0 bl S.i2.m hK.symm rfl h0 hd hf T (k 2 (by decide)) ?_)
  refine da_nil ⟨by show 3 ≤ sizeLine; decide, ?_⟩
  refine dss_cons (ds_set 1 nd (de_n (dn_cat (de_name 1 rfl (de_n (dn_lst ?_))))))
  refine da_cons (de_isXC 0 bl S.i3.m hK.symm rfl h0 hd hf T (k 3 (by decide)) ?_)
  refine da_cons (de_isXC 0 bl S.i4.m hK.symm rfl h0 hd hf T (k 4 (by decide)) ?_)
  refine da_cons (de_isXC 0 bl S.i5.m hK.symm rfl h0 hd hf T (k 5 (by decide)) ?_)
  refine da_nil ⟨by show 3 ≤ sizeLine; decide, _, _, rfl, rfl, by show 6 ≤ sizeLine; decide, ?_⟩
  refine dss_cons (ds_set 1 nd (de_n (dn_cat (de_name 1 rfl (de_n (dn_lst ?_))))))
  refine da_cons (de_isXC 0 bl S.i6.m hK.symm rfl h0 hd hf T (k 6 (by decide)) ?_)
  refine da_cons (de_isXC 0 bl S.i7.m hK.symm rfl h0 hd hf T (k 7 (by decide)) ?_)
  refine da_cons (de_isXC 0 bl S.i8.m hK.symm rfl h0 hd hf T (k 8 (by decide)) ?_)
  refine da_nil ⟨by show 3 ≤ sizeLine; decide, _, _, rfl, rfl, by show 9 ≤ sizeLine; decide, ?_⟩
  refine dss_one (ds_retN (dn_cat (de_name 1 rfl (de_n (dn_lst ?_)))))
  refine da_cons (de_isXC 0 bl S.mW hK.symm rfl h0 hd hf T (S.kitW j hj) ?_)
  refine da_cons (de_isXV 0 bl hK.symm rfl h0 hd hf T (S.kitV j hj) ?_)
  exact da_nil ⟨by show 2 ≤ sizeLine; decide, _, _, rfl, rfl, by show 11 ≤ sizeLine; decide, hR⟩
/-- what stands behind the raise of an error with a dict -/
theorem raised_end {B H : Hp} {C dx a : Addr} {fs : List (Str × V)} (i : Ex B H) (h1 : H dx = none) (h2 : upd H dx (.xd fs) a = none) :
    Grow B H B (upd (upd H dx (.xd fs)) a (exv a C (some dx))) ∧ upd (upd H dx (.xd fs)) a (exv a C (some dx)) a = some (exv a C (some dx)) ∧ H a = none ∧ DicAt (upd (upd H dx (.xd fs)) a (exv a C (some dx))) (some dx) := by
  have ne : dx ≠ a := fun z => by rw [z, upd_same] at h2; cases h2
  have h3 : H a = none := by rw [upd_ne ne.symm] at h2; exact h2
  exact ⟨(Grow.out i h1).tr (Grow.out (i.tr (Ex.up h1)) h2), upd_same, h3, .inr ⟨dx, fs, rfl, (upd_ne ne).trans upd_same⟩⟩
def tbR (c : Nat → Addr) (W : WX) : TS := tIfJ 0 (tRX (c 0) "place" W) (tIfJ 1 (tRX (c 1) "place" W) (tIfJ 2 (tRX (c 2) "ring" W) (tIfJ 3 (tRX (c 3) "most" W) (tIfJ 4 (tRX (c 4) "saying" W) (tIfJ 5 (tRX (c 5) "number" W) (tIfJ 6 (tRX (c 6) "pair" W) (tIfJ 7 (tRX (c 7) "limit" W) (fun _ σ H => W (.ref (c 8)) none σ H))))))))
theorem f_raised (F : Fun K "_law_raised" "_law_raised" s_law_raised f fd) (sm : True) (S : Xs P w K mg base c cW) : GOk P w K mg base CX0 3 f fd ["way", "value"] (spR K 2 (Wraised c)) := by
  refine gok F sc_law_raised (fun vs H Q E h => h.1) (fun cdv A outer s H vs Q E hr hg h => ?_)
  obtain ⟨hl, B, ds, R, i, d, ⟨j, dy, rfl, hj, hR⟩, q⟩ := h
  obtain ⟨_, _, rfl, rfl, y, _, rfl, hy, rfl⟩ := d
  have nd := sc_law_raised.nd
  have v0 : Vis (defScope s_law_raised) "way" := .inl rfl
  have v1 : Vis (defScope s_law_raised) "value" := .inl rfl
  refine ⟨_, pss_one (ps_try_ret (x := "WordError") (n := "error") (i := 2) (c := .ref cW) (tb := tbR c) rfl rfl nd rfl rfl ⟨rfl, rfl, .inl S.mW⟩ rfl rfl fun W pn xe tk _ => ?_), ?_⟩
  · have hr2 : Rm 2 ((cxOf CX0 P w K mg base n_law_raised "_law_raised" (defScope s_law_raised) f cdv A outer s H E).tr pn xe) := ⟨hr, hg, sm⟩
    refine pss_ifj rfl v0 (by decide) (by decide) (fun _ _ _ _ h => h) (ps_rx S.i0 (S.kp 0 (by decide)) hr2 rfl rfl (by decide) tk rfl v1 (by decide) (by decide)) ?_
    refine pss_ifj rfl v0 (by decide) (by decide) (fun _ _ _ _ h => h) (ps_rx S.i1 (S.kp 1 (by decide)) hr2 rfl rfl (by decide) tk rfl v1 (by decide) (by decide)) ?_
    refine pss_ifj rfl v0 (by decide) (by decide) (fun _ _ _ _ h => h) (ps_rx S.i2 (S.kp 2 (by decide)) hr2 rfl rfl (by decide) tk rfl v1 (by decide) (by decide)) ?_
    refine pss_ifj rfl v0 (by decide) (by decide) (fun _ _ _ _ h => h) (ps_rx S.i3 (S.kp 3 (by decide)) hr2 rfl rfl (by decide) tk rfl v1 (by decide) (by decide)) ?_
    refine pss_ifj rfl v0 (by decide) (by decide) (fun _ _ _ _ h => h) (ps_rx S.i4 (S.kp 4 (by decide)) hr2 rfl rfl (by decide) tk rfl v1 (by decide) (by decide)) ?_
    refine pss_ifj rfl v0 (by decide) (by decide) (fun _ _ _ _ h => h) (ps_rx S.i5 (S.kp 5 (by decide)) hr2 rfl rfl (by decide) tk rfl v1 (by decide) (by decide)) ?_
    refine pss_ifj rfl v0 (by decide) (by decide) (fun _ _ _ _ h => h) (ps_rx S.i6 (S.kp 6 (by decide)) hr2 rfl rfl (by decide) tk rfl v1 (by decide) (by decide)) ?_
    refine pss_ifj rfl v0 (by decide) (by decide) (fun _ _ _ _ h => h) (ps_rx S.i7 (S.kp 7 (by decide)) hr2 rfl rfl (by decide) tk rfl v1 (by decide) (by decide)) ?_
    exact pss_one (ps_rx0 S.i8 (S.kp 8 (by decide)) hr2 rfl rfl (by decide) tk)
  · have fin : ∀ (m : Nat) (n : Str), m < 9 → j = m → ∀ dx, H dx = none → wRet K (.ref cW) 2 { nx := fun _ H' => Q .non H', rt := Q } (.ref (c m)) (some dx) (L2.start n_law_raised [V.int (j : Int), y]) (upd H dx (.xd [(n, y)])) := by
      intro m n hm e dx hx
      subst e
      refine ⟨c j, rfl, S.ex j hm, fun a ha => ?_⟩
      obtain ⟨g1, g2, g3, g4⟩ := raised_end (C := c j) i hx ha
      exact q a (c j) (some dx) _ g1 g2 g3 g4 hR
    refine ⟨(j : Int), rfl, fun e => ⟨y, rfl, fin 0 "place" (by decide) (by omega)⟩, fun n0 => ?_⟩
    refine ⟨(j : Int), rfl, fun e => ⟨y, rfl, fin 1 "place" (by decide) (by omega)⟩, fun n1 => ?_⟩
    refine ⟨(j : Int), rfl, fun e => ⟨y, rfl, fin 2 "ring" (by decide) (by omega)⟩, fun n2 => ?_⟩
    refine ⟨(j : Int), rfl, fun e => ⟨y, rfl, fin 3 "most" (by decide) (by omega)⟩, fun n3 => ?_⟩
    refine ⟨(j : Int), rfl, fun e => ⟨y, rfl, fin 4 "saying" (by decide) (by omega)⟩, fun n4 => ?_⟩
    refine ⟨(j : Int), rfl, fun e => ⟨y, rfl, fin 5 "number" (by decide) (by omega)⟩, fun n5 => ?_⟩
    refine ⟨(j : Int), rfl, fun e => ⟨y, rfl, fin 6 "pair" (by decide) (by omega)⟩, fun n6 => ?_⟩
    refine ⟨(j : Int), rfl, fun e => ⟨y, rfl, fin 7 "limit" (by decide) (by omega)⟩, fun n7 => ?_⟩
    have e : j = 8 := by omega
    subst e
    refine ⟨c 8, rfl, S.ex 8 hj, fun a ha => ?_⟩
    exact q a (c 8) none _ (Grow.out i ha) upd_same ha (.inl rfl) hR
end
def Wfields : WtN := fun ds R => ∃ d, ds = [d] ∧ R (List.replicate 16 d)
section
variable {P : Program} {w : World} {K : PySem.W.Frag} {mg : Str → Option Value} {base : Heap} {f : Addr} {fd : FuncData} {c : Nat → Addr} {cW : Addr}
theorem f_fields (F : Fun K "_law_fields" "_law_fields" s_law_fields f fd) (sm : True) (S : Xs P w K mg base c cW) : GOk P w K mg base CX0 3 f fd ["value"] (spN K 1 Wfields) := by
  refine fnN sm F sc_law_fields rfl fun cdv A outer s H E g ds R hr hK hl hW => ?_
  obtain ⟨d, rfl, hR⟩ := hW
  have nd := sc_law_fields.nd
  refine dss_cons (ds_set 1 nd (de_n (dn_lst ?_)))
  refine da_cons (de_xf S.i0 (S.kp 0 (by decide)) hr pass0 (de_name 0 rfl ?_))
  refine da_cons (de_xfk S.i0 (S.kp 0 (by decide)) hr pass0 (de_name 0 rfl ?_))
  refine da_cons (de_xf S.i1 (S.kp 1 (by decide)) hr pass0 (de_name 0 rfl ?_))
  refine da_cons (de_xfk S.i1 (S.kp 1 (by decide)) hr pass0 (de_name 0 rfl ?_))
  refine da_nil ⟨by show 4 ≤ sizeLine; decide, ?_⟩
  refine dss_cons (ds_set 1 nd (de_n (dn_cat (de_name 1 rfl (de_n (dn_lst ?_))))))
  refine da_cons (de_xf S.i2 (S.kp 2 (by decide)) hr pass0 (de_name 0 rfl ?_))
  refine da_cons (de_xfk S.i2 (S.kp 2 (by decide)) hr pass0 (de_name 0 rfl ?_))
  refine da_cons (de_xf S.i3 (S.kp 3 (by decide)) hr pass0 (de_name 0 rfl ?_))
  refine da_cons (de_xfk S.i3 (S.kp 3 (by decide)) hr pass0 (de_name 0 rfl ?_))
  refine da_nil ⟨by show 4 ≤ sizeLine; decide, _, _, rfl, rfl, by show 8 ≤ sizeLine; decide, ?_⟩
  refine dss_cons (ds_set 1 nd (de_n (dn_cat (de_name 1 rfl (de_n (dn_lst ?_))))))
  refine da_cons (de_xf S.i4 (S.kp 4 (by decide)) hr pass0 (de_name 0 rfl ?_))
  refine da_cons (de_xfk S.i4 (S.kp 4 (by decide)) hr pass0 (de_name 0 rfl ?_))
  refine da_cons (de_xf S.i5 (S.kp 5 (by decide)) hr pass0 (de_name 0 rfl ?_))
  refine da_nil ⟨by show 3 ≤ sizeLine; decide, _, _, rfl, rfl, by show 11 ≤ sizeLine; decide, ?_⟩
  refine dss_cons (ds_set 1 nd (de_n (dn_cat (de_name 1 rfl (de_n (dn_lst ?_))))))
  refine da_cons (de_xfk S.i5 (S.kp 5 (by decide)) hr pass0 (de_name 0 rfl ?_))
  refine da_cons (de_xf S.i6 (S.kp 6 (by decide)) hr pass0 (de_name 0 rfl ?_))
  refine da_cons (de_xfk S.i6 (S.kp 6 (by decide)) hr pass0 (de_name 0 rfl ?_))
  refine da_nil ⟨by show 3 ≤ sizeLine; decide, _, _, rfl, rfl, by show 14 ≤ sizeLine; decide, ?_⟩
  refine dss_one (ds_retN (dn_cat (de_name 1 rfl (de_n (dn_lst ?_)))))
  refine da_cons (de_xf S.i7 (S.kp 7 (by decide)) hr pass0 (de_name 0 rfl ?_))
  refine da_cons (de_xfk S.i7 (S.kp 7 (by decide)) hr pass0 (de_name 0 rfl ?_))
  exact da_nil ⟨by show 2 ≤ sizeLine; decide, _, _, rfl, rfl, by show 16 ≤ sizeLine; decide, hR⟩
end
def Wfeed : List Int → Int → (List D → Prop) → Prop := fun ns k R => ns.length ≤ 63 ∧ (0 ≤ k ∧ k ≤ 1000) ∧ ∀ x y : Int, R [.int x, .int y]
theorem first_int (ns : List Int) (j : Int) : ∃ i : Int, L2.atI (ns.map D.int ++ [D.int j]) 0 = some (D.int i) := by
  cases ns with
  | nil => exact ⟨j, atI_of ⟨by decide, rfl⟩⟩
  | cons n r => exact ⟨n, atI_of ⟨by decide, rfl⟩⟩
theorem cut_ints (ns : List Int) (l u : Option Int) : ∃ ms : List Int, DL.cutD (ns.map D.int) l u = ms.map D.int ∧ ms.length ≤ ns.length := by
  unfold DL.cutD
  refine ⟨_, by rw [← List.map_drop, ← List.map_take], ?_⟩
  rw [List.length_take, List.length_drop]
  omega
section
variable {P : Program} {w : World} {K : PySem.W.Frag} {mg : Str → Option Value} {base : Heap} {f : Addr} {fd : FuncData} {c : Nat → Addr} {cW : Addr}
theorem f_feed (F : Fun K "_law_feed" "_law_feed" s_law_feed f fd) (sm : True) (bl : Bl mg) : GOk P w K mg base CX0 1 f fd ["script", "k"] (spG K Wfeed) := by
  refine fnG sm F sc_law_feed rfl fun cdv A outer s H E g a ns k R hr hK rw hW => ?_
  obtain ⟨hl, hk, hR⟩ := hW
  have nd := sc_law_feed.nd
  refine dss_cons (ds_set 2 nd (de_sub1 hK.symm (de_n (dn_cat (de_n (dn_list bl hK.symm (de_n (dn_rawcut 0 rw hK.symm ?_))))))))
  refine de_name 1 rfl ⟨_, rfl, de_add (de_name 1 rfl (de_int ⟨_, _, rfl, rfl, _, rfl, ?_⟩))⟩
  obtain ⟨ms, e, hm⟩ := cut_ints ns (some k) (some (k + 1))
  rw [e]
  refine ⟨_, .inl rfl, de_n (dn_lst (da_cons (de_add (de_mul (de_int (de_name 1 rfl ⟨_, _, rfl, rfl, ?_, de_int ⟨_, _, rfl, rfl, ?_⟩⟩))))))⟩
  · exact .inl (by decide)
  refine da_nil ⟨by show 1 ≤ sizeLine; decide, _, _, rfl, rfl, ?_, de_int ⟨0, rfl, .inl ⟨_, rfl, ?_⟩⟩⟩
  · rw [List.length_map, sizeLine_eq]; show ms.length + 1 ≤ _; omega
  obtain ⟨i, hi⟩ := first_int ms (71 * k + 23)
  refine ⟨.int i, hi, ?_⟩
  refine dss_cons (ds_set 3 nd (de_max2 bl rfl (de_int (de_sub (de_abs bl (de_name 2 rfl ⟨i, rfl, de_pow (de_int (de_int ⟨_, _, rfl, rfl, ?_, _, _, rfl, rfl, _, _, rfl, rfl, ?_⟩))⟩))))))
  · exact ⟨by decide, by decide, by decide⟩
  refine dss_one (ds_retN (dn_lst (da_cons (de_name 3 rfl ?_))))
  refine da_cons (de_mod (de_toint bl (de_add (de_add (de_mul (de_mod (de_toint bl (de_abs bl (de_name 2 rfl ⟨_, rfl, .inl ⟨_, rfl, ?_⟩⟩)))))))))
  refine de_int ⟨_, _, rfl, rfl, by decide, ?_⟩
  refine de_int ⟨_, _, rfl, rfl, ?_, ?_⟩
  · exact .inr (by decide)
  refine de_mul (de_int (de_name 1 rfl ⟨_, _, rfl, rfl, ?_, ?_⟩))
  · exact .inl (by decide)
  refine ⟨_, _, rfl, rfl, ?_⟩
  refine de_int ⟨_, _, rfl, rfl, .inl ⟨_, rfl, ?_⟩⟩
  refine de_int ⟨_, _, rfl, rfl, by decide, ?_⟩
  exact da_nil ⟨by show 2 ≤ sizeLine; decide, hR _ _⟩
end
theorem atI_mem {xs : List D} {r : Int} (h0 : 0 ≤ r) (h1 : r < (xs.length : Int)) : ∃ d, atI xs r = some d ∧ d ∈ xs := by
  have h : r.toNat < xs.length := by omega
  refine ⟨xs[r.toNat], atI_of ⟨h0, by simp [h]⟩, List.getElem_mem h⟩
section
variable {P : Program} {w : World} {K : PySem.W.Frag} {mg : Str → Option Value} {base : Heap} {f : Addr} {fd : FuncData}
/-- any int from 0, below m -/
def Wtake : Wt := fun ds R => ∃ m, ds = [.int m] ∧ (0 < m ∧ m < 1073741824) ∧ ∀ r, 0 ≤ r → r < m → R (.int r)
theorem f_take (F : Fun K "_law_take" "_law_take" s_law_take f fd) (sm : True) (bl : Bl mg) : GOk P w K mg base CX0 1 f fd ["feed", "many"] (spF K 1 Wtake) := by
  refine fnF sm F sc_law_take rfl fun cdv A outer s H E g p ds R hr hK hl hW => ?_
  obtain ⟨m, rfl, hm, hR⟩ := hW
  have nd := sc_law_take.nd
  refine dss_cons (ds_if (dt_gt (de_fdix 0 rfl fun n => de_int ⟨n, 0, rfl, rfl, ?_⟩)))
  by_cases c : 0 < n
  · rw [decide_eq_true c, if_pos rfl]
    refine dss_cons (ds_set 2 nd (de_mod (de_toint bl (de_fdix 0 rfl fun n => .inl ⟨_, rfl, de_name 1 rfl ⟨_, _, rfl, rfl, hm.1, ?_⟩⟩))))
    refine dss_cons (ds_fdset 0 rfl (de_fdiv (de_fdix 0 rfl fun n2 => de_name 1 rfl ⟨_, _, rfl, rfl, hm, _, rfl, ?_⟩)))
    exact dss_one (ds_ret (de_name 2 rfl (hR _ (Int.emod_nonneg _ (by omega)) (Int.emod_lt_of_pos _ hm.1))))
  · rw [decide_eq_false c, if_neg Bool.false_ne_true]
    refine dss_nil (dss_cons (ds_fdset 0 rfl (de_mod (de_toint bl (de_add (de_mul (de_fdix 0 rfl fun n2 => de_int ⟨_, _, rfl, rfl, .inr (by decide), de_int ⟨_, _, rfl, rfl, .inl ⟨_, rfl, de_int ⟨_, _, rfl, rfl, by decide, _, rfl, ?_⟩⟩⟩⟩)))))))
    exact dss_one (ds_ret (de_mod (de_toint bl (de_fdiv (de_fdix 0 rfl fun n2 => de_int ⟨_, _, rfl, rfl, ⟨by decide, by decide⟩, .inl ⟨_, rfl, de_name 1 rfl ⟨_, _, rfl, rfl, hm.1, hR _ (Int.emod_nonneg _ (by omega)) (Int.emod_lt_of_pos _ hm.1)⟩⟩⟩)))))
/-- any of the things of a list -/
def Wpick : Wt := fun ds R => ∃ xs, ds = [.lst xs] ∧ (0 < xs.length ∧ xs.length < 1073741824) ∧ ∀ x ∈ xs, R x
theorem f_pick (F : Fun K "_law_pick" "_law_pick" s_law_pick f fd) (sm : True) (bl : Bl mg) (dT : Df P w K mg base 1 "_law_take" ["feed", "many"] (spF K 1 Wtake)) : GOk P w K mg base CX0 2 f fd ["feed", "some"] (spF K 1 Wpick) := by
  refine fnF sm F sc_law_pick rfl fun cdv A outer s H E g p ds R hr hK hl hW => ?_
  obtain ⟨xs, rfl, hm, hR⟩ := hW
  refine dss_one (ds_ret (de_sub1 hK.symm (de_name 1 rfl (de_callF 0 dT hr hK.symm rfl (da_cons (de_len bl hK.symm (de_name 1 rfl (.inl ⟨xs, .inl rfl, da_nil ⟨rfl, _, rfl, ⟨by omega, by omega⟩, fun r h0 h1 => ?_⟩⟩))))))))
  obtain ⟨d, h2, h3⟩ := atI_mem h0 h1
  exact ⟨r, rfl, .inl ⟨xs, rfl, d, h2, hR d h3⟩⟩
end
def valsD (r : Int) : List D := valsC ++ [.int r]
theorem vals_ok {r : Int} (h0 : 0 ≤ r) (h1 : r < 100) {d : D} (hd : d ∈ valsD r) : d.Rp ∧ (D.lst (List.replicate 16 d)).Rp := by
  rcases List.mem_append.mp hd with hd | hd
  · rcases List.mem_append.mp hd with hd | hd
    · exact (smaB_ok (List.all_eq_true.mp valsB_ok d hd)).rp
    · have e : d = DL.nest 48 := by simpa using hd
      subst e
      exact nest_sma.rp
  · have e : d = .int r := by simpa using hd
    subst e
    have := List.all_eq_true.mp vals_int r.toNat (by rw [List.mem_range]; omega)
    rw [show ((r.toNat : Nat) : Int) = r by omega] at this
    exact (smaB_ok this).rp
theorem kinds_pl (j : Nat) (h : j < 9) : (D.lst (kindsD j)).pl = true ∧ min (D.lst (kindsD j)).py.depth (D.lst (kindsD j)).py.depth ≤ 64 ∧ eqD (.lst (kindsD j)) (.lst (kindsD j)) = true := by
  have key : ∀ j, j < 9 → (D.lst (kindsD j)).pl = true ∧ min (D.lst (kindsD j)).py.depth (D.lst (kindsD j)).py.depth ≤ 64 ∧ eqD (.lst (kindsD j)) (.lst (kindsD j)) = true := by decide +kernel
  exact key j h
section
variable {P : Program} {w : World} {K : PySem.W.Frag} {mg : Str → Option Value} {base : Heap} {f : Addr} {fd : FuncData} {c : Nat → Addr} {cW : Addr}
theorem f_law (F : Fun K "law" "law" s_law f fd) (sm : True) (bl : Bl mg) (xs : Xs P w K mg base c cW) (dG : Df P w K mg base 1 "_law_feed" ["script", "k"] (spG K Wfeed)) (dT : Df P w K mg base 1 "_law_take" ["feed", "many"] (spF K 1 Wtake))
    (dP : Df P w K mg base 2 "_law_pick" ["feed", "some"] (spF K 1 Wpick)) (dK : Df P w K mg base 1 "_law_kinds" ["error"] (spX K (Wkinds c))) (dR : Df P w K mg base 3 "_law_raised" ["way", "value"] (spR K 2 (Wraised c)))
    (dF : Df P w K mg base 3 "_law_fields" ["value"] (spN K 1 Wfields)) (kV : PySem.W.kitOne K (.type "ValueError") (.ref cW) = some false) : GOk P w K mg base CX0 4 f fd ["script"] (spLaw K) := by
  refine fnL sm F sc_law rfl fun cdv A outer s H E g a ns hr hK hl rw => ?_
  have nd := sc_law.nd
  have hr1 := hr.mono (show 1 ≤ 3 by decide)
  have hr2 := hr.mono (show 2 ≤ 3 by decide)
  have raw : ∀ {r : List S}, Raw g (.raw (.ref a) :: r) 0 a ns := fun {r} => ⟨rfl, rw.l, rw.f⟩
  refine dss_cut (fun ρ' => ∃ s1 s2 s3 s4 s5 s6 s7 s8 : DL.S, ρ' = [.raw (.ref a), s1, s2, s3, s4, s5, s6, s7, s8, .un]) ?_ ?_
  · refine ds_forR1 (.nm 1) hK.symm rfl bl.range ?_ (de_max2 bl rfl (de_int (de_min2 bl rfl (de_int (de_rawlen 0 bl rw hK.symm ⟨_, _, rfl, rfl, _, _, rfl, rfl, _, rfl, ?_, ?_, fun _ ρ' => ∃ s1 s2 s3 s4 s5 s6 s7 s8 : DL.S, ρ' = [.raw (.ref a), s1, s2, s3, s4, s5, s6, s7, s8, .un], ?_, ?_, ?_⟩)))))
    · rw [Tg.r]; exact pg_name nd rfl (.inl rfl)
    · omega
    · omega
    · exact ⟨_, _, _, _, _, _, _, _, rfl⟩
    · rintro i _ hi ⟨s1, s2, s3, s4, s5, s6, s7, s8, rfl⟩
      refine ⟨_, rfl, ?_⟩
      refine dss_cons (ds_setN 2 nd (dn_callG 0 dG hr1 hK.symm raw (de_name 1 rfl ⟨(i : Int), rfl, ⟨hl, by omega, fun x y p => ?_⟩⟩)))
      refine dss_feed 2 rfl ?_
      refine dss_cons (ds_set 3 nd (de_n (dn_lst (da_nil ⟨by decide, ?_⟩))))
      refine dss_cut (fun ρ' => ∃ s4 : DL.S, ρ' = [.raw (.ref a), .d (.int (i : Int)), .fd p, .d (nest 48), s4, s5, s6, s7, s8, .un]) ?_ ?_
      · refine ds_forR1 (.nm 4) hK.symm rfl bl.range ?_ (de_int ⟨_, rfl, by decide, by decide, fun j ρ' => ∃ s4 : DL.S, ρ' = [.raw (.ref a), .d (.int (i : Int)), .fd p, .d (nest j), s4, s5, s6, s7, s8, .un], ?_, ?_, ?_⟩)
        · rw [Tg.r]; exact pg_name nd rfl (.inl rfl)
        · exact ⟨_, rfl⟩
        · rintro j _ hj ⟨s4, rfl⟩
          refine ⟨_, rfl, ?_⟩
          refine dss_one (ds_set 3 nd (de_n (dn_lst (da_cons (de_name 3 rfl (da_nil ⟨by show 1 ≤ sizeLine; decide, ?_⟩))))))
          exact ⟨_, rfl⟩
        · exact fun ρ' h => h
      rintro _ ⟨s4, rfl⟩
      refine dss_cons (ds_set 5 nd (de_n (dn_lst ?_)))
      refine da_cons (de_non ?_)
      refine da_cons (de_int ?_)
      refine da_cons (de_const rfl ?_)
      refine da_cons (de_bl ?_)
      refine da_cons (de_str ?_)
      refine da_cons (de_tup (da_nil ⟨by decide, ?_⟩))
      refine da_cons (de_tup (da_cons (de_int (da_cons (de_n (dn_lst (da_cons (de_int (da_nil ⟨by show 1 ≤ sizeLine; decide, da_nil ⟨by show 2 ≤ sizeLine; decide, ?_⟩⟩)))))))))
      refine da_cons (de_n (dn_lst (da_cons (de_int (da_cons (de_tup (da_cons (de_int (da_nil ⟨by show 1 ≤ sizeLine; decide, da_nil ⟨by show 2 ≤ sizeLine; decide, ?_⟩⟩)))))))))
      refine da_cons (de_pow (de_int (de_int ⟨_, _, rfl, rfl, ⟨by decide, by decide, by decide⟩, ?_⟩)))
      refine da_cons (de_dic1 ?_)
      refine da_cons (de_name 3 rfl ?_)
      refine da_cons (de_callF 2 dT hr1 hK.symm rfl (da_cons (de_int (da_nil ⟨rfl, _, rfl, by decide, fun r h0 h1 => ?_⟩))))
      refine da_nil ⟨by show 12 ≤ sizeLine; decide, ?_⟩
      show DSs _ _ _ [.raw (.ref a), .d (.int (i : Int)), .fd p, .d (nest 48), s4, .d (.lst (valsD r)), s6, s7, s8, .un] _
      refine dss_cons (ds_set 6 nd (de_callF 2 dP hr2 hK.symm rfl (da_cons (de_name 5 rfl (da_nil ⟨rfl, valsD r, rfl, ⟨by show 0 < 12; decide, by show 12 < 1073741824; decide⟩, fun v hv => ?_⟩)))))
      obtain ⟨rp1, rp2⟩ := vals_ok h0 h1 hv
      refine dss_cons (ds_set 7 nd (de_repr bl hr.quiet hK.symm (de_name 6 rfl ⟨rp1, ?_⟩)))
      refine dss_cut (fun ρ' => ∃ s8 : DL.S, ρ' = [.raw (.ref a), .d (.int (i : Int)), .fd p, .d (nest 48), s4, .d (.lst (valsD r)), .d v, .d (.str v.py.shown), s8, .un]) ?_ ?_
      · refine ds_forR1 (.nm 8) hK.symm rfl bl.range ?_ (de_int ⟨_, rfl, by decide, by decide, fun _ ρ' => ∃ s8 : DL.S, ρ' = [.raw (.ref a), .d (.int (i : Int)), .fd p, .d (nest 48), s4, .d (.lst (valsD r)), .d v, .d (.str v.py.shown), s8, .un], ?_, ?_, ?_⟩)
        · rw [Tg.r]; exact pg_name nd rfl (.inr rfl)
        · exact ⟨_, rfl⟩
        · rintro j _ hj ⟨s8, rfl⟩
          have hj9 : j < 9 := hj
          refine ⟨_, rfl, ?_⟩
          refine dss_one (ds_if (dt_ne hK.symm hr.hu ?_))
          refine de_n (dn_callX dK dR hr1 hr hK.symm (da_cons (de_name 8 rfl (da_cons (de_name 6 rfl (da_nil ⟨rfl, j, v, rfl, hj9, j, hj9, rfl, ?_⟩))))))
          refine de_n (dn_cat (de_n (dn_lcR1 (.nm 9) [("spot", 9)] hK.symm rfl nd bl.range (blkOk_by (N := n_law) (sc := defScope s_law) (by decide +kernel)) ?_ (by decide) (de_int ⟨9, rfl, by decide, by decide,
            fun m acc => acc = (List.range m).map (fun n => D.bl (decide (j = n))), rfl, ?_, ?_⟩))))
          · intro s H C cl fp
            rw [Tg.r]
            exact pg_name nd rfl (.inl rfl) (.inr rfl)
          · rintro m _ hm rfl
            have hm9 : m < 9 := hm
            refine ⟨_, rfl, fun s' H' C cl fp g' hg' s2 H2 C2 cl2 fp2 g2 hg2 => ?_⟩
            refine de_eqI (de_name 8 rfl (de_name 9 rfl ⟨_, _, rfl, rfl, ?_, ?_⟩))
            · rw [List.length_map, List.length_range, sizeLine_eq]; omega
            · show _ = (List.range (m + 1)).map (fun n => D.bl (decide (j = n)))
              rw [List.range_succ, List.map_append]
              have e : decide ((j : Int) = (m : Int)) = decide (j = m) := by
                by_cases c : j = m
                · rw [decide_eq_true c, decide_eq_true (by omega)]
                · rw [decide_eq_false c, decide_eq_false (by omega)]
              rw [e]; rfl
          · rintro _ rfl
            refine de_n (dn_lst (da_consts (ds := [.bl true, .bl true]) ⟨by show 2 ≤ sizeLine; decide, _, _, rfl, rfl, by show 11 ≤ sizeLine; decide, ?_⟩ rfl))
            obtain ⟨k1, k2, k3⟩ := kinds_pl j hj9
            refine ⟨k1, k1, k2, ?_⟩
            rw [show eqD (.lst (kindsD j)) (.lst ((List.range (9 : Int).toNat).map (fun n => D.bl (decide (j = n))) ++ [D.bl true, D.bl true])) = true from k3, Bool.not_true, if_neg Bool.false_ne_true]
            exact dss_nil ⟨_, rfl⟩
        · exact fun ρ' h => h
      rintro _ ⟨s8, rfl⟩
      refine dss_one (ds_if (dt_w (dw_or (dt_neS ?_))))
      refine de_repr bl hr.quiet hK.symm (de_n (dn_call dF hr hK.symm (da_cons (de_name 6 rfl (da_nil ⟨rfl, v, rfl, rp2, ?_⟩)))))
      refine de_repr bl hr.quiet hK.symm (de_n (dn_rep (de_n (dn_lst (da_cons (de_name 6 rfl (da_nil ⟨by show 1 ≤ sizeLine; decide, ?_⟩)))))))
      refine de_int ⟨_, _, rfl, rfl, ⟨by decide, by decide⟩, by show 16 ≤ sizeLine; decide, rp2, _, _, rfl, rfl, ?_⟩
      have e16 : (List.replicate (Int.toNat 16) [v]).flatten = List.replicate 16 v := rfl
      rw [e16, decide_eq_true rfl, Bool.not_true, if_neg Bool.false_ne_true]
      refine dw_or1 (dt_neS (de_repr bl hr.quiet hK.symm (de_name 6 rfl ⟨rp1, de_name 7 rfl ⟨_, _, rfl, rfl, ?_⟩⟩)))
      rw [decide_eq_true rfl, Bool.not_true, if_neg Bool.false_ne_true]
      exact dss_nil ⟨_, _, _, _, _, _, _, _, rfl⟩
    · exact fun ρ' h => h
  · rintro _ ⟨s1, s2, s3, s4, s5, s6, s7, s8, rfl⟩
    refine dss_one (ds_ret (de_not (de_veIs bl xs.mW kV ⟨_, rfl, rfl⟩)))
end
theorem all_mk {l : PySem.W.OpenLaw} {w : World} {K : PySem.W.Frag} {h : Heap} {mg : Str → Option Value} {fa : Addr} (X : K.In h) (G : h.Ns mainGlobals mg) (hfa : mg "law" = some (.ref fa))
    {f_BadMatter_init f_Unlike_init f_NotBalanced_init f_NoFit_init f_BadSaying_init f_NoSaying_init f_Contradicts_init f_TooMuch_init f_NothingDone_init f_law_feed f_law_take f_law_pick f_law_kinds f_law_raised f_law_fields f_law C_WordError C_BadMatter C_Unlike C_NotBalanced C_NoFit C_BadSaying C_NoSaying C_Contradicts C_TooMuch C_NothingDone : Addr}
    {od_BadMatter_init an_BadMatter_init : Option Addr} {sl_BadMatter_init : Array (Option Value)} {oc_BadMatter_init kV_BadMatter_init dc_BadMatter_init pm_BadMatter_init cd_BadMatter_init ct_BadMatter_init : Value}
    {od_Unlike_init an_Unlike_init : Option Addr} {sl_Unlike_init : Array (Option Value)} {oc_Unlike_init kV_Unlike_init dc_Unlike_init pm_Unlike_init cd_Unlike_init ct_Unlike_init : Value}
    {od_NotBalanced_init an_NotBalanced_init : Option Addr} {sl_NotBalanced_init : Array (Option Value)} {oc_NotBalanced_init kV_NotBalanced_init dc_NotBalanced_init pm_NotBalanced_init cd_NotBalanced_init ct_NotBalanced_init : Value}
    {od_NoFit_init an_NoFit_init : Option Addr} {sl_NoFit_init : Array (Option Value)} {oc_NoFit_init kV_NoFit_init dc_NoFit_init pm_NoFit_init cd_NoFit_init ct_NoFit_init : Value}
    {od_BadSaying_init an_BadSaying_init : Option Addr} {sl_BadSaying_init : Array (Option Value)} {oc_BadSaying_init kV_BadSaying_init dc_BadSaying_init pm_BadSaying_init cd_BadSaying_init ct_BadSaying_init : Value}
    {od_NoSaying_init an_NoSaying_init : Option Addr} {sl_NoSaying_init : Array (Option Value)} {oc_NoSaying_init kV_NoSaying_init dc_NoSaying_init pm_NoSaying_init cd_NoSaying_init ct_NoSaying_init : Value}
    {od_Contradicts_init an_Contradicts_init : Option Addr} {sl_Contradicts_init : Array (Option Value)} {oc_Contradicts_init kV_Contradicts_init dc_Contradicts_init pm_Contradicts_init cd_Contradicts_init ct_Contradicts_init : Value}
    {od_TooMuch_init an_TooMuch_init : Option Addr} {sl_TooMuch_init : Array (Option Value)} {oc_TooMuch_init kV_TooMuch_init dc_TooMuch_init pm_TooMuch_init cd_TooMuch_init ct_TooMuch_init : Value}
    {od_NothingDone_init an_NothingDone_init : Option Addr} {sl_NothingDone_init : Array (Option Value)} {oc_NothingDone_init kV_NothingDone_init dc_NothingDone_init pm_NothingDone_init cd_NothingDone_init ct_NothingDone_init : Value}
    {od_law_feed an_law_feed : Option Addr} {sl_law_feed : Array (Option Value)} {oc_law_feed kV_law_feed dc_law_feed pm_law_feed cd_law_feed ct_law_feed : Value}
    {od_law_take an_law_take : Option Addr} {sl_law_take : Array (Option Value)} {oc_law_take kV_law_take dc_law_take pm_law_take cd_law_take ct_law_take : Value}
    {od_law_pick an_law_pick : Option Addr} {sl_law_pick : Array (Option Value)} {oc_law_pick kV_law_pick dc_law_pick pm_law_pick cd_law_pick ct_law_pick : Value}
    {od_law_kinds an_law_kinds : Option Addr} {sl_law_kinds : Array (Option Value)} {oc_law_kinds kV_law_kinds dc_law_kinds pm_law_kinds cd_law_kinds ct_law_kinds : Value}
    {od_law_raised an_law_raised : Option Addr} {sl_law_raised : Array (Option Value)} {oc_law_raised kV_law_raised dc_law_raised pm_law_raised cd_law_raised ct_law_raised : Value}
    {od_law_fields an_law_fields : Option Addr} {sl_law_fields : Array (Option Value)} {oc_law_fields kV_law_fields dc_law_fields pm_law_fields cd_law_fields ct_law_fields : Value}
    {od_law an_law : Option Addr} {sl_law : Array (Option Value)} {oc_law kV_law dc_law pm_law cd_law ct_law : Value}
    {nm_BadMatter qn_BadMatter : Str} {N_BadMatter : Addr} {bs_BadMatter : List Value} {sn_BadMatter : List Str} {sub_BadMatter : List Value} {ab_BadMatter : Bool} {col_BadMatter : Option Bool} {dd_BadMatter : Option Addr} {m0_BadMatter m1_BadMatter m2_BadMatter m3_BadMatter m5_BadMatter : Option Value}
    {nm_Unlike qn_Unlike : Str} {N_Unlike : Addr} {bs_Unlike : List Value} {sn_Unlike : List Str} {sub_Unlike : List Value} {ab_Unlike : Bool} {col_Unlike : Option Bool} {dd_Unlike : Option Addr} {m0_Unlike m1_Unlike m2_Unlike m3_Unlike m5_Unlike : Option Value}
    {nm_NotBalanced qn_NotBalanced : Str} {N_NotBalanced : Addr} {bs_NotBalanced : List Value} {sn_NotBalanced : List Str} {sub_NotBalanced : List Value} {ab_NotBalanced : Bool} {col_NotBalanced : Option Bool} {dd_NotBalanced : Option Addr} {m0_NotBalanced m1_NotBalanced m2_NotBalanced m3_NotBalanced m5_NotBalanced : Option Value}
    {nm_NoFit qn_NoFit : Str} {N_NoFit : Addr} {bs_NoFit : List Value} {sn_NoFit : List Str} {sub_NoFit : List Value} {ab_NoFit : Bool} {col_NoFit : Option Bool} {dd_NoFit : Option Addr} {m0_NoFit m1_NoFit m2_NoFit m3_NoFit m5_NoFit : Option Value}
    {nm_BadSaying qn_BadSaying : Str} {N_BadSaying : Addr} {bs_BadSaying : List Value} {sn_BadSaying : List Str} {sub_BadSaying : List Value} {ab_BadSaying : Bool} {col_BadSaying : Option Bool} {dd_BadSaying : Option Addr} {m0_BadSaying m1_BadSaying m2_BadSaying m3_BadSaying m5_BadSaying : Option Value}
    {nm_NoSaying qn_NoSaying : Str} {N_NoSaying : Addr} {bs_NoSaying : List Value} {sn_NoSaying : List Str} {sub_NoSaying : List Value} {ab_NoSaying : Bool} {col_NoSaying : Option Bool} {dd_NoSaying : Option Addr} {m0_NoSaying m1_NoSaying m2_NoSaying m3_NoSaying m5_NoSaying : Option Value}
    {nm_Contradicts qn_Contradicts : Str} {N_Contradicts : Addr} {bs_Contradicts : List Value} {sn_Contradicts : List Str} {sub_Contradicts : List Value} {ab_Contradicts : Bool} {col_Contradicts : Option Bool} {dd_Contradicts : Option Addr} {m0_Contradicts m1_Contradicts m2_Contradicts m3_Contradicts m5_Contradicts : Option Value}
    {nm_TooMuch qn_TooMuch : Str} {N_TooMuch : Addr} {bs_TooMuch : List Value} {sn_TooMuch : List Str} {sub_TooMuch : List Value} {ab_TooMuch : Bool} {col_TooMuch : Option Bool} {dd_TooMuch : Option Addr} {m0_TooMuch m1_TooMuch m2_TooMuch m3_TooMuch m5_TooMuch : Option Value}
    {nm_NothingDone qn_NothingDone : Str} {N_NothingDone : Addr} {bs_NothingDone : List Value} {sn_NothingDone : List Str} {sub_NothingDone : List Value} {ab_NothingDone : Bool} {col_NothingDone : Option Bool} {dd_NothingDone : Option Addr} {m0_NothingDone m1_NothingDone m2_NothingDone m3_NothingDone m5_NothingDone : Option Value}
    (aC_WordError : PySem.W.nsIn K mainGlobals "WordError" = some (some (.ref C_WordError)))
    (aC_BadMatter : PySem.W.nsIn K mainGlobals "BadMatter" = some (some (.ref C_BadMatter)))
    (aC_Unlike : PySem.W.nsIn K mainGlobals "Unlike" = some (some (.ref C_Unlike)))
    (aC_NotBalanced : PySem.W.nsIn K mainGlobals "NotBalanced" = some (some (.ref C_NotBalanced)))
    (aC_NoFit : PySem.W.nsIn K mainGlobals "NoFit" = some (some (.ref C_NoFit)))
    (aC_BadSaying : PySem.W.nsIn K mainGlobals "BadSaying" = some (some (.ref C_BadSaying)))
    (aC_NoSaying : PySem.W.nsIn K mainGlobals "NoSaying" = some (some (.ref C_NoSaying)))
    (aC_Contradicts : PySem.W.nsIn K mainGlobals "Contradicts" = some (some (.ref C_Contradicts)))
    (aC_TooMuch : PySem.W.nsIn K mainGlobals "TooMuch" = some (some (.ref C_TooMuch)))
    (aC_NothingDone : PySem.W.nsIn K mainGlobals "NothingDone" = some (some (.ref C_NothingDone)))
    (a_BadMatter_init : PySem.W.findIn K (.ref C_BadMatter) "__init__" = some (some (.ref f_BadMatter_init)))
    (l_BadMatter_init : K.lookup f_BadMatter_init = some ⟨oc_BadMatter_init, od_BadMatter_init, .func (PySem.W.fnOf "__init__" "BadMatter.__init__" (defArgs s_BadMatter_init) (defBody s_BadMatter_init) (defScope s_BadMatter_init) .none kV_BadMatter_init dc_BadMatter_init pm_BadMatter_init an_BadMatter_init cd_BadMatter_init ct_BadMatter_init), sl_BadMatter_init⟩)
    (c_BadMatter_init : PySem.W.codeIn K cd_BadMatter_init "BadMatter.__init__" = true) (k_BadMatter_init : PySem.W.keepIn K (.ref f_BadMatter_init) = true)
    (a_Unlike_init : PySem.W.findIn K (.ref C_Unlike) "__init__" = some (some (.ref f_Unlike_init)))
    (l_Unlike_init : K.lookup f_Unlike_init = some ⟨oc_Unlike_init, od_Unlike_init, .func (PySem.W.fnOf "__init__" "Unlike.__init__" (defArgs s_Unlike_init) (defBody s_Unlike_init) (defScope s_Unlike_init) .none kV_Unlike_init dc_Unlike_init pm_Unlike_init an_Unlike_init cd_Unlike_init ct_Unlike_init), sl_Unlike_init⟩)
    (c_Unlike_init : PySem.W.codeIn K cd_Unlike_init "Unlike.__init__" = true) (k_Unlike_init : PySem.W.keepIn K (.ref f_Unlike_init) = true)
    (a_NotBalanced_init : PySem.W.findIn K (.ref C_NotBalanced) "__init__" = some (some (.ref f_NotBalanced_init)))
    (l_NotBalanced_init : K.lookup f_NotBalanced_init = some ⟨oc_NotBalanced_init, od_NotBalanced_init, .func (PySem.W.fnOf "__init__" "NotBalanced.__init__" (defArgs s_NotBalanced_init) (defBody s_NotBalanced_init) (defScope s_NotBalanced_init) .none kV_NotBalanced_init dc_NotBalanced_init pm_NotBalanced_init an_NotBalanced_init cd_NotBalanced_init ct_NotBalanced_init), sl_NotBalanced_init⟩)
    (c_NotBalanced_init : PySem.W.codeIn K cd_NotBalanced_init "NotBalanced.__init__" = true) (k_NotBalanced_init : PySem.W.keepIn K (.ref f_NotBalanced_init) = true)
    (a_NoFit_init : PySem.W.findIn K (.ref C_NoFit) "__init__" = some (some (.ref f_NoFit_init)))
    (l_NoFit_init : K.lookup f_NoFit_init = some ⟨oc_NoFit_init, od_NoFit_init, .func (PySem.W.fnOf "__init__" "NoFit.__init__" (defArgs s_NoFit_init) (defBody s_NoFit_init) (defScope s_NoFit_init) .none kV_NoFit_init dc_NoFit_init pm_NoFit_init an_NoFit_init cd_NoFit_init ct_NoFit_init), sl_NoFit_init⟩)
    (c_NoFit_init : PySem.W.codeIn K cd_NoFit_init "NoFit.__init__" = true) (k_NoFit_init : PySem.W.keepIn K (.ref f_NoFit_init) = true)
    (a_BadSaying_init : PySem.W.findIn K (.ref C_BadSaying) "__init__" = some (some (.ref f_BadSaying_init)))
    (l_BadSaying_init : K.lookup f_BadSaying_init = some ⟨oc_BadSaying_init, od_BadSaying_init, .func (PySem.W.fnOf "__init__" "BadSaying.__init__" (defArgs s_BadSaying_init) (defBody s_BadSaying_init) (defScope s_BadSaying_init) .none kV_BadSaying_init dc_BadSaying_init pm_BadSaying_init an_BadSaying_init cd_BadSaying_init ct_BadSaying_init), sl_BadSaying_init⟩)
    (c_BadSaying_init : PySem.W.codeIn K cd_BadSaying_init "BadSaying.__init__" = true) (k_BadSaying_init : PySem.W.keepIn K (.ref f_BadSaying_init) = true)
    (a_NoSaying_init : PySem.W.findIn K (.ref C_NoSaying) "__init__" = some (some (.ref f_NoSaying_init)))
    (l_NoSaying_init : K.lookup f_NoSaying_init = some ⟨oc_NoSaying_init, od_NoSaying_init, .func (PySem.W.fnOf "__init__" "NoSaying.__init__" (defArgs s_NoSaying_init) (defBody s_NoSaying_init) (defScope s_NoSaying_init) .none kV_NoSaying_init dc_NoSaying_init pm_NoSaying_init an_NoSaying_init cd_NoSaying_init ct_NoSaying_init), sl_NoSaying_init⟩)
    (c_NoSaying_init : PySem.W.codeIn K cd_NoSaying_init "NoSaying.__init__" = true) (k_NoSaying_init : PySem.W.keepIn K (.ref f_NoSaying_init) = true)
    (a_Contradicts_init : PySem.W.findIn K (.ref C_Contradicts) "__init__" = some (some (.ref f_Contradicts_init)))
    (l_Contradicts_init : K.lookup f_Contradicts_init = some ⟨oc_Contradicts_init, od_Contradicts_init, .func (PySem.W.fnOf "__init__" "Contradicts.__init__" (defArgs s_Contradicts_init) (defBody s_Contradicts_init) (defScope s_Contradicts_init) .none kV_Contradicts_init dc_Contradicts_init pm_Contradicts_init an_Contradicts_init cd_Contradicts_init ct_Contradicts_init), sl_Contradicts_init⟩)
    (c_Contradicts_init : PySem.W.codeIn K cd_Contradicts_init "Contradicts.__init__" = true) (k_Contradicts_init : PySem.W.keepIn K (.ref f_Contradicts_init) = true)
    (a_TooMuch_init : PySem.W.findIn K (.ref C_TooMuch) "__init__" = some (some (.ref f_TooMuch_init)))
    (l_TooMuch_init : K.lookup f_TooMuch_init = some ⟨oc_TooMuch_init, od_TooMuch_init, .func (PySem.W.fnOf "__init__" "TooMuch.__init__" (defArgs s_TooMuch_init) (defBody s_TooMuch_init) (defScope s_TooMuch_init) .none kV_TooMuch_init dc_TooMuch_init pm_TooMuch_init an_TooMuch_init cd_TooMuch_init ct_TooMuch_init), sl_TooMuch_init⟩)
    (c_TooMuch_init : PySem.W.codeIn K cd_TooMuch_init "TooMuch.__init__" = true) (k_TooMuch_init : PySem.W.keepIn K (.ref f_TooMuch_init) = true)
    (a_NothingDone_init : PySem.W.findIn K (.ref C_NothingDone) "__init__" = some (some (.ref f_NothingDone_init)))
    (l_NothingDone_init : K.lookup f_NothingDone_init = some ⟨oc_NothingDone_init, od_NothingDone_init, .func (PySem.W.fnOf "__init__" "NothingDone.__init__" (defArgs s_NothingDone_init) (defBody s_NothingDone_init) (defScope s_NothingDone_init) .none kV_NothingDone_init dc_NothingDone_init pm_NothingDone_init an_NothingDone_init cd_NothingDone_init ct_NothingDone_init), sl_NothingDone_init⟩)
    (c_NothingDone_init : PySem.W.codeIn K cd_NothingDone_init "NothingDone.__init__" = true) (k_NothingDone_init : PySem.W.keepIn K (.ref f_NothingDone_init) = true)
    (a_law_feed : PySem.W.nsIn K mainGlobals "_law_feed" = some (some (.ref f_law_feed)))
    (l_law_feed : K.lookup f_law_feed = some ⟨oc_law_feed, od_law_feed, .func (PySem.W.fnOf "_law_feed" "_law_feed" (defArgs s_law_feed) (defBody s_law_feed) (defScope s_law_feed) .none kV_law_feed dc_law_feed pm_law_feed an_law_feed cd_law_feed ct_law_feed), sl_law_feed⟩)
    (c_law_feed : PySem.W.codeIn K cd_law_feed "_law_feed" = true) (k_law_feed : PySem.W.keepIn K (.ref f_law_feed) = true)
    (a_law_take : PySem.W.nsIn K mainGlobals "_law_take" = some (some (.ref f_law_take)))
    (l_law_take : K.lookup f_law_take = some ⟨oc_law_take, od_law_take, .func (PySem.W.fnOf "_law_take" "_law_take" (defArgs s_law_take) (defBody s_law_take) (defScope s_law_take) .none kV_law_take dc_law_take pm_law_take an_law_take cd_law_take ct_law_take), sl_law_take⟩)
    (c_law_take : PySem.W.codeIn K cd_law_take "_law_take" = true) (k_law_take : PySem.W.keepIn K (.ref f_law_take) = true)
    (a_law_pick : PySem.W.nsIn K mainGlobals "_law_pick" = some (some (.ref f_law_pick)))
    (l_law_pick : K.lookup f_law_pick = some ⟨oc_law_pick, od_law_pick, .func (PySem.W.fnOf "_law_pick" "_law_pick" (defArgs s_law_pick) (defBody s_law_pick) (defScope s_law_pick) .none kV_law_pick dc_law_pick pm_law_pick an_law_pick cd_law_pick ct_law_pick), sl_law_pick⟩)
    (c_law_pick : PySem.W.codeIn K cd_law_pick "_law_pick" = true) (k_law_pick : PySem.W.keepIn K (.ref f_law_pick) = true)
    (a_law_kinds : PySem.W.nsIn K mainGlobals "_law_kinds" = some (some (.ref f_law_kinds)))
    (l_law_kinds : K.lookup f_law_kinds = some ⟨oc_law_kinds, od_law_kinds, .func (PySem.W.fnOf "_law_kinds" "_law_kinds" (defArgs s_law_kinds) (defBody s_law_kinds) (defScope s_law_kinds) .none kV_law_kinds dc_law_kinds pm_law_kinds an_law_kinds cd_law_kinds ct_law_kinds), sl_law_kinds⟩)
    (c_law_kinds : PySem.W.codeIn K cd_law_kinds "_law_kinds" = true) (k_law_kinds : PySem.W.keepIn K (.ref f_law_kinds) = true)
    (a_law_raised : PySem.W.nsIn K mainGlobals "_law_raised" = some (some (.ref f_law_raised)))
    (l_law_raised : K.lookup f_law_raised = some ⟨oc_law_raised, od_law_raised, .func (PySem.W.fnOf "_law_raised" "_law_raised" (defArgs s_law_raised) (defBody s_law_raised) (defScope s_law_raised) .none kV_law_raised dc_law_raised pm_law_raised an_law_raised cd_law_raised ct_law_raised), sl_law_raised⟩)
    (c_law_raised : PySem.W.codeIn K cd_law_raised "_law_raised" = true) (k_law_raised : PySem.W.keepIn K (.ref f_law_raised) = true)
    (a_law_fields : PySem.W.nsIn K mainGlobals "_law_fields" = some (some (.ref f_law_fields)))
    (l_law_fields : K.lookup f_law_fields = some ⟨oc_law_fields, od_law_fields, .func (PySem.W.fnOf "_law_fields" "_law_fields" (defArgs s_law_fields) (defBody s_law_fields) (defScope s_law_fields) .none kV_law_fields dc_law_fields pm_law_fields an_law_fields cd_law_fields ct_law_fields), sl_law_fields⟩)
    (c_law_fields : PySem.W.codeIn K cd_law_fields "_law_fields" = true) (k_law_fields : PySem.W.keepIn K (.ref f_law_fields) = true)
    (a_law : PySem.W.nsIn K mainGlobals "law" = some (some (.ref f_law)))
    (l_law : K.lookup f_law = some ⟨oc_law, od_law, .func (PySem.W.fnOf "law" "law" (defArgs s_law) (defBody s_law) (defScope s_law) .none kV_law dc_law pm_law an_law cd_law ct_law), sl_law⟩)
    (c_law : PySem.W.codeIn K cd_law "law" = true) (k_law : PySem.W.keepIn K (.ref f_law) = true)
    (z_len : PySem.W.nsIn K mainGlobals "len" = some none)
    (z_list : PySem.W.nsIn K mainGlobals "list" = some none)
    (z_tuple : PySem.W.nsIn K mainGlobals "tuple" = some none)
    (z_abs : PySem.W.nsIn K mainGlobals "abs" = some none)
    (z_max : PySem.W.nsIn K mainGlobals "max" = some none)
    (z_min : PySem.W.nsIn K mainGlobals "min" = some none)
    (z_int : PySem.W.nsIn K mainGlobals "int" = some none)
    (z_bool : PySem.W.nsIn K mainGlobals "bool" = some none)
    (z_str : PySem.W.nsIn K mainGlobals "str" = some none)
    (z_dict : PySem.W.nsIn K mainGlobals "dict" = some none)
    (z_isinstance : PySem.W.nsIn K mainGlobals "isinstance" = some none)
    (z_range : PySem.W.nsIn K mainGlobals "range" = some none)
    (z_enumerate : PySem.W.nsIn K mainGlobals "enumerate" = some none)
    (z_sorted : PySem.W.nsIn K mainGlobals "sorted" = some none)
    (z_set : PySem.W.nsIn K mainGlobals "set" = some none)
    (z_repr : PySem.W.nsIn K mainGlobals "repr" = some none)
    (z_all : PySem.W.nsIn K mainGlobals "all" = some none)
    (z_any : PySem.W.nsIn K mainGlobals "any" = some none)
    (z_sum : PySem.W.nsIn K mainGlobals "sum" = some none)
    (z_zip : PySem.W.nsIn K mainGlobals "zip" = some none)
    (z_ValueError : PySem.W.nsIn K mainGlobals "ValueError" = some none)
    (x_BadMatter : K.lookup C_BadMatter = some (excClassObj nm_BadMatter qn_BadMatter C_BadMatter N_BadMatter bs_BadMatter [.ref C_WordError, .type "ValueError", .type "Exception", .type "BaseException", .type "object"] true sn_BadMatter sub_BadMatter ab_BadMatter col_BadMatter dd_BadMatter m0_BadMatter m1_BadMatter m2_BadMatter m3_BadMatter m5_BadMatter "ValueError.__new__"))
    (b_BadMatter : DL.xB K C_BadMatter = true)
    (r_BadMatter : DL.kitR K C_BadMatter 0 [C_BadMatter, C_Unlike, C_NotBalanced, C_NoFit, C_BadSaying, C_NoSaying, C_Contradicts, C_TooMuch, C_NothingDone] C_WordError = true)
    (t_BadMatter : PySem.W.typeIn K (.ref f_BadMatter_init) = some (.type "function"))
    (n_BadMatter : PySem.W.findIn K (.ref C_BadMatter) "place" = some none)
    (x_Unlike : K.lookup C_Unlike = some (excClassObj nm_Unlike qn_Unlike C_Unlike N_Unlike bs_Unlike [.ref C_WordError, .type "ValueError", .type "Exception", .type "BaseException", .type "object"] true sn_Unlike sub_Unlike ab_Unlike col_Unlike dd_Unlike m0_Unlike m1_Unlike m2_Unlike m3_Unlike m5_Unlike "ValueError.__new__"))
    (b_Unlike : DL.xB K C_Unlike = true)
    (r_Unlike : DL.kitR K C_Unlike 1 [C_BadMatter, C_Unlike, C_NotBalanced, C_NoFit, C_BadSaying, C_NoSaying, C_Contradicts, C_TooMuch, C_NothingDone] C_WordError = true)
    (t_Unlike : PySem.W.typeIn K (.ref f_Unlike_init) = some (.type "function"))
    (n_Unlike : PySem.W.findIn K (.ref C_Unlike) "place" = some none)
    (x_NotBalanced : K.lookup C_NotBalanced = some (excClassObj nm_NotBalanced qn_NotBalanced C_NotBalanced N_NotBalanced bs_NotBalanced [.ref C_WordError, .type "ValueError", .type "Exception", .type "BaseException", .type "object"] true sn_NotBalanced sub_NotBalanced ab_NotBalanced col_NotBalanced dd_NotBalanced m0_NotBalanced m1_NotBalanced m2_NotBalanced m3_NotBalanced m5_NotBalanced "ValueError.__new__"))
    (b_NotBalanced : DL.xB K C_NotBalanced = true)
    (r_NotBalanced : DL.kitR K C_NotBalanced 2 [C_BadMatter, C_Unlike, C_NotBalanced, C_NoFit, C_BadSaying, C_NoSaying, C_Contradicts, C_TooMuch, C_NothingDone] C_WordError = true)
    (t_NotBalanced : PySem.W.typeIn K (.ref f_NotBalanced_init) = some (.type "function"))
    (n_NotBalanced : PySem.W.findIn K (.ref C_NotBalanced) "ring" = some none)
    (x_NoFit : K.lookup C_NoFit = some (excClassObj nm_NoFit qn_NoFit C_NoFit N_NoFit bs_NoFit [.ref C_WordError, .type "ValueError", .type "Exception", .type "BaseException", .type "object"] true sn_NoFit sub_NoFit ab_NoFit col_NoFit dd_NoFit m0_NoFit m1_NoFit m2_NoFit m3_NoFit m5_NoFit "ValueError.__new__"))
    (b_NoFit : DL.xB K C_NoFit = true)
    (r_NoFit : DL.kitR K C_NoFit 3 [C_BadMatter, C_Unlike, C_NotBalanced, C_NoFit, C_BadSaying, C_NoSaying, C_Contradicts, C_TooMuch, C_NothingDone] C_WordError = true)
    (t_NoFit : PySem.W.typeIn K (.ref f_NoFit_init) = some (.type "function"))
    (n_NoFit : PySem.W.findIn K (.ref C_NoFit) "most" = some none)
    (x_BadSaying : K.lookup C_BadSaying = some (excClassObj nm_BadSaying qn_BadSaying C_BadSaying N_BadSaying bs_BadSaying [.ref C_WordError, .type "ValueError", .type "Exception", .type "BaseException", .type "object"] true sn_BadSaying sub_BadSaying ab_BadSaying col_BadSaying dd_BadSaying m0_BadSaying m1_BadSaying m2_BadSaying m3_BadSaying m5_BadSaying "ValueError.__new__"))
    (b_BadSaying : DL.xB K C_BadSaying = true)
    (r_BadSaying : DL.kitR K C_BadSaying 4 [C_BadMatter, C_Unlike, C_NotBalanced, C_NoFit, C_BadSaying, C_NoSaying, C_Contradicts, C_TooMuch, C_NothingDone] C_WordError = true)
    (t_BadSaying : PySem.W.typeIn K (.ref f_BadSaying_init) = some (.type "function"))
    (n_BadSaying : PySem.W.findIn K (.ref C_BadSaying) "saying" = some none)
    (x_NoSaying : K.lookup C_NoSaying = some (excClassObj nm_NoSaying qn_NoSaying C_NoSaying N_NoSaying bs_NoSaying [.ref C_WordError, .type "ValueError", .type "Exception", .type "BaseException", .type "object"] true sn_NoSaying sub_NoSaying ab_NoSaying col_NoSaying dd_NoSaying m0_NoSaying m1_NoSaying m2_NoSaying m3_NoSaying m5_NoSaying "ValueError.__new__"))
    (b_NoSaying : DL.xB K C_NoSaying = true)
    (r_NoSaying : DL.kitR K C_NoSaying 5 [C_BadMatter, C_Unlike, C_NotBalanced, C_NoFit, C_BadSaying, C_NoSaying, C_Contradicts, C_TooMuch, C_NothingDone] C_WordError = true)
    (t_NoSaying : PySem.W.typeIn K (.ref f_NoSaying_init) = some (.type "function"))
    (n_NoSaying : PySem.W.findIn K (.ref C_NoSaying) "number" = some none)
    (x_Contradicts : K.lookup C_Contradicts = some (excClassObj nm_Contradicts qn_Contradicts C_Contradicts N_Contradicts bs_Contradicts [.ref C_WordError, .type "ValueError", .type "Exception", .type "BaseException", .type "object"] true sn_Contradicts sub_Contradicts ab_Contradicts col_Contradicts dd_Contradicts m0_Contradicts m1_Contradicts m2_Contradicts m3_Contradicts m5_Contradicts "ValueError.__new__"))
    (b_Contradicts : DL.xB K C_Contradicts = true)
    (r_Contradicts : DL.kitR K C_Contradicts 6 [C_BadMatter, C_Unlike, C_NotBalanced, C_NoFit, C_BadSaying, C_NoSaying, C_Contradicts, C_TooMuch, C_NothingDone] C_WordError = true)
    (t_Contradicts : PySem.W.typeIn K (.ref f_Contradicts_init) = some (.type "function"))
    (n_Contradicts : PySem.W.findIn K (.ref C_Contradicts) "pair" = some none)
    (x_TooMuch : K.lookup C_TooMuch = some (excClassObj nm_TooMuch qn_TooMuch C_TooMuch N_TooMuch bs_TooMuch [.ref C_WordError, .type "ValueError", .type "Exception", .type "BaseException", .type "object"] true sn_TooMuch sub_TooMuch ab_TooMuch col_TooMuch dd_TooMuch m0_TooMuch m1_TooMuch m2_TooMuch m3_TooMuch m5_TooMuch "ValueError.__new__"))
    (b_TooMuch : DL.xB K C_TooMuch = true)
    (r_TooMuch : DL.kitR K C_TooMuch 7 [C_BadMatter, C_Unlike, C_NotBalanced, C_NoFit, C_BadSaying, C_NoSaying, C_Contradicts, C_TooMuch, C_NothingDone] C_WordError = true)
    (t_TooMuch : PySem.W.typeIn K (.ref f_TooMuch_init) = some (.type "function"))
    (n_TooMuch : PySem.W.findIn K (.ref C_TooMuch) "limit" = some none)
    (x_NothingDone : K.lookup C_NothingDone = some (excClassObj nm_NothingDone qn_NothingDone C_NothingDone N_NothingDone bs_NothingDone [.ref C_WordError, .type "ValueError", .type "Exception", .type "BaseException", .type "object"] true sn_NothingDone sub_NothingDone ab_NothingDone col_NothingDone dd_NothingDone m0_NothingDone m1_NothingDone m2_NothingDone m3_NothingDone m5_NothingDone "ValueError.__new__"))
    (b_NothingDone : DL.xB K C_NothingDone = true)
    (r_NothingDone : DL.kitR K C_NothingDone 8 [C_BadMatter, C_Unlike, C_NotBalanced, C_NoFit, C_BadSaying, C_NoSaying, C_Contradicts, C_TooMuch, C_NothingDone] C_WordError = true)
    (t_NothingDone : PySem.W.typeIn K (.ref f_NothingDone_init) = some (.type "function"))
    (kV : PySem.W.kitOne K (.type "ValueError") (.ref C_WordError) = some false)
    : ∃ fd : FuncData, (∀ (s : Shared) (u : Value), BindsTo s fd ⟨[u], []⟩ [("script", u)]) ∧ ∀ base : Heap, K.In base → base.Ns mainGlobals mg → GOk l.prog w K mg base CX0 4 fa fd ["script"] (spLaw K) := by
  have e := hfa.symm.trans (PySem.W.mg_of X G a_law)
  cases e
  have bl : Bl mg := ⟨PySem.W.mg_none_of X G z_len, PySem.W.mg_none_of X G z_list, PySem.W.mg_none_of X G z_tuple, PySem.W.mg_none_of X G z_abs, PySem.W.mg_none_of X G z_max, PySem.W.mg_none_of X G z_min, PySem.W.mg_none_of X G z_int, PySem.W.mg_none_of X G z_bool, PySem.W.mg_none_of X G z_str, PySem.W.mg_none_of X G z_dict, PySem.W.mg_none_of X G z_isinstance, PySem.W.mg_none_of X G z_range, PySem.W.mg_none_of X G z_enumerate, PySem.W.mg_none_of X G z_sorted, PySem.W.mg_none_of X G z_set, PySem.W.mg_none_of X G z_repr, PySem.W.mg_none_of X G z_all, PySem.W.mg_none_of X G z_any, PySem.W.mg_none_of X G z_sum, PySem.W.mg_none_of X G z_zip, PySem.W.mg_none_of X G z_ValueError⟩
  have y_BadMatter := xB_ok b_BadMatter
  have k_BadMatter := kitR_ok r_BadMatter
  have y_Unlike := xB_ok b_Unlike
  have k_Unlike := kitR_ok r_Unlike
  have y_NotBalanced := xB_ok b_NotBalanced
  have k_NotBalanced := kitR_ok r_NotBalanced
  have y_NoFit := xB_ok b_NoFit
  have k_NoFit := kitR_ok r_NoFit
  have y_BadSaying := xB_ok b_BadSaying
  have k_BadSaying := kitR_ok r_BadSaying
  have y_NoSaying := xB_ok b_NoSaying
  have k_NoSaying := kitR_ok r_NoSaying
  have y_Contradicts := xB_ok b_Contradicts
  have k_Contradicts := kitR_ok r_Contradicts
  have y_TooMuch := xB_ok b_TooMuch
  have k_TooMuch := kitR_ok r_TooMuch
  have y_NothingDone := xB_ok b_NothingDone
  have k_NothingDone := kitR_ok r_NothingDone
  have F_law_feed := fun_mk (st := s_law_feed) l_law_feed c_law_feed k_law_feed
  have F_law_take := fun_mk (st := s_law_take) l_law_take c_law_take k_law_take
  have F_law_pick := fun_mk (st := s_law_pick) l_law_pick c_law_pick k_law_pick
  have F_law_kinds := fun_mk (st := s_law_kinds) l_law_kinds c_law_kinds k_law_kinds
  have F_law_raised := fun_mk (st := s_law_raised) l_law_raised c_law_raised k_law_raised
  have F_law_fields := fun_mk (st := s_law_fields) l_law_fields c_law_fields k_law_fields
  have F_law := fun_mk (st := s_law) l_law c_law k_law
  refine ⟨PySem.W.fnOf "law" "law" (defArgs s_law) (defBody s_law) (defScope s_law) .none kV_law dc_law pm_law an_law cd_law ct_law, fun s u => .of_eq rfl, fun base _ _ => ?_⟩
  have smx : True := True.intro
  have i_BadMatter : XCls l.prog w K mg base "BadMatter" "place" C_BadMatter := xcls_mk (st := s_BadMatter_init) (PySem.W.mg_of X G aC_BadMatter) y_BadMatter x_BadMatter refs1 n_BadMatter a_BadMatter_init t_BadMatter l_BadMatter_init c_BadMatter_init k_BadMatter_init sc_BadMatter_init rfl (.inl rfl) (.inl rfl) (by decide) (by decide) (fun a u => rfl) (fun a u => rfl)
  have i_Unlike : XCls l.prog w K mg base "Unlike" "place" C_Unlike := xcls_mk (st := s_Unlike_init) (PySem.W.mg_of X G aC_Unlike) y_Unlike x_Unlike refs1 n_Unlike a_Unlike_init t_Unlike l_Unlike_init c_Unlike_init k_Unlike_init sc_Unlike_init rfl (.inl rfl) (.inl rfl) (by decide) (by decide) (fun a u => rfl) (fun a u => rfl)
  have i_NotBalanced : XCls l.prog w K mg base "NotBalanced" "ring" C_NotBalanced := xcls_mk (st := s_NotBalanced_init) (PySem.W.mg_of X G aC_NotBalanced) y_NotBalanced x_NotBalanced refs1 n_NotBalanced a_NotBalanced_init t_NotBalanced l_NotBalanced_init c_NotBalanced_init k_NotBalanced_init sc_NotBalanced_init rfl (.inl rfl) (.inl rfl) (by decide) (by decide) (fun a u => rfl) (fun a u => rfl)
  have i_NoFit : XCls l.prog w K mg base "NoFit" "most" C_NoFit := xcls_mk (st := s_NoFit_init) (PySem.W.mg_of X G aC_NoFit) y_NoFit x_NoFit refs1 n_NoFit a_NoFit_init t_NoFit l_NoFit_init c_NoFit_init k_NoFit_init sc_NoFit_init rfl (.inl rfl) (.inl rfl) (by decide) (by decide) (fun a u => rfl) (fun a u => rfl)
  have i_BadSaying : XCls l.prog w K mg base "BadSaying" "saying" C_BadSaying := xcls_mk (st := s_BadSaying_init) (PySem.W.mg_of X G aC_BadSaying) y_BadSaying x_BadSaying refs1 n_BadSaying a_BadSaying_init t_BadSaying l_BadSaying_init c_BadSaying_init k_BadSaying_init sc_BadSaying_init rfl (.inl rfl) (.inl rfl) (by decide) (by decide) (fun a u => rfl) (fun a u => rfl)
  have i_NoSaying : XCls l.prog w K mg base "NoSaying" "number" C_NoSaying := xcls_mk (st := s_NoSaying_init) (PySem.W.mg_of X G aC_NoSaying) y_NoSaying x_NoSaying refs1 n_NoSaying a_NoSaying_init t_NoSaying l_NoSaying_init c_NoSaying_init k_NoSaying_init sc_NoSaying_init rfl (.inl rfl) (.inl rfl) (by decide) (by decide) (fun a u => rfl) (fun a u => rfl)
  have i_Contradicts : XCls l.prog w K mg base "Contradicts" "pair" C_Contradicts := xcls_mk (st := s_Contradicts_init) (PySem.W.mg_of X G aC_Contradicts) y_Contradicts x_Contradicts refs1 n_Contradicts a_Contradicts_init t_Contradicts l_Contradicts_init c_Contradicts_init k_Contradicts_init sc_Contradicts_init rfl (.inl rfl) (.inl rfl) (by decide) (by decide) (fun a u => rfl) (fun a u => rfl)
  have i_TooMuch : XCls l.prog w K mg base "TooMuch" "limit" C_TooMuch := xcls_mk (st := s_TooMuch_init) (PySem.W.mg_of X G aC_TooMuch) y_TooMuch x_TooMuch refs1 n_TooMuch a_TooMuch_init t_TooMuch l_TooMuch_init c_TooMuch_init k_TooMuch_init sc_TooMuch_init rfl (.inl rfl) (.inl rfl) (by decide) (by decide) (fun a u => rfl) (fun a u => rfl)
  have i_NothingDone : XCls0 l.prog w K mg base "NothingDone" C_NothingDone := xcls0_mk (st := s_NothingDone_init) (PySem.W.mg_of X G aC_NothingDone) y_NothingDone x_NothingDone refs1 a_NothingDone_init t_NothingDone l_NothingDone_init c_NothingDone_init k_NothingDone_init sc_NothingDone_init rfl (fun a => rfl)
  have S : Xs l.prog w K mg base (fun j => [C_BadMatter, C_Unlike, C_NotBalanced, C_NoFit, C_BadSaying, C_NoSaying, C_Contradicts, C_TooMuch, C_NothingDone].getD j 0) C_WordError := {
    i0 := i_BadMatter, i1 := i_Unlike, i2 := i_NotBalanced, i3 := i_NoFit, i4 := i_BadSaying, i5 := i_NoSaying, i6 := i_Contradicts, i7 := i_TooMuch, i8 := i_NothingDone
    kp := fun j hj => match j, hj with | 0, _ => y_BadMatter.kp | 1, _ => y_Unlike.kp | 2, _ => y_NotBalanced.kp | 3, _ => y_NoFit.kp | 4, _ => y_BadSaying.kp | 5, _ => y_NoSaying.kp | 6, _ => y_Contradicts.kp | 7, _ => y_TooMuch.kp | 8, _ => y_NothingDone.kp | n + 9, h => absurd h (by omega)
    T := fun j hj => match j, hj with | 0, _ => y_BadMatter.T | 1, _ => y_Unlike.T | 2, _ => y_NotBalanced.T | 3, _ => y_NoFit.T | 4, _ => y_BadSaying.T | 5, _ => y_NoSaying.T | 6, _ => y_Contradicts.T | 7, _ => y_TooMuch.T | 8, _ => y_NothingDone.T | n + 9, h => absurd h (by omega)
    mW := PySem.W.mg_of X G aC_WordError
    ex := fun j hj => match j, hj with | 0, _ => k_BadMatter.e | 1, _ => k_Unlike.e | 2, _ => k_NotBalanced.e | 3, _ => k_NoFit.e | 4, _ => k_BadSaying.e | 5, _ => k_NoSaying.e | 6, _ => k_Contradicts.e | 7, _ => k_TooMuch.e | 8, _ => k_NothingDone.e | n + 9, h => absurd h (by omega)
    kit := fun j hj => match j, hj with | 0, _ => k_BadMatter.r | 1, _ => k_Unlike.r | 2, _ => k_NotBalanced.r | 3, _ => k_NoFit.r | 4, _ => k_BadSaying.r | 5, _ => k_NoSaying.r | 6, _ => k_Contradicts.r | 7, _ => k_TooMuch.r | 8, _ => k_NothingDone.r | n + 9, h => absurd h (by omega)
    kitW := fun j hj => match j, hj with | 0, _ => k_BadMatter.w | 1, _ => k_Unlike.w | 2, _ => k_NotBalanced.w | 3, _ => k_NoFit.w | 4, _ => k_BadSaying.w | 5, _ => k_NoSaying.w | 6, _ => k_Contradicts.w | 7, _ => k_TooMuch.w | 8, _ => k_NothingDone.w | n + 9, h => absurd h (by omega)
    kitV := fun j hj => match j, hj with | 0, _ => k_BadMatter.v | 1, _ => k_Unlike.v | 2, _ => k_NotBalanced.v | 3, _ => k_NoFit.v | 4, _ => k_BadSaying.v | 5, _ => k_NoSaying.v | 6, _ => k_Contradicts.v | 7, _ => k_TooMuch.v | 8, _ => k_NothingDone.v | n + 9, h => absurd h (by omega) }
  have dG : Df l.prog w K mg base 1 "_law_feed" ["script", "k"] (spG K Wfeed) := ⟨_, _, PySem.W.mg_of X G a_law_feed, k_law_feed, F_law_feed.binds (fun _ _ _ _ _ _ us hl => match us, hl with | [_, _], _ => rfl), f_feed F_law_feed smx bl⟩
  have dT : Df l.prog w K mg base 1 "_law_take" ["feed", "many"] (spF K 1 Wtake) := ⟨_, _, PySem.W.mg_of X G a_law_take, k_law_take, F_law_take.binds (fun _ _ _ _ _ _ us hl => match us, hl with | [_, _], _ => rfl), f_take F_law_take smx bl⟩
  have dP : Df l.prog w K mg base 2 "_law_pick" ["feed", "some"] (spF K 1 Wpick) := ⟨_, _, PySem.W.mg_of X G a_law_pick, k_law_pick, F_law_pick.binds (fun _ _ _ _ _ _ us hl => match us, hl with | [_, _], _ => rfl), f_pick F_law_pick smx bl dT⟩
  have dK : Df l.prog w K mg base 1 "_law_kinds" ["error"] (spX K (Wkinds (fun j => [C_BadMatter, C_Unlike, C_NotBalanced, C_NoFit, C_BadSaying, C_NoSaying, C_Contradicts, C_TooMuch, C_NothingDone].getD j 0))) := ⟨_, _, PySem.W.mg_of X G a_law_kinds, k_law_kinds, F_law_kinds.binds (fun _ _ _ _ _ _ us hl => match us, hl with | [_], _ => rfl), f_kinds F_law_kinds smx bl S⟩
  have dR : Df l.prog w K mg base 3 "_law_raised" ["way", "value"] (spR K 2 (Wraised (fun j => [C_BadMatter, C_Unlike, C_NotBalanced, C_NoFit, C_BadSaying, C_NoSaying, C_Contradicts, C_TooMuch, C_NothingDone].getD j 0))) := ⟨_, _, PySem.W.mg_of X G a_law_raised, k_law_raised, F_law_raised.binds (fun _ _ _ _ _ _ us hl => match us, hl with | [_, _], _ => rfl), f_raised F_law_raised smx S⟩
  have dF : Df l.prog w K mg base 3 "_law_fields" ["value"] (spN K 1 Wfields) := ⟨_, _, PySem.W.mg_of X G a_law_fields, k_law_fields, F_law_fields.binds (fun _ _ _ _ _ _ us hl => match us, hl with | [_], _ => rfl), f_fields F_law_fields smx S⟩
  exact f_law F_law smx bl S dG dT dP dK dR dF kV
end W
open PySem PySem.W PyProof.Rows in
set_option maxRecDepth 100000 in
set_option maxHeartbeats 0 in
theorem PySem.Challenge.cw_whoseword_k03_errors_by_hand_holds : PySem.Challenge.rw_whoseword_k03_errors_by_hand.Holds := by
  w_on; o_law; k_head; (case hw => w_witness2)
  k_fill
  refine DL.walk_G (l := PySem.Challenge.rw_whoseword_k03_errors_by_hand) (n := 63) (k := 4) (x := "script") (sp := DL.spLaw) rfl (by decide) rfl ⟨rfl, by decide, by decide⟩ (fun w h Y => PySem.W.kIn_of Y) ?F ?S
  case F =>
    intro w mg fa h KX G hmg
    refine' W.all_mk (l := PySem.Challenge.rw_whoseword_k03_errors_by_hand) (w := w) KX G hmg ?aC_WordError ?aC_BadMatter ?aC_Unlike ?aC_NotBalanced ?aC_NoFit ?aC_BadSaying ?aC_NoSaying ?aC_Contradicts ?aC_TooMuch ?aC_NothingDone ?a_BadMatter_init ?l_BadMatter_init ?c_BadMatter_init ?k_BadMatter_init ?a_Unlike_init ?l_Unlike_init ?c_Unlike_init ?k_Unlike_init ?a_NotBalanced_init ?l_NotBalanced_init ?c_NotBalanced_init ?k_NotBalanced_init ?a_NoFit_init ?l_NoFit_init ?c_NoFit_init ?k_NoFit_init ?a_BadSaying_init ?l_BadSaying_init ?c_BadSaying_init ?k_BadSaying_init ?a_NoSaying_init ?l_NoSaying_init ?c_NoSaying_init ?k_NoSaying_init ?a_Contradicts_init ?l_Contradicts_init ?c_Contradicts_init ?k_Contradicts_init ?a_TooMuch_init ?l_TooMuch_init ?c_TooMuch_init ?k_TooMuch_init ?a_NothingDone_init ?l_NothingDone_init ?c_NothingDone_init ?k_NothingDone_init ?a_law_feed ?l_law_feed ?c_law_feed ?k_law_feed ?a_law_take ?l_law_take ?c_law_take ?k_law_take ?a_law_pick ?l_law_pick ?c_law_pick ?k_law_pick ?a_law_kinds ?l_law_kinds ?c_law_kinds ?k_law_kinds ?a_law_raised ?l_law_raised ?c_law_raised ?k_law_raised ?a_law_fields ?l_law_fields ?c_law_fields ?k_law_fields ?a_law ?l_law ?c_law ?k_law ?z_len ?z_list ?z_tuple ?z_abs ?z_max ?z_min ?z_int ?z_bool ?z_str ?z_dict ?z_isinstance ?z_range ?z_enumerate ?z_sorted ?z_set ?z_repr ?z_all ?z_any ?z_sum ?z_zip ?z_ValueError ?x_BadMatter ?b_BadMatter ?r_BadMatter ?t_BadMatter ?n_BadMatter ?x_Unlike ?b_Unlike ?r_Unlike ?t_Unlike ?n_Unlike ?x_NotBalanced ?b_NotBalanced ?r_NotBalanced ?t_NotBalanced ?n_NotBalanced ?x_NoFit ?b_NoFit ?r_NoFit ?t_NoFit ?n_NoFit ?x_BadSaying ?b_BadSaying ?r_BadSaying ?t_BadSaying ?n_BadSaying ?x_NoSaying ?b_NoSaying ?r_NoSaying ?t_NoSaying ?n_NoSaying ?x_Contradicts ?b_Contradicts ?r_Contradicts ?t_Contradicts ?n_Contradicts ?x_TooMuch ?b_TooMuch ?r_TooMuch ?t_TooMuch ?n_TooMuch ?x_NothingDone ?b_NothingDone ?r_NothingDone ?t_NothingDone ?kV
    (case aC_WordError => k_is)
    (case aC_BadMatter => k_is)
    (case aC_Unlike => k_is)
    (case aC_NotBalanced => k_is)
    (case aC_NoFit => k_is)
    (case aC_BadSaying => k_is)
    (case aC_NoSaying => k_is)
    (case aC_Contradicts => k_is)
    (case aC_TooMuch => k_is)
    (case aC_NothingDone => k_is)
    (case a_BadMatter_init => k_is)
    (case l_BadMatter_init => k_is)
    (case c_BadMatter_init => k_is)
    (case k_BadMatter_init => k_is)
    (case a_Unlike_init => k_is)
    (case l_Unlike_init => k_is)
    (case c_Unlike_init => k_is)
    (case k_Unlike_init => k_is)
    (case a_NotBalanced_init => k_is)
    (case l_NotBalanced_init => k_is)
    (case c_NotBalanced_init => k_is)
    (case k_NotBalanced_init => k_is)
    (case a_NoFit_init => k_is)
    (case l_NoFit_init => k_is)
    (case c_NoFit_init => k_is)
    (case k_NoFit_init => k_is)
    (case a_BadSaying_init => k_is)
    (case l_BadSaying_init => k_is)
    (case c_BadSaying_init => k_is)
    (case k_BadSaying_init => k_is)
    (case a_NoSaying_init => k_is)
    (case l_NoSaying_init => k_is)
    (case c_NoSaying_init => k_is)
    (case k_NoSaying_init => k_is)
    (case a_Contradicts_init => k_is)
    (case l_Contradicts_init => k_is)
    (case c_Contradicts_init => k_is)
    (case k_Contradicts_init => k_is)
    (case a_TooMuch_init => k_is)
    (case l_TooMuch_init => k_is)
    (case c_TooMuch_init => k_is)
    (case k_TooMuch_init => k_is)
    (case a_NothingDone_init => k_is)
    (case l_NothingDone_init => k_is)
    (case c_NothingDone_init => k_is)
    (case k_NothingDone_init => k_is)
    (case a_law_feed => k_is)
    (case l_law_feed => k_is)
    (case c_law_feed => k_is)
    (case k_law_feed => k_is)
    (case a_law_take => k_is)
    (case l_law_take => k_is)
    (case c_law_take => k_is)
    (case k_law_take => k_is)
    (case a_law_pick => k_is)
    (case l_law_pick => k_is)
    (case c_law_pick => k_is)
    (case k_law_pick => k_is)
    (case a_law_kinds => k_is)
    (case l_law_kinds => k_is)
    (case c_law_kinds => k_is)
    (case k_law_kinds => k_is)
    (case a_law_raised => k_is)
    (case l_law_raised => k_is)
    (case c_law_raised => k_is)
    (case k_law_raised => k_is)
    (case a_law_fields => k_is)
    (case l_law_fields => k_is)
    (case c_law_fields => k_is)
    (case k_law_fields => k_is)
    (case a_law => k_is)
    (case l_law => k_is)
    (case c_law => k_is)
    (case k_law => k_is)
    (case z_len => k_is)
    (case z_list => k_is)
    (case z_tuple => k_is)
    (case z_abs => k_is)
    (case z_max => k_is)
    (case z_min => k_is)
    (case z_int => k_is)
    (case z_bool => k_is)
    (case z_str => k_is)
    (case z_dict => k_is)
    (case z_isinstance => k_is)
    (case z_range => k_is)
    (case z_enumerate => k_is)
    (case z_sorted => k_is)
    (case z_set => k_is)
    (case z_repr => k_is)
    (case z_all => k_is)
    (case z_any => k_is)
    (case z_sum => k_is)
    (case z_zip => k_is)
    (case z_ValueError => k_is)
    (case x_BadMatter => k_is)
    (case b_BadMatter => first | kernel_rfl | rfl)
    (case r_BadMatter => first | kernel_rfl | rfl)
    (case t_BadMatter => k_is)
    (case n_BadMatter => k_is)
    (case x_Unlike => k_is)
    (case b_Unlike => first | kernel_rfl | rfl)
    (case r_Unlike => first | kernel_rfl | rfl)
    (case t_Unlike => k_is)
    (case n_Unlike => k_is)
    (case x_NotBalanced => k_is)
    (case b_NotBalanced => first | kernel_rfl | rfl)
    (case r_NotBalanced => first | kernel_rfl | rfl)
    (case t_NotBalanced => k_is)
    (case n_NotBalanced => k_is)
    (case x_NoFit => k_is)
    (case b_NoFit => first | kernel_rfl | rfl)
    (case r_NoFit => first | kernel_rfl | rfl)
    (case t_NoFit => k_is)
    (case n_NoFit => k_is)
    (case x_BadSaying => k_is)
    (case b_BadSaying => first | kernel_rfl | rfl)
    (case r_BadSaying => first | kernel_rfl | rfl)
    (case t_BadSaying => k_is)
    (case n_BadSaying => k_is)
    (case x_NoSaying => k_is)
    (case b_NoSaying => first | kernel_rfl | rfl)
    (case r_NoSaying => first | kernel_rfl | rfl)
    (case t_NoSaying => k_is)
    (case n_NoSaying => k_is)
    (case x_Contradicts => k_is)
    (case b_Contradicts => first | kernel_rfl | rfl)
    (case r_Contradicts => first | kernel_rfl | rfl)
    (case t_Contradicts => k_is)
    (case n_Contradicts => k_is)
    (case x_TooMuch => k_is)
    (case b_TooMuch => first | kernel_rfl | rfl)
    (case r_TooMuch => first | kernel_rfl | rfl)
    (case t_TooMuch => k_is)
    (case n_TooMuch => k_is)
    (case x_NothingDone => k_is)
    (case b_NothingDone => first | kernel_rfl | rfl)
    (case r_NothingDone => first | kernel_rfl | rfl)
    (case t_NothingDone => k_is)
    (case kV => first | kernel_rfl | rfl)
  case S =>
    intro K H a ns hl hO hs
    exact ⟨a, ns, rfl, hl, hs, fun _ => rfl⟩
