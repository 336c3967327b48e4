import PyProof.Rows.All
import Wide.All
import OpenK.AllK
import Wide.FinOn
import PyProof.EqAt
import PyProof.EqKinds
import PyProof.TupleCall
import Lean
import HandS.ForMost
import HandS.ForExc
import HandS.Defaults
import HandS.Steps
import HandS.Evl
import HandS.More
import HandS.TupAny
import HandS.Style
import HandS.Conv
import HandS.SortInts
import HandS.IsInst
import HandS.FStr
import HandS.Deep
import HandS.ExcInit
import HandS.TryMany
import HandS.RaiseFrom
import HandS.SuiteRaise
import HandS.Zip
import HandS.HeadHook4
import HandS.HeadEnd
import HandS.HeadWalk
import HandS.Head0
import HandS.Head1
import HandS.Head2
import HandS.NoneIn
import HandS.StrMore
import HandS.WideBits
import HandS.Small
import KE.KExcIs
import HandS.ExcIs
import HandS.ExcField
import HandS.ExcValue
import HandS.ExcInitHot
import HandS.RaiseMore
import HandS.Replace
import KE.IntTextLaws
import KE.BitLaws
import HandS.SetFor
import HandS.TupSets
import KE.DataMinMax
import HandS.SortKw
import HandS.RevRange
import PyProof.Rows.BitMore
import PySem.Challenge.RW_sortweb_k12_whole_noughts_and_ones
set_option Elab.async false
set_option linter.all false
set_option maxRecDepth 100000
set_option maxHeartbeats 4000000
namespace Sw
open PySem PySem.Spec PyProof.Rows L2

/-! ## A def by its promise -/
/-- the name x of the module is a def that keeps sp -/
structure Cal (P : Program) (w : World) (K : PySem.W.Frag) (mg : Str → Option Value) (base : Heap) (CX : CXT) (k : Nat) (x : Str) (ps : List Str) (sp : Sp) : Prop where
  ex : ∃ (f : Addr) (fd : FuncData), FnOk P w K mg base CX k f fd ps sp ∧ mg x = some (.ref f) ∧ PySem.W.keepIn K (.ref f) = true ∧ Binds K fd ps [] ∧
    (∀ (s : Shared) (us : List Value), us.length = ps.length → BindsTo s fd ⟨us, []⟩ (ps.zip us)) ∧ ∃ (oc : Value) (od : Option Addr) (osl : Array (Option Value)), K.lookup f = some ⟨oc, od, .func fd, osl⟩
/-- the name x of the module is the def st of the text -/
structure Here (K : PySem.W.Frag) (mg : Str → Option Value) (x : Str) (st : Stmt) : Prop where
  ex : ∃ (f : Addr) (fd : FuncData), FunD K x x (defArgs st) (defBody st) (defScope st) [] [] f fd ∧ mg x = some (.ref f)
abbrev BX (CX : CXT) (P : Program) (w : World) (K : PySem.W.Frag) (mg : Str → Option Value) (base : Heap) (N : List Str) (x : Str) (st : Stmt) (f : Addr) (cdv : Value) (A : Around) (outer : List Env) (s : Shared) (H : Hp) (E : XK) : Cx :=
  cxOf CX P w K mg base N x (defScope st) f cdv A outer s H E
abbrev RmIn (k : Nat) (A : Around) (x : Str) (st : Stmt) (s : Shared) (f : Addr) (cdv : Value) : Prop := Room k (A.deeper (envOfC x (defScope st) s.heap.objs.size f cdv))
section
variable {P : Program} {w : World} {K : PySem.W.Frag} {mg : Str → Option Value} {base : Heap} {x : Str} {st : Stmt} {N ps : List Str} {k : Nat} {sp : Sp}
theorem Here.cal {r : TS} (F : Here K mg x st) (S : FnScope N ps (defScope st)) (len : ∀ vs H Q E, sp vs H Q E → vs.length = ps.length)
    (bd : ∀ (kV doc pm : Value) (an : Option Addr) (cdv ct : Value) (us : List Value), us.length = ps.length →
      bindArgs (PySem.W.fnOf x x (defArgs st) (defBody st) (defScope st) .none kV doc pm an cdv ct) ⟨us, []⟩ = pure (ps.zip us))
    (dv : ∀ (f : Addr) (cdv : Value) (A : Around) (outer : List Env) (s : Shared) (H : Hp) (E : XK), RmIn k A x st s f cdv → PSs (BX CX0 P w K mg base N x st f cdv A outer s H E).nox (defBody st) r)
    (rd : ∀ (vs : List V) (H : Hp) (Q : VK) (E : XK), sp vs H Q E → r { nx := fun _ H' => Q .non H', rt := Q } (start N vs) H) :
    Cal P w K mg base CX0 (k + 1) x ps sp := by
  obtain ⟨f, fd, D, g⟩ := F.ex
  refine ⟨f, fd, ?_, g, D.kp, D.bindsN bd, fun s us hl => D.bindsA bd s us hl, ?_⟩
  · exact D.ok S len fun cdv A outer s H vs Q E hr h => ⟨r, (dv f cdv A outer s H E hr).nox, rd vs H Q E h⟩
  · obtain ⟨oc, od, _, _, _, _, _, _, _, osl, _, lk, _⟩ := D.ex
    exact ⟨oc, od, osl, lk⟩
theorem Cal.mono {CX : CXT} {j : Nat} (c : Cal P w K mg base CX j x ps sp) (h : j ≤ k) : Cal P w K mg base CX k x ps sp := by
  obtain ⟨f, fd, F, g, kp, b, ba⟩ := c.ex
  exact ⟨f, fd, F.mono h, g, kp, b, ba⟩
end
/-- f(e, ..), nothing raised -/
def tCal (sp : Sp) (t : TA) : TE := fun σ H Q => t σ H fun vs H1 => sp vs H1 Q E0
section
variable {X : Cx} {k : Nat} {x : Str} {ps : List Str} {sp : Sp} {t : TA} {e : Expr} {es : List Expr} {p pos : Pos}
theorem pe_cal (c : Cal X.prog X.w X.K X.mg X.base CX0 k x ps sp) (hr : Room k X.A) (hg : Gl X x) (ha : PA X (e :: es) t)
    (hdb : (x == ("__debug__" : Str)) = false := by decide) (he : starEach (e :: es) X.env = (false, eval e X.env) :: starEach es X.env := by rfl)
    (hpl : (backTo pos (starEach es X.env)).any (·.1) = false := by rfl) : PE X (.Call (.Name x p) (e :: es) [] pos) (tCal sp t) := by
  obtain ⟨f, fd, F, gm, kp, b, _⟩ := c.ex
  refine ⟨fun pins s σ H Q I h => ?_⟩
  refine (pe_call (E := E0) (dvs := []) F hr hg gm kp b .nil pass0 ha hdb he hpl).run pins s σ H Q I ?_
  have eq : (fun (vs : List V) (H1 : Hp) => sp vs H1 Q E0) = fun vs H1 => sp (vs ++ []) H1 Q E0 := by
    funext vs H1
    rw [List.append_nil]
  show t σ H fun vs H1 => sp (vs ++ []) H1 Q E0
  rw [← eq]
  exact h
end

/-! ## The head: what the top has left, by names -/
def defD (x : Str) (st : Stmt) : He.DefD := ⟨(x, none), x, x, defArgs st, defBody st, defScope st, [], []⟩
def asZ (g : Addr → Option Obj) : Nat → List Addr
  | 0 => [mainGlobals, cStatics]
  | n + 1 => He.growD g (asZ g n)
def fragZ (g : Addr → Option Obj) (n : Nat) : PySem.W.Frag := He.frG g (asZ g n)
def obsZ (n : Nat) (fa : List He.Fa) (fn : List He.DefD) (ex : PySem.W.Frag → Bool) (g : Addr → Option Obj) : He.AlD × Bool := (fun K : PySem.W.Frag => (He.obsD fa fn K, ex K)) (fragZ g n)
/-- what the head tells of the written part K -/
structure SaysZ (fa : List He.Fa) (fn : List He.DefD) (ex : PySem.W.Frag → Bool) (K : PySem.W.Frag) : Prop where
  d : He.SaysD fa fn K
  x : ex K = true
def hookZ (n : Nat) (fa : List He.Fa) (fn : List He.DefD) (ex : PySem.W.Frag → Bool) : PySem.W.Hook where
  α := He.AlD × Bool
  obs := fun s => obsZ n fa fn ex s.heap.get?
  val := fun _ => (He.valD fn, true)
  says := fun _ h => ∃ K : PySem.W.Frag, K.In h ∧ SaysZ fa fn ex K
  of := fun _ _ e => ⟨_, He.frG_in, congrArg (fun z : He.AlD × Bool => z.1) e, congrArg (fun z : He.AlD × Bool => z.2) e⟩
  keeps := fun _ _ _ ⟨K, hK, c⟩ k => ⟨K, PySem.W.Frag.In.keeps hK k, c⟩
theorem obsZ_eq {n : Nat} {fa : List He.Fa} {fn : List He.DefD} {ex : PySem.W.Frag → Bool} {g : Addr → Option Obj} {s : Shared} (h : ∀ a, g a = s.heap.get? a) : obsZ n fa fn ex g = (hookZ n fa fn ex).obs s := by
  have e : g = s.heap.get? := funext h
  rw [e] <;> rfl
section
variable {fa : List He.Fa} {fn : List He.DefD} {ex : PySem.W.Frag → Bool} {h : Heap} {K : PySem.W.Frag} {mg : Str → Option Value}
theorem here_of (c : SaysZ fa fn ex K) (X : K.In h) (G : h.Ns mainGlobals mg) {x : Str} {st : Stmt} (i j : Nat) (hi : fn[i]? = some (defD x st)) (hj : fa[j]? = some (.glo x)) : Here K mg x st := by
  obtain ⟨fd, F⟩ := c.d.def_ i hi
  exact ⟨_, fd, F, He.glo_ok X G (c.d.fact j hj)⟩
theorem none_of (c : SaysZ fa fn ex K) (X : K.In h) (G : h.Ns mainGlobals mg) {x : Str} (j : Nat) (hj : fa[j]? = some (.free x)) : mg x = none := He.free_ok X G (c.d.fact j hj)
theorem int_of (c : SaysZ fa fn ex K) (X : K.In h) (G : h.Ns mainGlobals mg) {x : Str} {z : Int} (j : Nat) (hj : fa[j]? = some (.int x z)) : ∃ t, mg x = some (.int z t) := He.int_ok X G (c.d.fact j hj)
end
/-- the law's own promise -/
def spLaw (K : PySem.W.Frag) : Sp := fun vs H Q _ => ∃ (a : Addr) (ns : List Int), vs = [.ref a] ∧ SqL K H a (ns.map V.int) ∧ ns.length ≤ 63 ∧ ∀ H', Q (.bl true) H'
theorem law_end {l : PySem.W.OpenLaw} {k : Nat} {q : Program} {loose : List Str} {XP : (Str → Option Value) → Heap → Prop} {fa : List He.Fa} {fn : List He.DefD} {ex : PySem.W.Frag → Bool} {d : DefRec} {x : Str} {n : Nat}
    (hm : l.most = some 63) (hdf : d.params.defaults = []) (hr : Room k callerA) (hd : d.name = ("law" : Str))
    (F : ∀ (w : World) (mg : Str → Option Value) (h : Heap) (K : PySem.W.Frag), K.In h → h.Ns mainGlobals mg → SaysZ fa fn ex K → ∀ base : Heap, K.In base → base.Ns mainGlobals mg → Cal l.prog w K mg base CX0 k "law" [x] (spLaw K)) :
    PySem.W.WalkO q loose XP (hookZ n fa fn ex).says l.row.toRowW d [] (fun f vs => PySem.call f vs) := by
  refine walk_ofE (CX := CX0) (x := x) hm (by rw [sizeLine_eq]; decide) hdf hr (fun w mg f h Y G hf => ?_) (fun _ _ _ _ z => z)
  obtain ⟨K, KX, c⟩ := Y
  rw [hd] at hf
  obtain ⟨f0, fd0, _, g0, _, _, ba0, oc0, od0, osl0, lk0⟩ := (F w mg h K KX G c h KX G).ex
  have e0 : f0 = f := by
    rw [hf] at g0
    cases g0
    rfl
  subst e0
  refine ⟨K, fd0, spLaw K, KX, fun s u => ba0 s [u] rfl, fun H a ns hl _ hS => ⟨a, ns, rfl, hS, hl, fun _ => rfl⟩, fun base KB GB => ?_⟩
  obtain ⟨f1, fd1, F1, g1, _, _, _, oc1, od1, osl1, lk1⟩ := (F w mg h K KX G c base KB GB).ex
  have e1 : f1 = f0 := by
    rw [hf] at g1
    cases g1
    rfl
  subst e1
  rw [lk0] at lk1
  cases lk1
  exact F1
/-! ## Readings by name -/
abbrev oAdd : R2 := rI0 fun i j => .int (i + j)
abbrev oSub : R2 := rI0 fun i j => .int (i - j)
abbrev oMul : R2 := rI CMul fun i j => .int (i * j)
abbrev oDiv : R2 := rI CDiv fun i j => .int (i / j)
abbrev oMod : R2 := rI (fun _ j => 0 < j) fun i j => .int (i % j)
abbrev oPow : R2 := rI CPow fun i j => .int (i ^ j.toNat)
abbrev oShl : R2 := rI CPow fun i j => .int (i * 2 ^ j.toNat)
abbrev oShr : R2 := rI (fun _ j => 0 ≤ j) fun i j => .int (i / 2 ^ j.toNat)
abbrev oBAnd : R2 := rI0 fun i j => .int (Builtin.bitAnd i j)
abbrev oLt : R2 := rI0 fun i j => .bl (decide (i < j))
abbrev oLe : R2 := rI0 fun i j => .bl (decide (i ≤ j))
abbrev oGt : R2 := rI0 fun i j => .bl (decide (j < i))
abbrev oGe : R2 := rI0 fun i j => .bl (decide (j ≤ i))
abbrev oNeg : V → Hp → VK → Prop := rU fun i => .int (-i)
def kLen (K : PySem.W.Frag) : List V → Hp → VK → Prop := fun xs H Q => ∃ p ys, xs = [.ref p] ∧ (SqL K H p ys ∨ SqT K H p ys) ∧ Q (.int ys.length) H
def kList (K : PySem.W.Frag) : List V → Hp → VK → Prop := fun xs H Q => ∃ p ys, xs = [.ref p] ∧ (SqL K H p ys ∨ SqT K H p ys) ∧ ∀ l, H l = none → Q (.ref l) (upd H l (.lst ys))
def kMin : List V → Hp → VK → Prop := fun xs H Q => ∃ i j, xs = [.int i, .int j] ∧ Q (.int (if j < i then j else i)) H
def kMax : List V → Hp → VK → Prop := fun xs H Q => ∃ i j, xs = [.int i, .int j] ∧ Q (.int (if j > i then j else i)) H
def rInsert : V → List V → Hp → VK → Prop := fun x vs H Q => ∃ (l : Addr) (xs : List V) (i : Int) (y : V), x = .ref l ∧ vs = [.int i, y] ∧ H l = some (.lst xs) ∧ xs.length < sizeLine ∧ 0 ≤ i ∧ i < 2 ^ 63 ∧ Q .non (upd H l (.lst (xs.take i.toNat ++ [y] ++ xs.drop i.toNat)))
abbrev oAddS : R2 := fun x y H Q => ∃ i j, x = .str i ∧ y = .str j ∧ i.length + j.length ≤ sizeLine ∧ Q (.str (i ++ j)) H
abbrev rIsTyB : R2 := fun x y H Q => ∃ a b, x = .ty a ∧ y = .ty b ∧ Q (.bl (decide (a = b))) H
theorem hu64 {k : Nat} {A : Around} (hr : Room k A) : A.units + 64 < cLine := hr.units
section
variable {X : Cx}
theorem cl_len : CallR X (.builtin "len") (kLen X.K) := call_len_seq
theorem cl_list : CallR X (.type "list") (kList X.K) := call_list_of
theorem cl_min (hc : X.calm = true) : CallR X (.builtin "min") kMin := call_min2 hc
theorem cl_max (hc : X.calm = true) : CallR X (.builtin "max") kMax := call_max2 hc
theorem md_insert : MtR X "list.insert" rInsert := mt_insert
theorem md_append : MtR X "list.append" rAppend := mt_append
theorem md_popAt : MtR X "list.pop" rPopAt := mt_popAt
/-- a module's int -/
theorem pe_gi {x : Str} {i : Int} {pos : Pos} (h : ∃ t, X.mg x = some (.int i t)) (hg : Gl X x) (hd : (x == ("__debug__" : Str)) = false := by decide) : PE X (.Name x pos) (tC (.int i)) := by
  obtain ⟨t, h⟩ := h
  exact pe_glob hg h ⟨t, rfl⟩ hd
/-- what is never reached -/
def tOff : TS := fun _ _ _ => False
theorem ps_off {st : Stmt} : PS X st tOff := ⟨fun _ _ _ _ _ _ h => h.elim⟩
end
end Sw

set_option Elab.async false
set_option linter.all false
set_option maxRecDepth 100000
set_option maxHeartbeats 4000000
namespace Sw
open PySem PySem.Spec PyProof.Rows L2
/-! ## (a, b)[::-1] -/
section
variable {prog : Program} {w : World} {A : Around} {E : Value → Shared → Prop} {s : Shared}
theorem applied_back2 {sl : Addr} {tk : Tok} {Q : Int × Int × Nat → Shared → Prop} (hs : s.heap.IsSliceOf sl .none .none (.int (-1) tk)) (h : Q (1, -1, 2) s) :
    wpAny (model prog w) A (Builtin.Slice.sliceApplied (.ref sl) (pure (2 : Int))) Q E s := by
  obtain ⟨os, hos, hcs, hds⟩ := id hs
  unfold Builtin.Slice.sliceApplied Builtin.Slice.sliceFields
  refine wpAny_bind (wpAny_bind ?_)
  refine wpAny_field hos hds (x := .none) rfl ?_
  refine wpAny_bind (wpAny_field hos hds (x := .none) rfl ?_)
  refine wpAny_bind (wpAny_field hos hds (x := .int (-1) tk) rfl ?_)
  refine wpAny_pure ?_
  refine wpAny_bind (HT.slicePart_ (.int (-1) tk) ?_)
  show wpAny _ _ (if ((-1 : Int) == 0) = true then _ else _) _ _ s
  rw [if_neg (by decide)]
  refine wpAny_bind (HT.slicePart_ .none ?_)
  refine wpAny_bind (HT.slicePart_ .none ?_)
  refine wpAny_bind (wpAny_pure ?_)
  exact wpAny_pure h
theorem item_back2 {t sl : Addr} {u v : Value} {tk : Tok} {Q : Value → Shared → Prop} (ht : IsTup s.heap t #[u, v]) (hs : s.heap.IsSliceOf sl .none .none (.int (-1) tk))
    (h : Q (.ref s.heap.objs.size) { s with heap := s.heap.push { cls := .type "tuple", data := .seq #[v, u] } }) : wpAny (model prog w) A (getItem (.ref t) (.ref sl)) Q E s := by
  have two : sizeOk (.seq #[v, u]) := by
    show 2 ≤ sizeLine
    rw [sizeLine_eq]
    decide
  obtain ⟨os, hos, hcs, hds⟩ := id hs
  have kind : s.TypeIs (.ref sl) "slice" := ⟨os, hos, hcs⟩
  unfold getItem
  try with_reducible refine wpAny_holding ?_
  first
    | refine wpAny_bind (wpAny_pure ?_)
    | skip
  refine wpAny_bind (wpAny_sequenceKey ht.typeIs (by decide) ?_)
  refine wpAny_bind (wpAny_callSpecial?_slot (name := Str.ofString "__getitem__") ht.typeIs slot_tuple_getitem ?_)
  refine wpAny_call_entry slot_tuple_getitem ht.typeIs entry_tuple_getitem ?_ (args_tuple_getitem _ _)
  show wpAny _ _ (Builtin.Tuple.tupleItemsOf (.ref t) >>= _) _ _ s
  refine wpAny_bind (tupleItemsOf_ ht ?_)
  refine wpAny_bind (wpAny_typeOf kind ?_)
  rw [if_pos (by decide)]
  refine wpAny_bind (applied_back2 hs ?_)
  show wpAny _ _ (if ((1 : Int) == 0 && (-1 : Int) == 1 && (2 : Nat) == 2) = true then _ else _) _ _ s
  rw [if_neg (by decide)]
  first
    | exact wpAny_bind (m := Builtin.Tuple.tupleExact _) (wpAny_newObj_type (wpAny_pure ⟨_, rfl, wpAny_pure h⟩) two)
    | exact wpAny_bind (m := Builtin.Tuple.tupleExact _) (wpAny_newObj_type (wpAny_bind (wpAny_pure (wpAny_pure ⟨_, rfl, wpAny_pure h⟩))) two)
    | exact wpAny_bind (wpAny_bind (m := Builtin.Tuple.tupleExact _) (wpAny_newObj_type (wpAny_pure (wpAny_pure ⟨_, rfl, wpAny_pure h⟩)) two))
    | exact wpAny_bind (wpAny_bind (m := Builtin.Tuple.tupleExact _) (wpAny_newObj_type (wpAny_pure ⟨_, rfl, wpAny_pure h⟩) two))
end
/-- t[::-1], t a pair -/
def tTurn (K : PySem.W.Frag) (te : TE) : TE := fun σ H Q => te σ H fun x H1 => ∃ (a : Addr) (y z : V), x = .ref a ∧ SqT K H1 a [y, z] ∧ ∀ p, H1 p = none → Q (.ref p) (upd H1 p (.tup [z, y]))
section
variable {X : Cx}
theorem pe_turn {e : Expr} {te : TE} {k : Nat} {p1 p2 p3 pos : Pos} (he : PE X e te) : PE X (.Subscript e (.Slice none none (some (.UnaryOp .USub (.Constant (.int 1) k p1) p2)) p3) pos) (tTurn X.K te) := by
  refine ⟨fun pins s σ H Q I h => ?_⟩
  refine Subscript_ (thn (he.run pins s σ H _ I h) fun v s1 ⟨x, H1, I1, r1, q1⟩ => ?_)
  obtain ⟨a, y, z, rfl, hx, q⟩ := q1
  cases r1
  have back : PO X (some (.UnaryOp .USub (.Constant (.int 1) k p1) p2)) (tPart (tUn oNeg (tC (.int 1)))) := po_some (pe_un un_neg pe_int)
  refine wpAny_Slice ?_
  refine thn (po_none.run pins s1 σ H1 (fun o G => o = none ∧ G = H1) I1 ⟨rfl, rfl⟩) fun vl s2 ⟨l, H2, I2, pl, el, e2⟩ => ?_
  subst el e2
  refine thn (po_none.run pins s2 σ H2 (fun o G => o = none ∧ G = H2) I2 ⟨rfl, rfl⟩) fun vu s3 ⟨u, H3, I3, pu, eu, e3⟩ => ?_
  subst eu e3
  refine thn (back.run pins s3 σ H3 (fun o G => o = some (-1) ∧ G = H3) I3 ⟨1, rfl, -1, rfl, rfl, rfl⟩) fun vs s4 ⟨o, H4, I4, ps, eo, e4⟩ => ?_
  subst eo e4
  cases pl
  cases pu
  cases ps with
  | int i tk =>
    have I5 : Inv X pins σ H4 { s4 with heap := s4.heap.push { cls := .type "slice", data := .fields #[.none, .none, .int (-1) tk] } } :=
      I4.kept (t' := s4.toks) fun b ob q => Heap.get?_push_of_some _ q
    obtain ⟨its, r, ht, hz⟩ := I5.tuple hx
    obtain ⟨y', z', rfl, ry, rz⟩ : ∃ y' z', its = [y', z'] ∧ RelV y y' ∧ RelV z z' := by
      cases r with
      | cons r1 r2 =>
        cases r2 with
        | cons r3 r4 =>
          cases r4
          exact ⟨_, _, rfl, r1, r3⟩
    show wpAny (model X.prog X.w) X.A (subscriptTail e (.Slice none none (some (.UnaryOp .USub (.Constant (.int 1) k p1) p2)) p3) (.ref a) (.ref s4.heap.objs.size)) (EP X pins σ Q) X.xe { s4 with heap := s4.heap.push { cls := .type "slice", data := .fields #[.none, .none, .int (-1) tk] } }
    refine tail_any (ops := [.ref a, .ref s4.heap.objs.size]) ht.typeIs slot_tuple_getitem.lookup ?_ (by with_unfolding_all rfl)
    refine item_back2 ht (Heap.IsSliceOf.new _ .none .none _) ?_
    refine ⟨.ref _, _, I5.laid (t' := s4.toks) (o := .tup [z, y]) (fun b ob q => Heap.get?_push_of_some _ q) (Nat.le_refl _) ?_, rfl, q _ (I5.hok.fresh (Nat.le_refl _))⟩
    refine ⟨by show 2 ≤ sizeLine; rw [sizeLine_eq]; decide, [z', y'], .cons rz (.cons ry .nil), IsTup.new _ _⟩
end
end Sw

set_option Elab.async false
set_option linter.all false
set_option maxRecDepth 100000
set_option maxHeartbeats 4000000
namespace Sw
open PySem PySem.Spec PyProof.Rows L2
/-! ## Two lists, item by item -/
inductive All2 {α β : Type} (R : α → β → Prop) : List α → List β → Prop
  | nil : All2 R [] []
  | cons {a : α} {b : β} {l : List α} {m : List β} : R a b → All2 R l m → All2 R (a :: l) (b :: m)
namespace All2
variable {α β : Type} {R S : α → β → Prop}
theorem length {l : List α} {m : List β} (h : All2 R l m) : l.length = m.length := by
  induction h with
  | nil => rfl
  | cons _ _ ih => rw [List.length_cons, List.length_cons, ih]
theorem imp {l : List α} {m : List β} (h : All2 R l m) (f : ∀ a b, R a b → S a b) : All2 S l m := by
  induction h with
  | nil => exact .nil
  | cons r _ ih => exact .cons (f _ _ r) ih
theorem append {l l' : List α} {m m' : List β} (h : All2 R l m) (h' : All2 R l' m') : All2 R (l ++ l') (m ++ m') := by
  induction h with
  | nil => exact h'
  | cons r _ ih => exact .cons r ih
theorem one {a : α} {b : β} (h : R a b) : All2 R [a] [b] := .cons h .nil
theorem take {l : List α} {m : List β} (h : All2 R l m) : ∀ n, All2 R (l.take n) (m.take n) := by
  induction h with
  | nil => intro n; rw [List.take_nil, List.take_nil]; exact .nil
  | cons r _ ih =>
    intro n
    cases n with
    | zero => exact .nil
    | succ n => exact .cons r (ih n)
theorem drop {l : List α} {m : List β} (h : All2 R l m) : ∀ n, All2 R (l.drop n) (m.drop n) := by
  induction h with
  | nil => intro n; rw [List.drop_nil, List.drop_nil]; exact .nil
  | cons r h ih =>
    intro n
    cases n with
    | zero => exact .cons r h
    | succ n => exact ih n
theorem set {a : α} {b : β} (r : R a b) {l : List α} {m : List β} (h : All2 R l m) : ∀ n, All2 R (l.set n a) (m.set n b) := by
  induction h with
  | nil => intro n; exact .nil
  | cons q h ih =>
    intro n
    cases n with
    | zero => exact .cons r h
    | succ n => exact .cons q (ih n)
theorem erase {l : List α} {m : List β} (h : All2 R l m) : ∀ n, All2 R (l.eraseIdx n) (m.eraseIdx n) := by
  induction h with
  | nil => intro n; exact .nil
  | cons q h ih =>
    intro n
    cases n with
    | zero => exact h
    | succ n => exact .cons q (ih n)
theorem get {l : List α} {m : List β} (h : All2 R l m) : ∀ {i : Nat} {b : β}, m[i]? = some b → ∃ a, l[i]? = some a ∧ R a b := by
  induction h with
  | nil => intro i b e; simp at e
  | cons q h ih =>
    intro i b e
    cases i with
    | zero =>
      rw [List.getElem?_cons_zero] at e
      cases e
      exact ⟨_, rfl, q⟩
    | succ i => exact ih (by simpa using e)
theorem getL {l : List α} {m : List β} (h : All2 R l m) : ∀ {i : Nat} {a : α}, l[i]? = some a → ∃ b, m[i]? = some b ∧ R a b := by
  induction h with
  | nil => intro i b e; simp at e
  | cons q h ih =>
    intro i b e
    cases i with
    | zero =>
      rw [List.getElem?_cons_zero] at e
      cases e
      exact ⟨_, rfl, q⟩
    | succ i => exact ih (by simpa using e)
theorem snoc {l : List α} {m : List β} {a : α} {b : β} (h : All2 R l m) (r : R a b) : All2 R (l ++ [a]) (m ++ [b]) := h.append (.one r)
end All2
/-! ## Webs on the heap -/
abbrev Cmp := Nat × Nat
def V2 (c : Cmp) : List V := [.int (c.1 : Int), .int (c.2 : Int)]
/-- at each address a pair: the comparer -/
abbrev Prs (K : PySem.W.Frag) (H : Hp) (ps : List Addr) (cs : List Cmp) : Prop := All2 (fun p c => SqT K H p (V2 c)) ps cs
def Rfs (ps : List Addr) : List V := ps.map V.ref
def CmpOk (n : Nat) (c : Cmp) : Prop := c.1 < n ∧ c.2 < n ∧ c.1 ≠ c.2
def CmpsOk (n : Nat) (cs : List Cmp) : Prop := ∀ c ∈ cs, CmpOk n c
def WebOk (n : Nat) (cs : List Cmp) : Prop := cs.length ≤ 60 ∧ CmpsOk n cs
theorem same_new {H : Hp} {p : Addr} {o : HO} (h : H p = none) : Same H (upd H p o) := fun b x e => by
  rw [upd_ne (ne_of_none e h)]
  exact e
theorem Same.sqt {K : PySem.W.Frag} {H H' : Hp} {a : Addr} {xs : List V} (e : Same H H') (h : SqT K H a xs) : SqT K H' a xs := by
  rcases h with (h | ⟨o, h⟩) | h
  · exact .inl (.inl (e _ _ h))
  · exact .inl (.inr ⟨o, e _ _ h⟩)
  · exact .inr h
theorem Same.prs {K : PySem.W.Frag} {H H' : Hp} {ps : List Addr} {cs : List Cmp} (e : Same H H') (h : Prs K H ps cs) : Prs K H' ps cs := h.imp fun _ _ r => Same.sqt e r
/-- a list of ours changes: the tuples stay -/
theorem sqt_upd {K : PySem.W.Frag} {H : Hp} {a l : Addr} {xs ys : List V} {o : HO} (hl : H l = some (.lst ys)) (h : SqT K H a xs) : SqT K (upd H l o) a xs := by
  rcases h with (h | ⟨u, h⟩) | h
  · refine .inl (.inl ?_)
    rw [upd_ne (ne_of h hl (by intro z; cases z))]
    exact h
  · refine .inl (.inr ⟨u, ?_⟩)
    rw [upd_ne (ne_of h hl (by intro z; cases z))]
    exact h
  · exact .inr h
theorem prs_upd {K : PySem.W.Frag} {H : Hp} {l : Addr} {ys : List V} {o : HO} {ps : List Addr} {cs : List Cmp} (hl : H l = some (.lst ys)) (h : Prs K H ps cs) : Prs K (upd H l o) ps cs := h.imp fun _ _ r => sqt_upd hl r
/-- what H knew stays where an object that H did not know changes -/
theorem same_mut {H H' : Hp} {p : Addr} {o : HO} (e : Same H H') (h : H p = none) : Same H (upd H' p o) := fun b x q => by
  rw [upd_ne (ne_of_none q h)]
  exact e b x q
theorem small_line {n : Nat} (h : n ≤ 1000000) : n ≤ sizeLine := Nat.le_trans h (by rw [sizeLine_eq]; decide)
theorem small_lt {n : Nat} (h : n < 1000000) : n < sizeLine := Nat.lt_of_lt_of_le h (by rw [sizeLine_eq]; decide)
end Sw

set_option Elab.async false
set_option linter.all false
set_option maxRecDepth 100000
set_option maxHeartbeats 4000000
namespace Sw
open PySem PySem.Spec PyProof.Rows L2
/-! ## Loops and comprehensions over any walk of n turns -/
theorem it_for {J : It} {n : Nat} {g : TG} {tb : TS} {D : Ends} {σ : L2.St} {H : Hp} (Pv : Nat → L2.St → Hp → Prop) (h0 : Pv 0 σ H)
    (go : ∀ i σ H, i < n → Pv i σ H → J.go i H) (stop : ∀ σ H, Pv n σ H → J.stop n H)
    (turn : ∀ i σ H, i < n → Pv i σ H → ∀ x H', J.yld i H x H' → g x σ H' fun σ2 H2 => tb { D with nx := Pv (i + 1), ct := Pv (i + 1), bk := D.nx } σ2 H2)
    (done : ∀ σ H, Pv n σ H → D.nx σ H) :
    ∃ W : Nat → Nat → L2.St → Hp → Prop, (∃ m, W 0 m σ H) ∧ ∀ i m σ H, W i m σ H →
      (J.stop i H ∧ D.nx σ H) ∨ (J.go i H ∧ ∃ N : L2.St → Hp → Prop, (∀ σ' H', N σ' H' → ∃ m', m' < m ∧ W (i + 1) m' σ' H') ∧ ∀ x H', J.yld i H x H' → g x σ H' fun σ2 H2 => tb { D with nx := N, ct := N, bk := D.nx } σ2 H2) := by
  refine ⟨fun i m σ H => m + i = n ∧ Pv i σ H, ⟨n, rfl, h0⟩, fun i m σ H hW => ?_⟩
  obtain ⟨e, p⟩ := hW
  by_cases h : i < n
  · refine .inr ⟨go i σ H h p, Pv (i + 1), fun σ' H' q => ⟨m - 1, by omega, by omega, q⟩, turn i σ H h p⟩
  · have e' : i = n := by omega
    subst e'
    exact .inl ⟨stop σ H p, done σ H p⟩
theorem it_lc {J : It} {n : Nat} {g : TG} {tt : TT} {te : TE} {vs : List Nat} {σ : L2.St} {H1 : Hp} {D : Addr} {Qd : Hp → Prop} (Pv : Nat → Hp → Prop) (h0 : Pv 0 (upd H1 D (.lst [])))
    (go : ∀ i H, i < n → Pv i H → J.go i H) (stop : ∀ H, Pv n H → J.stop n H)
    (turn : ∀ i H, i < n → Pv i H → ∀ x H', J.yld i H x H' → g x (wipe σ vs) H' fun σ2 H2 => wipe σ2 vs = wipe σ vs ∧ tt σ2 H2 fun b H3 =>
      if b = true then te σ2 H3 fun y H4 => ∃ acc, H4 D = some (.lst acc) ∧ acc.length < sizeLine ∧ Pv (i + 1) (upd H4 D (.lst (acc ++ [y]))) else Pv (i + 1) H3)
    (done : ∀ H, Pv n H → Qd H) :
    ∃ W : Nat → Nat → Hp → Prop, (∃ m, W 0 m (upd H1 D (.lst []))) ∧ ∀ i m H, W i m H →
      (J.stop i H ∧ Qd H) ∨ (J.go i H ∧ ∃ Nx : Hp → Prop, (∀ H', Nx H' → ∃ m', m' < m ∧ W (i + 1) m' H') ∧ ∀ x H', J.yld i H x H' → g x (wipe σ vs) H' fun σ2 H2 => wipe σ2 vs = wipe σ vs ∧ tt σ2 H2 fun b H3 =>
        if b = true then te σ2 H3 fun y H4 => ∃ acc, H4 D = some (.lst acc) ∧ acc.length < sizeLine ∧ Nx (upd H4 D (.lst (acc ++ [y]))) else Nx H3) := by
  refine ⟨fun i m H => m + i = n ∧ Pv i H, ⟨n, rfl, h0⟩, fun i m H hW => ?_⟩
  obtain ⟨e, p⟩ := hW
  by_cases h : i < n
  · refine .inr ⟨go i H h p, Pv (i + 1), fun H' q => ⟨m - 1, by omega, by omega, q⟩, turn i H h p⟩
  · have e' : i = n := by omega
    subst e'
    exact .inl ⟨stop H p, done H p⟩
section
variable {K : PySem.W.Frag} {σ : L2.St} {H : Hp} {D : Ends} {tb : TS} {a b : Addr} {xs ys : List V} {j1 j2 : Nat}
theorem get_of {α : Type} {xs : List α} {i : Nat} (h : i < xs.length) : ∃ x, xs[i]? = some x := ⟨xs[i], List.getElem?_eq_getElem h⟩
theorem g2_run {n1 n2 : Nat} {x y : V} {T : Addr} {σ : L2.St} {H : Hp} {Q : L2.St → Hp → Prop} (hT : SqT K H T [x, y]) (q : Q ((σ.set n1 (some x)).set n2 (some y)) H) :
    gTup K 2 (gCons (gName n1) (gCons (gName n2) gNil)) (.ref T) σ H Q := ⟨T, [x, y], rfl, hT, rfl, x, [y], rfl, y, [], rfl, rfl, q⟩
/-- for j1, j2 in enumerate(x), x at a -/
theorem for_enum2 {k : Nat} (hk : σ[k]? = some (some (.ref a))) (hx : SqL K H a xs) (Pv : Nat → L2.St → Hp → Prop) (h0 : Pv 0 σ H) (hl : ∀ i σ H, i ≤ xs.length → Pv i σ H → SqL K H a xs)
    (turn : ∀ i x σ H H', xs[i]? = some x → i < xs.length → Pv i σ H → Same H H' → tb { D with nx := Pv (i + 1), ct := Pv (i + 1), bk := D.nx } ((σ.set j1 (some (.int (i : Int)))).set j2 (some x)) H')
    (done : ∀ σ H, Pv xs.length σ H → D.nx σ H) : tFor (iEnum K (tCons (tVar k) tNil)) (gTup K 2 (gCons (gName j1) (gCons (gName j2) gNil))) tb D σ H := by
  refine ⟨.ref a, hk, a, xs, rfl, hx, it_for (n := xs.length) Pv h0 (fun i σ H hi p => ?_) (fun σ H p => ?_) (fun i σ H hi p v H' y => ?_) done⟩
  · obtain ⟨x, hx⟩ := get_of hi
    exact ⟨xs, x, hl i σ H (Nat.le_of_lt hi) p, hx⟩
  · exact ⟨xs, hl _ σ H (Nat.le_refl _) p, Nat.le_refl _⟩
  · obtain ⟨T, x, rfl, nT, rfl, f⟩ := y
    exact g2_run (.inl (.inl upd_same)) (turn i x σ H _ (f xs (hl i σ H (Nat.le_of_lt hi) p)) hi p (same_new nT))
/-- for j1, j2 in x, x at a a list of pairs -/
theorem for_pairs {k : Nat} {ps : List Addr} (hk : σ[k]? = some (some (.ref a))) (hx : SqL K H a (Rfs ps)) (u : Nat → V × V) (Pv : Nat → L2.St → Hp → Prop) (h0 : Pv 0 σ H)
    (hl : ∀ i σ H, i ≤ ps.length → Pv i σ H → SqL K H a (Rfs ps)) (hp : ∀ i p σ H, ps[i]? = some p → Pv i σ H → SqT K H p [(u i).1, (u i).2])
    (turn : ∀ i p σ H, ps[i]? = some p → Pv i σ H → tb { D with nx := Pv (i + 1), ct := Pv (i + 1), bk := D.nx } ((σ.set j1 (some (u i).1)).set j2 (some (u i).2)) H)
    (done : ∀ σ H, Pv ps.length σ H → D.nx σ H) : tFor (iList K (tVar k)) (gTup K 2 (gCons (gName j1) (gCons (gName j2) gNil))) tb D σ H := by
  have hn : (Rfs ps).length = ps.length := List.length_map ..
  refine ⟨.ref a, hk, a, rfl, ⟨_, hx⟩, it_for (n := ps.length) Pv h0 (fun i σ H hi p => ?_) (fun σ H p => ?_) (fun i σ H hi p v H' y => ?_) done⟩
  · obtain ⟨x, hx⟩ := get_of (xs := Rfs ps) (by rw [hn]; exact hi)
    exact ⟨_, x, hl i σ H (Nat.le_of_lt hi) p, hx⟩
  · exact ⟨_, hl _ σ H (Nat.le_refl _) p, by rw [hn]; exact Nat.le_refl _⟩
  · obtain ⟨rfl, f⟩ := y
    have e := f _ (hl i σ H' (Nat.le_of_lt hi) p)
    unfold Rfs at e
    rw [List.getElem?_map, List.getElem?_eq_getElem hi] at e
    cases e
    have g : ps[i]? = some ps[i] := List.getElem?_eq_getElem hi
    exact g2_run (hp i _ σ H' g p) (turn i _ σ H' g p)
/-- for x in y, y at a -/
theorem for_each {k : Nat} (hk : σ[k]? = some (some (.ref a))) (hx : SqL K H a xs) (Pv : Nat → L2.St → Hp → Prop) (h0 : Pv 0 σ H) (hl : ∀ i σ H, i ≤ xs.length → Pv i σ H → SqL K H a xs)
    (turn : ∀ i x σ H, xs[i]? = some x → i < xs.length → Pv i σ H → tb { D with nx := Pv (i + 1), ct := Pv (i + 1), bk := D.nx } (σ.set j1 (some x)) H)
    (done : ∀ σ H, Pv xs.length σ H → D.nx σ H) : tFor (iList K (tVar k)) (gName j1) tb D σ H := by
  refine ⟨.ref a, hk, a, rfl, ⟨_, hx⟩, it_for (n := xs.length) Pv h0 (fun i σ H hi p => ?_) (fun σ H p => ?_) (fun i σ H hi p v H' y => ?_) done⟩
  · obtain ⟨x, hx⟩ := get_of hi
    exact ⟨_, x, hl i σ H (Nat.le_of_lt hi) p, hx⟩
  · exact ⟨_, hl _ σ H (Nat.le_refl _) p, Nat.le_refl _⟩
  · obtain ⟨rfl, f⟩ := y
    exact turn i v σ H' (f _ (hl i σ H' (Nat.le_of_lt hi) p)) hi p
/-- for i in range(n) -/
theorem for_rng {ta : TA} {n : Nat} (ht : ∀ Q, Q [V.int (n : Int)] H → ta σ H Q) (hn : n ≤ 1000000) (Pv : Nat → L2.St → Hp → Prop) (h0 : Pv 0 σ H)
    (turn : ∀ (i : Nat) σ H, i < n → Pv i σ H → tb { D with nx := Pv (i + 1), ct := Pv (i + 1), bk := D.nx } (σ.set j1 (some (.int (i : Int)))) H)
    (done : ∀ σ H, Pv n σ H → D.nx σ H) : tFor (iRng1 ta) (gName j1) tb D σ H := by
  refine ht _ ⟨(n : Int), rfl, by omega, by omega, it_for (n := n) Pv h0 (fun i σ H hi p => ?_) (fun σ H p => ?_) (fun i σ H hi p v H' y => ?_) done⟩
  · exact hi
  · exact Nat.le_refl _
  · obtain ⟨rfl, rfl⟩ := y
    have e : (0 : Int) + (i : Int) = (i : Int) := Int.zero_add _
    rw [e]
    exact turn i σ H' hi p
end
/-! ## What a comprehension gives, item by item: G of the turn, the list so far, the heap -/
section
variable {K : PySem.W.Frag} {σ : L2.St} {H : Hp} {te : TE} {a b : Addr} {xs ys : List V} {j1 j2 : Nat} {Q : VK}
/-- the list so far stands at D, and G holds of it -/
def So (D : Addr) (G : Nat → List V → Hp → Prop) (i : Nat) (H' : Hp) : Prop := ∃ acc, H' D = some (.lst acc) ∧ G i acc H'
/-- the wish of a turn: v comes, on it goes -/
def GoOn (D : Addr) (G : Nat → List V → Hp → Prop) (i : Nat) : VK := fun v H' => ∃ acc, H' D = some (.lst acc) ∧ acc.length < sizeLine ∧ So D G (i + 1) (upd H' D (.lst (acc ++ [v])))
theorem GoOn.mk {D : Addr} {G : Nat → List V → Hp → Prop} {i : Nat} {v : V} {H' : Hp} {acc : List V} (h : H' D = some (.lst acc)) (hz : acc.length < 1000000) (g : G (i + 1) (acc ++ [v]) (upd H' D (.lst (acc ++ [v])))) : GoOn D G i v H' :=
  ⟨acc, h, small_lt hz, _, upd_same, g⟩
/-- of a turn that tests -/
def Turn (tt : TT) (te : TE) (D : Addr) (G : Nat → List V → Hp → Prop) (i : Nat) (σ : L2.St) (H : Hp) : Prop := tt σ H fun b H3 => if b = true then te σ H3 (GoOn D G i) else So D G (i + 1) H3
theorem Turn.yes {te : TE} {D : Addr} {G : Nat → List V → Hp → Prop} {i : Nat} (h : te σ H (GoOn D G i)) : Turn tYes te D G i σ H := by
  show (if true = true then te σ H (GoOn D G i) else So D G (i + 1) H)
  rw [if_pos rfl]
  exact h
theorem lc_enum2 {tt : TT} {k : Nat} {vs : List Nat} (hk : σ[k]? = some (some (.ref a))) (hx : SqL K H a xs) (hvs : ∀ v w, wipe (((wipe σ vs).set j1 v).set j2 w) vs = wipe σ vs)
    (G : Addr → Nat → List V → Hp → Prop) (h0 : ∀ D, H D = none → G D 0 [] (upd H D (.lst []))) (hl : ∀ D i acc H', H D = none → G D i acc H' → SqL K H' a xs)
    (turn : ∀ D i x acc H' H2, H D = none → xs[i]? = some x → i < xs.length → H' D = some (.lst acc) → G D i acc H' → Same H' H2 → Turn tt te D (G D) i (((wipe σ vs).set j1 (some (.int (i : Int)))).set j2 (some x)) H2)
    (done : ∀ D acc H', H D = none → H' D = some (.lst acc) → G D xs.length acc H' → Q (.ref D) H') :
    tLc (iEnum K (tCons (tVar k) tNil)) (gTup K 2 (gCons (gName j1) (gCons (gName j2) gNil))) tt te vs σ H Q := by
  refine ⟨.ref a, hk, a, xs, rfl, hx, fun D nD => ?_⟩
  refine it_lc (n := xs.length) (So D (G D)) ⟨[], upd_same, h0 D nD⟩ (fun i H' hi p => ?_) (fun H' p => ?_) (fun i H' hi p v H2 y => ?_) (fun H' p => ?_)
  · obtain ⟨acc, _, g⟩ := p
    obtain ⟨x, hx⟩ := get_of hi
    exact ⟨xs, x, hl D _ _ _ nD g, hx⟩
  · obtain ⟨acc, _, g⟩ := p
    exact ⟨xs, hl D _ _ _ nD g, Nat.le_refl _⟩
  · obtain ⟨acc, hD, g⟩ := p
    obtain ⟨T, x, rfl, nT, rfl, f⟩ := y
    exact g2_run (.inl (.inl upd_same)) ⟨hvs _ _, turn D i x acc H' _ nD (f xs (hl D _ _ _ nD g)) hi hD g (same_new (o := .tup [.int (i : Int), x]) nT)⟩
  · obtain ⟨acc, hD, g⟩ := p
    exact done D acc H' nD hD g
theorem lc_pairs {tt : TT} {k : Nat} {vs : List Nat} {ps : List Addr} (u : Nat → V × V) (hk : σ[k]? = some (some (.ref a))) (hx : SqL K H a (Rfs ps)) (hvs : ∀ v w, wipe (((wipe σ vs).set j1 v).set j2 w) vs = wipe σ vs)
    (G : Addr → Nat → List V → Hp → Prop) (h0 : ∀ D, H D = none → G D 0 [] (upd H D (.lst []))) (hl : ∀ D i acc H', H D = none → G D i acc H' → SqL K H' a (Rfs ps))
    (hp : ∀ D i p acc H', H D = none → ps[i]? = some p → H' D = some (.lst acc) → G D i acc H' → SqT K H' p [(u i).1, (u i).2])
    (turn : ∀ D i acc H', H D = none → i < ps.length → H' D = some (.lst acc) → G D i acc H' → Turn tt te D (G D) i (((wipe σ vs).set j1 (some (u i).1)).set j2 (some (u i).2)) H')
    (done : ∀ D acc H', H D = none → H' D = some (.lst acc) → G D ps.length acc H' → Q (.ref D) H') :
    tLc (iList K (tVar k)) (gTup K 2 (gCons (gName j1) (gCons (gName j2) gNil))) tt te vs σ H Q := by
  have hn : (Rfs ps).length = ps.length := List.length_map ..
  refine ⟨.ref a, hk, a, rfl, ⟨_, hx⟩, fun D nD => ?_⟩
  refine it_lc (n := ps.length) (So D (G D)) ⟨[], upd_same, h0 D nD⟩ (fun i H' hi p => ?_) (fun H' p => ?_) (fun i H' hi p v H2 y => ?_) (fun H' p => ?_)
  · obtain ⟨acc, _, g⟩ := p
    obtain ⟨x, hx⟩ := get_of (xs := Rfs ps) (by rw [hn]; exact hi)
    exact ⟨_, x, hl D _ _ _ nD g, hx⟩
  · obtain ⟨acc, _, g⟩ := p
    exact ⟨_, hl D _ _ _ nD g, by rw [hn]; exact Nat.le_refl _⟩
  · obtain ⟨acc, hD, g⟩ := p
    obtain ⟨rfl, f⟩ := y
    have e := f _ (hl D _ _ _ nD g)
    unfold Rfs at e
    rw [List.getElem?_map, List.getElem?_eq_getElem hi] at e
    cases e
    have gp : ps[i]? = some ps[i] := List.getElem?_eq_getElem hi
    exact g2_run (hp D i _ acc H2 nD gp hD g) ⟨hvs _ _, turn D i acc H2 nD hi hD g⟩
  · obtain ⟨acc, hD, g⟩ := p
    exact done D acc H' nD hD g
/-- [.. for j1 in x], x at a -/
theorem lc_each {tt : TT} {k : Nat} {vs : List Nat} (hk : σ[k]? = some (some (.ref a))) (hx : SqL K H a xs) (hvs : ∀ v, wipe ((wipe σ vs).set j1 v) vs = wipe σ vs)
    (G : Addr → Nat → List V → Hp → Prop) (h0 : ∀ D, H D = none → G D 0 [] (upd H D (.lst []))) (hl : ∀ D i acc H', H D = none → G D i acc H' → SqL K H' a xs)
    (turn : ∀ D i x acc H', H D = none → xs[i]? = some x → i < xs.length → H' D = some (.lst acc) → G D i acc H' → Turn tt te D (G D) i ((wipe σ vs).set j1 (some x)) H')
    (done : ∀ D acc H', H D = none → H' D = some (.lst acc) → G D xs.length acc H' → Q (.ref D) H') :
    tLc (iList K (tVar k)) (gName j1) tt te vs σ H Q := by
  refine ⟨.ref a, hk, a, rfl, ⟨_, hx⟩, fun D nD => ?_⟩
  refine it_lc (n := xs.length) (So D (G D)) ⟨[], upd_same, h0 D nD⟩ (fun i H' hi p => ?_) (fun H' p => ?_) (fun i H' hi p v H2 y => ?_) (fun H' p => ?_)
  · obtain ⟨acc, _, g⟩ := p
    obtain ⟨x, hx⟩ := get_of hi
    exact ⟨_, x, hl D _ _ _ nD g, hx⟩
  · obtain ⟨acc, _, g⟩ := p
    exact ⟨_, hl D _ _ _ nD g, Nat.le_refl _⟩
  · obtain ⟨acc, hD, g⟩ := p
    obtain ⟨rfl, f⟩ := y
    exact ⟨hvs _, turn D i v acc H2 nD (f _ (hl D _ _ _ nD g)) hi hD g⟩
  · obtain ⟨acc, hD, g⟩ := p
    exact done D acc H' nD hD g
/-- [.. for j1 in range(lo, hi, c)]: n turns -/
theorem lc_rng3 {tt : TT} {ta : TA} {vs : List Nat} {lo hi c : Int} {n : Nat} (ht : ∀ Q, Q [V.int lo, V.int hi, V.int c] H → ta σ H Q) (hn : RgC lo hi c n) (hvs : ∀ v, wipe ((wipe σ vs).set j1 v) vs = wipe σ vs)
    (G : Addr → Nat → List V → Hp → Prop) (h0 : ∀ D, H D = none → G D 0 [] (upd H D (.lst [])))
    (turn : ∀ (D : Addr) (i : Nat) (acc : List V) (H' : Hp), H D = none → i < n → H' D = some (.lst acc) → G D i acc H' → Turn tt te D (G D) i ((wipe σ vs).set j1 (some (.int (lo + (i : Int) * c)))) H')
    (done : ∀ D acc H', H D = none → H' D = some (.lst acc) → G D n acc H' → Q (.ref D) H') :
    tLc (iRng3 ta) (gName j1) tt te vs σ H Q := by
  refine ht _ ⟨lo, hi, c, n, rfl, hn, fun D nD => ?_⟩
  refine it_lc (n := n) (So D (G D)) ⟨[], upd_same, h0 D nD⟩ (fun i H' hi p => hi) (fun H' p => Nat.le_refl _) (fun i H' hi p v H2 y => ?_) (fun H' p => ?_)
  · obtain ⟨acc, hD, g⟩ := p
    obtain ⟨rfl, rfl⟩ := y
    exact ⟨hvs _, turn D i acc H2 nD hi hD g⟩
  · obtain ⟨acc, hD, g⟩ := p
    exact done D acc H' nD hD g
/-- [.. for j1 in range(n)] -/
theorem lc_rng {tt : TT} {ta : TA} {vs : List Nat} {n : Nat} (ht : ∀ Q, Q [V.int (n : Int)] H → ta σ H Q) (hn : n ≤ 1000000) (hvs : ∀ v, wipe ((wipe σ vs).set j1 v) vs = wipe σ vs)
    (G : Addr → Nat → List V → Hp → Prop) (h0 : ∀ D, H D = none → G D 0 [] (upd H D (.lst [])))
    (turn : ∀ (D : Addr) (i : Nat) (acc : List V) (H' : Hp), H D = none → i < n → H' D = some (.lst acc) → G D i acc H' → Turn tt te D (G D) i ((wipe σ vs).set j1 (some (.int (i : Int)))) H')
    (done : ∀ D acc H', H D = none → H' D = some (.lst acc) → G D n acc H' → Q (.ref D) H') :
    tLc (iRng1 ta) (gName j1) tt te vs σ H Q := by
  refine ht _ ⟨(n : Int), rfl, by omega, by omega, fun D nD => ?_⟩
  refine it_lc (n := n) (So D (G D)) ⟨[], upd_same, h0 D nD⟩ (fun i H' hi p => hi) (fun H' p => Nat.le_refl _) (fun i H' hi p v H2 y => ?_) (fun H' p => ?_)
  · obtain ⟨acc, hD, g⟩ := p
    obtain ⟨rfl, rfl⟩ := y
    have e : (0 : Int) + (i : Int) = (i : Int) := Int.zero_add _
    rw [e]
    exact ⟨hvs _, turn D i acc H2 nD hi hD g⟩
  · obtain ⟨acc, hD, g⟩ := p
    exact done D acc H' nD hD g
end
/-- how many turns range(lo, hi, c) has, c above 0 -/
def upN (lo hi c : Int) : Nat := if lo < hi then ((hi - lo - 1) / c).toNat + 1 else 0
theorem upN_rgc {lo hi c : Int} (hc : 1 ≤ c ∧ c ≤ 1000000) (hl : -1000000 ≤ lo ∧ lo ≤ 1000000) (hh : -1000000 ≤ hi ∧ hi ≤ 1000000) : RgC lo hi c (upN lo hi c) := by
  have size : Builtin.Range.rangeSize lo hi c = ((upN lo hi c : Nat) : Int) := by
    unfold Builtin.Range.rangeSize upN
    rw [if_pos (by omega)]
    split
    · have := Int.ediv_nonneg (a := hi - lo - 1) (b := c) (by omega) (by omega)
      omega
    · rfl
  have le : ((upN lo hi c : Nat) : Int) ≤ 2000001 := by
    unfold upN
    split
    · have h1 := Int.ediv_nonneg (a := hi - lo - 1) (b := c) (by omega) (by omega)
      have h2 := Int.ediv_le_self (a := hi - lo - 1) (b := c) (by omega)
      omega
    · decide
  refine ⟨by omega, by omega, ?_, size⟩
  unfold Builtin.Range.small
  rw [size]
  simp only [Builtin.Range.rangeFitsLong, Bool.and_eq_true, Bool.or_eq_true, decide_eq_true_eq, beq_iff_eq, show c > 0 by omega, if_true]
  omega
theorem upN_lt {lo hi c : Int} (hc : 1 ≤ c) {i : Nat} (h : i < upN lo hi c) : lo + (i : Int) * c < hi := by
  unfold upN at h
  split at h
  · have h1 := Int.ediv_nonneg (a := hi - lo - 1) (b := c) (by omega) (by omega)
    have h2 := Int.ediv_mul_le (hi - lo - 1) (b := c) (by omega)
    have h3 : (i : Int) ≤ (hi - lo - 1) / c := by omega
    have h4 : (i : Int) * c ≤ (hi - lo - 1) / c * c := Int.mul_le_mul_of_nonneg_right h3 (by omega)
    omega
  · omega
theorem upN_le {lo hi c : Int} (hc : 1 ≤ c) : upN lo hi c ≤ (hi - lo).toNat := by
  unfold upN
  split
  · have h1 := Int.ediv_nonneg (a := hi - lo - 1) (b := c) (by omega) (by omega)
    have h2 := Int.ediv_le_self (a := hi - lo - 1) (b := c) (by omega)
    omega
  · omega
theorem scal_ii (i j : Int) : scal (.int i) (.int j) = true := rfl
theorem scal_ss (i j : Str) : scal (.str i) (.str j) = true := rfl
theorem scal_nn : scal .non .non = true := rfl
theorem scal_bb (i j : Bool) : scal (.bl i) (.bl j) = true := rfl
theorem scal_ni (j : Int) : scal .non (.int j) = true := rfl
theorem scal_in (j : Int) : scal (.int j) .non = true := rfl
theorem cutV_to (xs : List V) (k : Nat) : cutV xs none (some (k : Int)) = xs.take k := by
  unfold cutV
  rw [HT.sIx_none, HT.sIx_nat]
  show (xs.drop 0).take (min k xs.length - 0) = _
  rw [List.drop_zero, Nat.sub_zero]
  by_cases h : k ≤ xs.length
  · rw [Nat.min_eq_left h]
  · rw [Nat.min_eq_right (by omega), List.take_of_length_le (Nat.le_refl _), List.take_of_length_le (by omega)]
theorem cutV_from (xs : List V) (k : Nat) : cutV xs (some (k : Int)) none = xs.drop k := by
  unfold cutV
  rw [HT.sIx_none, HT.sIx_nat]
  by_cases h : k ≤ xs.length
  · rw [Nat.min_eq_left h, List.take_of_length_le (by rw [List.length_drop]; exact Nat.le_refl _)]
  · rw [Nat.min_eq_right (by omega), List.drop_eq_nil_of_le (Nat.le_refl _), List.drop_eq_nil_of_le (by omega), List.take_nil]
theorem cut_ints_to (ns : List Int) (k : Nat) : cutV (ns.map V.int) none (some (k : Int)) = (ns.take k).map V.int := by rw [cutV_to, List.map_take]
theorem ints_get {l : List Int} {i : Nat} {x : V} (h : (l.map V.int)[i]? = some x) : ∃ z, x = .int z ∧ l[i]? = some z := by
  rw [List.getElem?_map] at h
  cases e : l[i]? with
  | none => rw [e] at h; cases h
  | some z => rw [e] at h; exact ⟨z, (Option.some.inj h).symm, rfl⟩
theorem rfs_get {l : List Addr} {i : Nat} {x : V} (h : (Rfs l)[i]? = some x) : ∃ z, x = .ref z ∧ l[i]? = some z := by
  unfold Rfs at h
  rw [List.getElem?_map] at h
  cases e : l[i]? with
  | none => rw [e] at h; cases h
  | some z => rw [e] at h; exact ⟨z, (Option.some.inj h).symm, rfl⟩
theorem rfs_len (l : List Addr) : (Rfs l).length = l.length := List.length_map ..
theorem rfs_at {l : List Addr} {i : Nat} {p : Addr} (h : l[i]? = some p) : (Rfs l)[i]? = some (.ref p) := by
  unfold Rfs
  rw [List.getElem?_map, h] <;> rfl
theorem seqIndex_nat {k n : Nat} (h : k < n) : seqIndex? (k : Int) n = some k := by
  have e := atI_nat (α := Nat) (xs := List.range n) (j := k) (v := k) (by rw [List.getElem?_range h])
  obtain ⟨j, h1, h2, h3, _⟩ := atI_get e
  rw [List.length_range] at h1
  rw [List.getElem?_eq_getElem h3] at h2
  rw [h1]
  have := Option.some.inj h2
  rw [List.getElem_range] at this
  rw [this]
theorem mem_set {α : Type} {l : List α} {n : Nat} {a b : α} (h : b ∈ l.set n a) : b ∈ l ∨ b = a := List.mem_or_eq_of_mem_set h
theorem rfs_erase : ∀ (l : List Addr) (n : Nat), (Rfs l).eraseIdx n = Rfs (l.eraseIdx n)
  | [], _ => rfl
  | _ :: _, 0 => rfl
  | a :: l, n + 1 => by
    show V.ref a :: (Rfs l).eraseIdx n = V.ref a :: Rfs (l.eraseIdx n)
    rw [rfs_erase l n]
end Sw

set_option Elab.async false
set_option linter.all false
set_option maxRecDepth 100000
set_option maxHeartbeats 4000000
namespace Sw
open PySem PySem.Spec PyProof.Rows L2
/-! ## Defs that may raise -/
section
variable {P : Program} {w : World} {K : PySem.W.Frag} {mg : Str → Option Value} {base : Heap} {x : Str} {st : Stmt} {N ps : List Str} {k : Nat} {sp : Sp}
theorem Here.calX {r : XK → TS} (F : Here K mg x st) (S : FnScope N ps (defScope st)) (len : ∀ vs H Q E, sp vs H Q E → vs.length = ps.length)
    (bd : ∀ (kV doc pm : Value) (an : Option Addr) (cdv ct : Value) (us : List Value), us.length = ps.length →
      bindArgs (PySem.W.fnOf x x (defArgs st) (defBody st) (defScope st) .none kV doc pm an cdv ct) ⟨us, []⟩ = pure (ps.zip us))
    (dv : ∀ (f : Addr) (cdv : Value) (A : Around) (outer : List Env) (s : Shared) (H : Hp) (E : XK), RmIn k A x st s f cdv → PSs (BX (L2.CX P w) P w K mg base N x st f cdv A outer s H E) (defBody st) (r E))
    (rd : ∀ (vs : List V) (H : Hp) (Q : VK) (E : XK), sp vs H Q E → r E { nx := fun _ H' => Q .non H', rt := Q } (L2.start N vs) H) :
    Cal P w K mg base (L2.CX P w) (k + 1) x ps sp := by
  obtain ⟨f, fd, D, g⟩ := F.ex
  refine ⟨f, fd, ?_, g, D.kp, D.bindsN bd, fun s us hl => D.bindsA bd s us hl, ?_⟩
  · exact D.ok S len fun cdv A outer s H vs Q E hr h => ⟨r E, dv f cdv A outer s H E hr, rd vs H Q E h⟩
  · obtain ⟨oc, od, _, _, _, _, _, _, _, osl, _, lk, _⟩ := D.ex
    exact ⟨oc, od, osl, lk⟩
/-- the same, where nothing is raised -/
def quiet (sp : Sp) : Sp := fun vs H Q _ => sp vs H Q E0
theorem Cal.quiet (c : Cal P w K mg base (L2.CX P w) k x ps sp) : Cal P w K mg base CX0 k x ps (quiet sp) := by
  obtain ⟨f, fd, F, g, kp, b, ba, lk⟩ := c.ex
  refine ⟨f, fd, ⟨fun vs H Q E h => F.len vs H Q E0 h, fun A outer s H args us vs Q E hr he hb rv h => ?_⟩, g, kp, b, ba, lk⟩
  refine codeAny_mono (F.run A outer s H args us vs Q E0 hr he hb rv h) fun r s' q => ?_
  cases r with
  | ok fl => cases fl <;> exact q
  | error e =>
    obtain ⟨_, _, _, _, _, _, _, _, _, _, _, _, z⟩ := q
    exact z.elim
end
/-- f(e, ..) that may raise, the wish about that W -/
def tCalW (sp : Sp) (W : WX) (t : TA) : TE := fun σ H Q => t σ H fun vs H1 => sp vs H1 Q fun cls d H' => W cls d σ H'
section
variable {X : Cx} {k : Nat} {x : Str} {ps : List Str} {sp : Sp} {t : TA} {e : Expr} {es : List Expr} {p pos : Pos} {W : WX}
theorem pe_calW (c : Cal X.prog X.w X.K X.mg X.base (L2.CX X.prog X.w) k x ps sp) (hr : Room k X.A) (tk : Takes X W) (hg : Gl X x) (ha : PA X (e :: es) t)
    (hdb : (x == ("__debug__" : Str)) = false := by decide) (he : starEach (e :: es) X.env = (false, eval e X.env) :: starEach es X.env := by rfl)
    (hpl : (backTo pos (starEach es X.env)).any (·.1) = false := by rfl) : PE X (.Call (.Name x p) (e :: es) [] pos) (tCalW sp W t) := by
  obtain ⟨f, fd, F, gm, kp, b, _⟩ := c.ex
  exact pe_callS F hr hg gm kp b (fun σ => passAt tk σ) ha hdb he hpl
/-! ## Raising -/
/-- the class x of the text, without an __init__ of its own, over ValueError -/
structure ExK (K : PySem.W.Frag) (mg : Str → Option Value) (x : Str) : Prop where
  g : mg x = some (.ref (He.ga K x))
  m : PySem.W.excIn K (He.ga K x) He.veBase "ValueError.__new__" = true ∧ PySem.W.keepIn K (.ref (He.ga K x)) = true ∧ PySem.W.subIn K (.ref (He.ga K x)) (.type "BaseException") = some true ∧ PySem.W.typeIn K (.ref (He.ga K x)) = some (.type "type")
/-- raise x(e, ..) -/
def tRzA (C : Addr) (W : WX) (t : TA) : TS := fun _ σ H => t σ H fun vs H1 => vs.length ≤ sizeLine ∧ W (.ref C) none σ H1
theorem ps_rzA {pos2 : Pos} (hc : X.calm = true) (tk : Takes X W) (m : ExK X.K X.mg x) (hg : Gl X x) (ha : PA X (e :: es) t)
    (hdb : (x == ("__debug__" : Str)) = false := by decide)
    (he : starEach (e :: es) X.env = (false, eval e X.env) :: starEach es X.env := by rfl) (hpl : (backTo pos (starEach es X.env)).any (·.1) = false := by rfl) :
    PS X (.Raise (some (.Call (.Name x p) (e :: es) [] pos)) none pos2) (tRzA (He.ga X.K x) W t) :=
  ps_raise hc tk (pmk_ownA PySem.F.excBase_ValueError m.m.1 m.g m.m.2.1 (raises_own m.m.2.2.1 m.m.2.2.2) hg ha hdb he hpl)
/-! ## {x} of a whole number or None -/
def tFmtN (te : TE) : TE := fun σ H Q => te σ H fun x H1 => (x = .non ∧ Q (.str "None") H1) ∨ ∃ i : Int, x = .int i ∧ i.natAbs.log2 < 1920 ∧ Q (.str (toString i)) H1
theorem pe_fmtN {te : TE} (he : PE X e te) : PE X (.FormattedValue e (-1) none pos) (tFmtN te) := by
  refine ⟨fun pins s σ H Q I h => ?_⟩
  refine wpAny_FormattedValue_plain (thn (he.run pins s σ H _ I h) fun v s1 hv => ?_)
  obtain ⟨y, H1, I1, r1, q⟩ := hv
  rcases q with ⟨rfl, q⟩ | ⟨i, rfl, hz, q⟩
  · cases r1
    exact wpAny_formatField_none ⟨.str "None", H1, (I1.tok _).tok _, ⟨_, rfl⟩, q⟩
  · obtain ⟨tk, rfl⟩ := r1
    exact wpAny_formatField_int hz ⟨.str (toString i), H1, I1.tok _, ⟨_, rfl⟩, q⟩
/-! ## W.__init__(self, ..), W an own class that has ValueError's -/
structure InK (K : PySem.W.Frag) (mg : Str → Option Value) (x : Str) : Prop where
  g : mg x = some (.ref (He.ga K x))
  sp : PySem.W.specialIn K (.ref (He.ga K x)) "__getattribute__" = some (some (.builtin "type.__getattribute__"))
  rd : PySem.W.readsIn K (He.ga K x) (.type "type") = true
  ty : PySem.W.typeIn K (.ref (He.ga K x)) = some (.type "type")
  fc : PySem.W.findCls K (.ref (He.ga K x)) (.type "type") "__init__" = some (.val (.builtin "ValueError.__init__"))
theorem pe_winit {pl : Sem Bool} {p1 p2 : Pos} (m : InK X.K X.mg x) (hg : Gl X x) (ha : PA X (e :: es) t)
    (hc : eval (.Call (.Attribute (.Name x p1) "__init__" p2) (e :: es) [] pos) X.env = (do
      let ov ← eval (.Name x p1) X.env
      standAt p2.atName
      let (f, first) ← holding [ov] (getMethod ov "__init__" pl)
      callWith pos f first (backTo pos (starEach (e :: es) X.env)) (backToKw pos (keywordEach [] X.env))) := by rfl)
    (hdb : (x == ("__debug__" : Str)) = false := by decide)
    (he : starEach (e :: es) X.env = (false, eval e X.env) :: starEach es X.env := by rfl) (hpl : (backTo pos (starEach es X.env)).any (·.1) = false := by rfl) :
    PE X (.Call (.Attribute (.Name x p1) "__init__" p2) (e :: es) [] pos) (tVeI X.K t) := by
  refine ⟨fun pins s σ H Q I h => ?_⟩
  refine PySem.W.methodCall_KW (ld_glob I hg m.g ?_ hdb) hc
  obtain ⟨mm, fr⟩ := I.fr
  refine PySem.W.method_of_cls fr I.ok.mod.kin m.sp ?_
  refine PySem.W.cls_val fr I.ok.mod.kin m.ty m.rd m.fc (by decide +kernel) ?_
  show wpAny _ _ (callWith pos (Value.builtin "ValueError.__init__") [] (backTo pos (starEach (e :: es) X.env)) []) _ _ _
  refine callWith_method1 (thn (ha.run pos pins _ σ H _ (I.tok _) h) fun us s1 hv => ?_) he hpl
  obtain ⟨vs, H1, I1, r1, a, C, ws, rfl, hl, T, ea, q⟩ := hv
  cases r1 with
  | @cons _ u0 _ ur ra rw' =>
    obtain rfl : u0 = Value.ref a := ra
    have small : ur.length ≤ sizeLine := by
      rw [← Paired.length rw']
      exact small_line (by omega)
    exact oinit_ok T I1 ea small fun s' J => ⟨.non, H1, J, rfl, q⟩
end
end Sw

set_option Elab.async false
set_option linter.all false
set_option maxRecDepth 100000
set_option maxHeartbeats 4000000
namespace Sw
open PySem PySem.Spec PyProof.Rows L2
/-! ## What the head is asked of the classes of errors -/
def oexB (K : PySem.W.Frag) (C : Addr) : Bool :=
  (match K.lookup C with
  | some ⟨.type "type", _, .cls cd, sl⟩ => (match cd.mro, sl.toList with
    | .ref C' :: bm, [_, _, _, _, some (.builtin n), _] => decide (C' = C) && (decide (n = "ValueError.__new__") && (!cd.hasDel && (cd.hasDict && PySem.HandSPX.refsVE bm)))
    | _, _ => false)
  | _ => false) && (He.eqO (PySem.W.findIn K (.ref C) "__setattr__") (some (some (.builtin "object.__setattr__"))) && (decide (PySem.W.subIn K (.ref C) (.type "BaseException") = some true) &&
    (decide (PySem.W.typeIn K (.ref C) = some (.type "type")) && PySem.W.keepIn K (.ref C))))
theorem oexB_ok {K : PySem.W.Frag} {C : Addr} (h : oexB K C = true) : OexC K C := by
  unfold oexB at h
  obtain ⟨h1, h⟩ := He.ba h
  obtain ⟨h2, h⟩ := He.ba h
  obtain ⟨h3, h⟩ := He.ba h
  obtain ⟨h4, h5⟩ := He.ba h
  refine ⟨?_, He.eqO_ok h2, of_decide_eq_true h3, of_decide_eq_true h4, h5⟩
  split at h1
  · rename_i dd cd sl ho
    split at h1
    · rename_i C' bm k0 k1 k2 k3 n k5 hm hs
      obtain ⟨q1, h1⟩ := He.ba h1
      obtain ⟨q2, h1⟩ := He.ba h1
      obtain ⟨q3, h1⟩ := He.ba h1
      obtain ⟨q4, q5⟩ := He.ba h1
      have q1 := of_decide_eq_true q1
      have q2 := of_decide_eq_true q2
      try subst q1
      try subst q2
      obtain ⟨nm, bs, mro, ns, qn, hd, sn, sub, ab, col, del⟩ := cd
      dsimp only at hm q3 q4
      have q3 : del = false := by simpa using q3
      subst hm q3 q4
      have hsl : sl = #[k0, k1, k2, k3, some (.builtin "ValueError.__new__"), k5] := by
        obtain ⟨l⟩ := sl
        simp only at hs
        rw [hs]
      subst hsl
      exact ⟨nm, qn, ns, bs, bm, sn, sub, ab, col, dd, k0, k1, k2, k3, k5, ho, q5⟩
    · cases h1
  · cases h1
def winB (K : PySem.W.Frag) (x : Str) : Bool := He.eqO (PySem.W.nsIn K mainGlobals x) (some (some (.ref (He.ga K x)))) && (He.eqO (PySem.W.specialIn K (.ref (He.ga K x)) "__getattribute__") (some (some (.builtin "type.__getattribute__"))) &&
  (PySem.W.readsIn K (He.ga K x) (.type "type") && (decide (PySem.W.typeIn K (.ref (He.ga K x)) = some (.type "type")) && (match PySem.W.findCls K (.ref (He.ga K x)) (.type "type") "__init__" with
    | some (.val v) => decide (v = .builtin "ValueError.__init__")
    | _ => false))))
theorem winB_ok {K : PySem.W.Frag} {h : Heap} {mg : Str → Option Value} {x : Str} (X : K.In h) (G : h.Ns mainGlobals mg) (e : winB K x = true) : InK K mg x := by
  unfold winB at e
  obtain ⟨h1, e⟩ := He.ba e
  obtain ⟨h2, e⟩ := He.ba e
  obtain ⟨h3, e⟩ := He.ba e
  obtain ⟨h4, h5⟩ := He.ba e
  refine ⟨PySem.W.mg_of X G (He.eqO_ok h1), He.eqO_ok h2, h3, of_decide_eq_true h4, ?_⟩
  split at h5
  · rename_i v hv
    have := of_decide_eq_true h5
    subst this
    exact hv
  · cases h5
/-- an error class with an __init__ of its own (x.__init__ keeps one field f) -/
structure OwK (K : PySem.W.Frag) (mg : Str → Option Value) (x f : Str) : Prop where
  g : mg x = some (.ref (He.ga K x))
  o : OexC K (He.ga K x)
  i : PySem.W.findIn K (.ref (He.ga K x)) "__init__" = some (some (.ref (He.ma K (He.ga K x) "__init__")))
  t : PySem.W.typeIn K (.ref (He.ma K (He.ga K x) "__init__")) = some (.type "function")
  n : PySem.W.findIn K (.ref (He.ga K x)) f = some none
def owB (K : PySem.W.Frag) (x f : Str) : Bool := He.eqO (PySem.W.nsIn K mainGlobals x) (some (some (.ref (He.ga K x)))) && (oexB K (He.ga K x) && (He.eqO (PySem.W.findIn K (.ref (He.ga K x)) "__init__") (some (some (.ref (He.ma K (He.ga K x) "__init__")))) &&
  (decide (PySem.W.typeIn K (.ref (He.ma K (He.ga K x) "__init__")) = some (.type "function")) && He.eqO (PySem.W.findIn K (.ref (He.ga K x)) f) (some none))))
theorem owB_ok {K : PySem.W.Frag} {h : Heap} {mg : Str → Option Value} {x f : Str} (X : K.In h) (G : h.Ns mainGlobals mg) (e : owB K x f = true) : OwK K mg x f := by
  unfold owB at e
  obtain ⟨h1, e⟩ := He.ba e
  obtain ⟨h2, e⟩ := He.ba e
  obtain ⟨h3, e⟩ := He.ba e
  obtain ⟨h4, h5⟩ := He.ba e
  exact ⟨PySem.W.mg_of X G (He.eqO_ok h1), oexB_ok h2, He.eqO_ok h3, of_decide_eq_true h4, He.eqO_ok h5⟩
section
variable {fa : List He.Fa} {fn : List He.DefD} {ex : PySem.W.Frag → Bool} {h : Heap} {K : PySem.W.Frag} {mg : Str → Option Value}
theorem exk_of (c : SaysZ fa fn ex K) (X : K.In h) (G : h.Ns mainGlobals mg) {x : Str} (i j : Nat) (hi : fa[i]? = some (.glo x)) (hj : fa[j]? = some (.exc x)) : ExK K mg x :=
  ⟨He.glo_ok X G (c.d.fact i hi), He.exc_ok (c.d.fact j hj)⟩
theorem exm_of' (c : SaysZ fa fn ex K) {x y : Str} {b : Bool} (j : Nat) (hj : fa[j]? = some (.exm x y b)) : PySem.W.exmOne K (.ref (He.ga K x)) (.ref (He.ga K y)) = some b := He.exm_ok (c.d.fact j hj)
end
/-! ## raise x(e), x with such an __init__: the error's own dict is new and holds the field -/
def spInit (K : PySem.W.Frag) (C : Addr) (f : Str) : Sp := fun vs H Q _ => ∃ (a : Addr) (v : V), vs = [.ref a, v] ∧ H a = some (exo a C none) ∧ (v = .non ∨ ∃ i : Int, v = .int i ∧ 0 ≤ i ∧ i ≤ 1000) ∧
  ∀ dx, H dx = none → dx ≠ a → Q .non (upd (upd H dx (exd dx [(f, v)])) a (exo a C (some dx)))
/-- the error x of that field -/
def EOwn (K : PySem.W.Frag) (x f : Str) (v : V) (σ : L2.St) (H : Hp) (W : WX) : Prop := ∀ d, H d = none → W (.ref (He.ga K x)) (some d) σ (upd H d (.xd [(f, v)]))
/-- what is wished of the field's value ahead of the raise -/
def OwnWish (K : PySem.W.Frag) (x f : Str) (W : WX) (σ : L2.St) : VK := fun v H1 => [v].length ≤ 1000 ∧ ∀ a, H1 a = none → spInit K (He.ga K x) f (.ref a :: ([v] ++ [])) (upd H1 a (exo a (He.ga K x) none))
  (fun u H2 => u = .non ∧ ∃ (d : Addr) (fs : List (Str × V)), H2 a = some (exo a (He.ga K x) (some d)) ∧ H2 d = some (exd d fs) ∧ H1 d = none ∧ W (.ref (He.ga K x)) (some d) σ (upd (L2.del H2 a) d (.xd fs))) (fun _ _ _ => False)
theorem del_upd {H1 : Hp} {a dx : Addr} {o u w : HO} (ha : H1 a = none) (ne : dx ≠ a) : upd (L2.del (upd (upd (upd H1 a o) dx u) a w) a) dx u = upd H1 dx u := by
  funext b
  by_cases hb : b = dx
  · subst hb
    rw [upd_same, upd_same]
  · rw [upd_ne hb, upd_ne hb]
    by_cases h2 : b = a
    · subst h2
      rw [del_same, ha]
    · rw [del_ne h2, upd_ne h2, upd_ne hb, upd_ne h2]
theorem OwnWish.mk {K : PySem.W.Frag} {x f : Str} {W : WX} {σ : L2.St} {v : V} {H1 : Hp} (hv : v = .non ∨ ∃ i : Int, v = .int i ∧ 0 ≤ i ∧ i ≤ 1000) (h : EOwn K x f v σ H1 W) : OwnWish K x f W σ v H1 := by
  refine ⟨by show 1 ≤ 1000; decide, fun a na => ⟨a, v, rfl, upd_same, hv, fun dx ndx ne => ⟨rfl, dx, [(f, v)], upd_same, ?_, ?_, ?_⟩⟩⟩
  · rw [upd_ne ne, upd_same]
  · rw [upd_ne ne] at ndx
    exact ndx
  · have nd : H1 dx = none := by
      rw [upd_ne ne] at ndx
      exact ndx
    have e : upd (L2.del (upd (upd (upd H1 a (exo a (He.ga K x) none)) dx (exd dx [(f, v)])) a (exo a (He.ga K x) (some dx))) a) dx (.xd [(f, v)]) = upd H1 dx (.xd [(f, v)]) := by
      funext b
      by_cases hb : b = dx
      · subst hb
        rw [upd_same, upd_same]
      · rw [upd_ne hb, upd_ne hb]
        by_cases h2 : b = a
        · subst h2
          rw [del_same, na]
        · rw [del_ne h2, upd_ne h2, upd_ne hb, upd_ne h2]
    rw [e]
    exact h dx nd
def tRzO (K : PySem.W.Frag) (x f : Str) (W : WX) (te : TE) : TS := fun _ σ H => te σ H (OwnWish K x f W σ)
section
variable {X : Cx} {k : Nat} {x f : Str} {te : TE} {e : Expr} {p pos : Pos} {W : WX} {fdI : FuncData} {qs : List Str}
theorem ps_rzO {pos2 : Pos} (hc : X.calm = true) (tk : Takes X W) (m : OwK X.K X.mg x f) (F : FnOk X.prog X.w X.K X.mg X.base CX0 k (He.ma X.K (He.ga X.K x) "__init__") fdI qs (spInit X.K (He.ga X.K x) f)) (hb : Binds X.K fdI qs [])
    (hr : Room (k + 1) X.A) (hg : Gl X x) (ha : PA X [e] (tCons te tNil)) (hdb : (x == ("__debug__" : Str)) = false := by decide)
    (hs : starEach [e] X.env = (false, eval e X.env) :: starEach [] X.env := by rfl) (hpl : (backTo pos (starEach [] X.env)).any (·.1) = false := by rfl) :
    PS X (.Raise (some (.Call (.Name x p) [e] [] pos)) none pos2) (tRzO X.K x f W te) :=
  ps_raise (pos := pos2) hc tk (pmk_oex (X := X) (dvs := []) (ds := []) m.o m.i m.t F hr hb .nil pass0 hg m.g ha hdb hs hpl)
end
end Sw

set_option Elab.async false
set_option linter.all false
set_option maxRecDepth 100000
set_option maxHeartbeats 4000000
namespace Sw
open PySem PySem.Spec PyProof.Rows L2
/-! ## A caught error: come down to the ground -/
theorem fly_keep {g B g' : Heap} {l : List Env} {a : Addr} {Z : Obj → Prop} (f : HandSPX.FlyingZ B l a Z g) (k : ∀ b o, g.get? b = some o → g'.get? b = some o) : HandSPX.FlyingZ B l a Z g' := by
  obtain ⟨q1, q2, q3, ob, ws, T, oT, tr, y1, y2, y3, y4, y5, y6, y7, y8, y9⟩ := f
  exact ⟨fun b o e => k b o (q1 b o e), q2, q3.of_keeps fun b o e _ => ⟨o, k b o e, rfl⟩, ob, ws, T, oT, tr, k _ _ y1, y2, y3, y4, y5, y6, k _ _ y7, y8, y9⟩
/-- what holds of the error at a, once it is noted -/
structure Down (X : Cx) (pins : List (Addr × Obj)) (σ : L2.St) (H : Hp) (a : Addr) (Z : Obj → Prop) (s : Shared) : Prop where
  at_ : ∃ ob ws, s.heap.get? a = some ob ∧ Z ob ∧ ob.data = .fields ws
  inv : Inv X pins σ H s
  nl : a ≠ X.env.locals
  nf : a ∉ X.fs
  n0 : X.s_0.heap.get? a = none
  np : ∀ p ∈ X.pn ++ pins, p.1 ≠ a
section
variable {X : Cx} {pins : List (Addr × Obj)} {σ : L2.St} {H : Hp} {a : Addr} {Z : Obj → Prop}
theorem down_of {B g : Heap} {r t : Shared} (hx : X.ex = []) (hf : X.env.frame = some X.env.locals) (hs : X.stack = X.env :: X.outer) (I : Inv X pins σ H r) (nb : ∀ b o, r.heap.get? b = some o → b ∉ frs X.stack → B.get? b = some o)
    (up : r.heap.UpToSlots g) (eo : t.os = r.os) (eg : AllBare t.gens) (fl : HandSPX.FlyingZ B (X.env :: X.outer) a Z g) : Down X pins σ H a Z { t with heap := g } := by
  obtain ⟨ob, ws, e1, e2, e3⟩ := fl.there
  have out : a ∉ frs (X.env :: X.outer) := fun hm => by
    obtain ⟨_, o, e, nd⟩ := (show g.FunFrames B (X.env :: X.outer) from fl.2.2.1).mem hm
    rw [e1] at e
    cases e
    exact nd _ e3
  have gone : ∀ o, r.heap.get? a = some o → False := fun o e => by
    have z := nb a o e (by rw [hs]; exact out)
    rw [fl.2.1] at z
    cases z
  refine ⟨⟨ob, ws, e1, e2, e3⟩, I.landed (s' := { t with heap := g }) nb fl.1 up eo eg, fun z => out ?_, fun z => out ?_, ?_, fun p hp z => ?_⟩
  · exact List.mem_filterMap.mpr ⟨X.env, List.mem_cons_self, by rw [hf, z]⟩
  · obtain ⟨e, he, q⟩ := List.mem_filterMap.mp z
    exact List.mem_filterMap.mpr ⟨e, List.mem_cons_of_mem _ he, q⟩
  · cases e : X.s_0.heap.get? a with
    | none => rfl
    | some o =>
      obtain ⟨o', q⟩ := I.base.there a o e (by rw [hx]; exact fun z => nomatch z)
      exact (gone o' q).elim
  · exact gone p.2 (by rw [← z]; exact (I.pin p hp).1)
/-- an error that stands at a: its class, its dict -/
def ErO (cls : Value) (d : Option Addr) (a : Addr) : HO := .ext fun g => ∃ (ob : Obj) (ws : Array Value), g.get? a = some ob ∧ Zc cls d ob ∧ ob.data = .fields ws
theorem track {s : Shared} {cls : Value} {d : Option Addr} {ob : Obj} {ws : Array Value} (I : Inv X pins σ H s) (e : s.heap.get? a = some ob) (z : Zc cls d ob) (ed : ob.data = .fields ws) (na : H a = none) (nl : a ≠ X.env.locals) (n0 : X.s_0.heap.get? a = none)
    (np : ∀ p ∈ X.pn ++ pins, p.1 ≠ a) : Inv X pins σ (upd H a (ErO cls d a)) s := by
  have ne0 : ∀ b o, X.s_0.heap.get? b = some o → b ≠ a := fun b o q y => by
    rw [y, n0] at q
    cases q
  have neH : ∀ b u, H b = some u → b ≠ a := fun b u q => ne_of_none q na
  refine ⟨I.ok, I.os, I.bare, ⟨I.base.keep, I.base.slot, fun b o q n x => ?_, I.base.there, fun b xs q => ?_, fun b o u q => ?_, fun b ps q => ?_⟩, I.loc, I.cell, ?_, fun x c q => ?_, fun p hp => ?_, ?_, I.len⟩
  · rw [upd_ne (ne0 b o q)]
    exact I.base.free b o q n x
  · have y := I.base.tups b xs q
    rw [upd_ne (neH b _ y)]
    exact y
  · have y := I.base.frzs b o u q
    rw [upd_ne (neH b _ y)]
    exact y
  · obtain ⟨m, y⟩ := I.base.tbls b ps q
    exact ⟨m, by rw [upd_ne (neH b _ y)]; exact y⟩
  · rw [upd_ne nl.symm]
    exact I.free
  · obtain ⟨v, o, ho, hd⟩ := I.cell x c q
    have : c ≠ a := fun y => by
      rw [y, e] at ho
      cases ho
      rw [ed] at hd
      cases hd
    rw [upd_ne this]
    exact I.freeC x c q
  · obtain ⟨y1, y2, y3⟩ := I.pin p hp
    exact ⟨y1, by rw [upd_ne (np p hp)]; exact y2, y3⟩
  · exact I.hok.laidN (fun _ _ q => q) na ⟨⟨ob, ws, e, z, ed⟩, ⟨ob, e⟩, fun _ _ ⟨o, v, q, r⟩ k => ⟨o, v, k o q, r⟩⟩
end
/-! ## try: .. except x as n: .., the error kept behind it -/
/-- what such a try wishes of an error of its body: x names it, the suite goes on, then it stands -/
def wKeep (K : PySem.W.Frag) (c : Value) (i : Nat) (ts : Addr → Value → Option Addr → TS) (D : Ends) : WX := fun cls d σ H => PySem.W.exmOne K cls c = some true ∧ ∀ a, H a = none →
  ts a cls d { nx := fun σ' H' => D.nx (σ'.set i none) (upd H' a (ErO cls d a)), rt := fun v H' => D.rt v (upd H' a (ErO cls d a)), bk := fun σ' H' => D.bk (σ'.set i none) (upd H' a (ErO cls d a)), ct := fun σ' H' => D.ct (σ'.set i none) (upd H' a (ErO cls d a)) } (σ.set i (some (.ref a))) H
section
variable {X : Cx} {x n : Str} {c : Value} {i : Nat} {body suite : List Stmt} {b₀ : Stmt} {np pos pos' : Pos} {tb : WX → TS} {ts : Addr → Value → Option Addr → TS}
theorem ps_try_keep (hs : X.stack = X.env :: X.outer) (hf : X.env.frame = some X.env.locals) (hx : X.ex = []) (hN : X.N.Nodup) (hi : X.N[i]? = some n) (hln : X.env.kindOf n = some .local) (hc : Names X x c)
    (hb : ∀ (W : WX) (pn : List (Addr × Obj)) (xe : Value → Shared → Prop), L2.Takes (X.tr pn xe) W → PassesOwn (model X.prog X.w) X.A X.env xe → PSs (X.tr pn xe) body (tb W))
    (hsu : ∀ (a : Addr) (oe : Obj) (cls : Value) (d : Option Addr) (pn : List (Addr × Obj)), Zc cls d oe → (∃ vs, oe.data = .fields vs) → PSs (X.suite a ((a, oe) :: pn)) (b₀ :: suite) (ts a cls d)) :
    PS X (.Try body [.ExceptHandler (some (.Name x np)) (some n) (b₀ :: suite) pos'] [] [] pos) (fun D σ H => tb (wKeep X.K c i ts D) D σ H) := by
  refine ⟨fun pins s σ H D I h => wpAny_Try_except ?_⟩
  have ok := I.ok
  have frm : X.A.frames = some (X.env :: X.outer) := hs ▸ ok.frames
  refine wpAny_mono ((hb (wKeep X.K c i ts D) (X.pn ++ pins) (fun e t => wpAny (model X.prog X.w) X.A (noteFrame e X.env) (fun _ t2 => wpAny (model X.prog X.w) X.A (setFlight e none) (fun _ t3 =>
    wpAny (model X.prog X.w) X.A (handleBy e X.env [.ExceptHandler (some (.Name x np)) (some n) (b₀ :: suite) pos']) (SP X pins D) X.xe t3) X.xe t2) X.xe t) (fun u t xx => ?_) PassesOwn.looking).run [] s σ H D (I.toTry _) h) (fun f t hsp => ?_) (fun _ _ z => z)
  · obtain ⟨a, B, r, pr, σ1, H1, cls, d, rfl, I1, nb, up, sky, na, eo, eg, hm, hgo⟩ := xx
    have I2 : Inv X pins σ1 H1 r := I1.ofTry ok
    show wpAny (model X.prog X.w) X.A (noteFrame (.ref a) X.env) _ _ _
    refine L2.Sky.land (Z := Zc cls d) (B := B) (L := X.env.locals) Zc.steady frm hf (by rw [← hs]; exact sky) fun g3 fl3 up3 => ?_
    have d3 := down_of (t := t) hx hf hs I2 nb (up.trans up3) eo eg fl3
    obtain ⟨ob3, ws3, e3, z3, dt3⟩ := d3.at_
    have S3 := d3.inv.suite e3 dt3 na d3.nl d3.nf
    refine wpAny_handleBy_cons (codeAny_handlers_test ?_) (fun q => nomatch q)
    have LT : PySem.W.Looks (model X.prog X.w) g3 (typeOf (.ref a)) cls := fun _ _ _ _ k q => wpAny_typeOf_ref (k _ _ e3) (by rw [z3.1]; exact q)
    have LM := PySem.W.exm_one (M := model X.prog X.w) d3.inv.kIn LT hm
    have test : ∀ {Q E : Value → Shared → Prop}, Q c { t with heap := g3 } → wpAny (model X.prog X.w) (X.A.mark (some (.ref a))) (eval (.Name x np) X.env) Q E { t with heap := g3 } := fun {Q E} q => by
      obtain ⟨y1, y2, y3 | ⟨y3, y4, y5⟩⟩ := hc
      · exact ld_glob (X := X.suite a ((a, ob3) :: (X.pn ++ pins))) S3 y1 y3 q y2
      · exact ld_blt (X := X.suite a ((a, ob3) :: (X.pn ++ pins))) S3 y1 y3 y4 q y5 y2
    refine test (LM.here (codeAny_handlers_suite_as ?_))
    refine HandSPX.lands_againZ fl3 fun g4 fl4 up4 => ?_
    have d4 := down_of (t := t) hx hf hs I2 nb ((up.trans up3).trans up4) eo eg fl4
    obtain ⟨ob4, ws4, e4, z4, dt4⟩ := d4.at_
    have S4 := d4.inv.suite e4 dt4 na d4.nl d4.nf
    refine store_ok (X := X.suite a ((a, ob4) :: (X.pn ++ pins))) (v := .ref a) S4 hN hi (.inl hln) rfl (fun s5 S5 => ?_) (.inr hln)
    refine wpAny_mono ((hsu a ob4 cls d (X.pn ++ pins) z4 ⟨_, dt4⟩).run [] s5 _ H1 _ S5 (hgo a na)) (fun f s6 hsp => ?_) (fun _ _ z => z.elim)
    have fin : ∀ {σ6 : L2.St} {H6 : Hp} {Q : Shared → Prop}, Inv (X.suite a ((a, ob4) :: (X.pn ++ pins))) [] σ6 H6 s6 → (∀ s7, Inv X pins (σ6.set i none) (upd H6 a (ErO cls d a)) s7 → Q s7) →
        wpAny (model X.prog X.w) X.A (do bindName X.env n .none; unbindBehindTheSuite X.env n pos') (fun _ s7 => Q s7) X.xe s6 := fun {σ6 H6 Q} S6 hq => by
      obtain ⟨y1, y2, _⟩ := S6.pin (a, ob4) (List.mem_append_left _ List.mem_cons_self)
      exact gone_ok (track (S6.unsuite ok) y1 z4 dt4 y2 d4.nl d4.n0 d4.np) hN hi hln hq
    cases f with
    | next =>
      obtain ⟨σ6, H6, S6, q6⟩ := hsp
      exact fin S6 fun s7 J7 => ⟨_, _, J7, q6⟩
    | brk =>
      obtain ⟨σ6, H6, S6, q6⟩ := hsp
      exact fin S6 fun s7 J7 => ⟨_, _, J7, q6⟩
    | cont =>
      obtain ⟨σ6, H6, S6, q6⟩ := hsp
      exact fin S6 fun s7 J7 => ⟨_, _, J7, q6⟩
    | ret u =>
      obtain ⟨v6, σ6, H6, S6, r6, q6⟩ := hsp
      exact fin S6 fun s7 J7 => ⟨_, _, _, J7, r6, q6⟩
  · cases f with
    | next =>
      obtain ⟨σ1, H1, I1, q⟩ := hsp
      exact wpAny_execs_nil ⟨σ1, H1, I1.ofTry ok, q⟩
    | brk =>
      obtain ⟨σ1, H1, I1, q⟩ := hsp
      exact ⟨σ1, H1, I1.ofTry ok, q⟩
    | cont =>
      obtain ⟨σ1, H1, I1, q⟩ := hsp
      exact ⟨σ1, H1, I1.ofTry ok, q⟩
    | ret u =>
      obtain ⟨v, σ1, H1, I1, r, q⟩ := hsp
      exact ⟨v, σ1, H1, I1.ofTry ok, r, q⟩
end
end Sw

set_option Elab.async false
set_option linter.all false
set_option maxRecDepth 100000
set_option maxHeartbeats 4000000
namespace Sw
open PySem PySem.Spec PyProof.Rows L2
/-! ## What is asked of a kept error -/
/-- the error's dict stands -/
def DicOk (H : Hp) (d : Option Addr) : Prop := d = none ∨ ∃ dd fs, d = some dd ∧ H dd = some (.xd fs)
section
variable {X : Cx} {pins : List (Addr × Obj)} {σ : L2.St} {H : Hp} {s : Shared} {a C : Addr} {d : Option Addr}
theorem inst_at (I : Inv X pins σ H s) (e : H a = some (ErO (.ref C) d a)) (hd : DicOk H d) : ∃ ob od, PySem.W.InstAt s.heap a ob C od ∧ (∀ dd fs, d = some dd → H dd = some (.xd fs) → ∃ o, od = some o ∧ s.heap.get? dd = some o) := by
  obtain ⟨⟨ob, ws, y1, ⟨y2, y3⟩, y4⟩, _, _⟩ := I.hok a _ e
  have nc : PySem.W.notCls ob = true := by
    unfold PySem.W.notCls
    rw [y4] <;> rfl
  rcases hd with rfl | ⟨dd, fs, rfl, hx⟩
  · exact ⟨ob, none, ⟨y1, y2, nc, by rw [y3]; trivial⟩, fun _ _ z => nomatch z⟩
  · obtain ⟨mA, ⟨o, es, ep, e1, _⟩, _⟩ := (show ObjOk X.prog X.w H s.heap dd (.xd fs) from I.hok dd _ hx)
    exact ⟨ob, some o, ⟨y1, y2, nc, by rw [y3]; exact e1⟩, fun d2 f2 z _ => by cases z; exact ⟨o, rfl, e1⟩⟩
end
/-- isinstance(x, c) of what rIsi knows, or of a kept error -/
def rIsK (K : PySem.W.Frag) : List V → Hp → VK → Prop := fun xs H Q => rIsi K xs H Q ∨ ∃ (a C : Addr) (d : Option Addr) (c : V) (u : Value) (b : Bool), xs = [.ref a, c] ∧ H a = some (ErO (.ref C) d a) ∧ DicOk H d ∧ ExcC K C ∧ ClsV c u ∧ PySem.W.kitOne K (.ref C) u = some b ∧ Q (.bl b) H
theorem cl_isk {X : Cx} : CallR X (.builtin "isinstance") (rIsK X.K) := by
  intro pins s σ H xs us Q I r h
  rcases h with h | ⟨a, C, d, c, u, b, rfl, ea, hd, T, k, e, q⟩
  · exact call_isi pins s σ H xs us Q I r h
  · obtain ⟨u1, u2, rfl, r1, r2⟩ := vals2 r
    obtain rfl := k.eq r2
    obtain rfl : u1 = Value.ref a := r1
    obtain ⟨ob, od, J, _⟩ := inst_at I ea hd
    have hcl : (PySem.W.clsIn X.K C).isSome = true := by
      obtain ⟨cd, hc, _⟩ := PySem.W.any_some T.hd
      rw [hc] <;> rfl
    exact PySem.W.kia_one (PySem.W.kitx_exc hcl T.hg T.hk T.hs T.ha T.hn T.ht T.hm) I.kIn J e (fun z => nomatch z) fun tk => ⟨.bl b, H, I.tok tk, rfl, q⟩
/-- x.f of a kept error -/
def tXk (K : PySem.W.Frag) (f : Str) (te : TE) : TE := fun σ H Q => te σ H fun x H1 => ∃ (a C dd : Addr) (fs : List (Str × V)) (v : V), x = .ref a ∧ H1 a = some (ErO (.ref C) (some dd) a) ∧ H1 dd = some (.xd fs) ∧ XfC K C ∧ PySem.W.findIn K (.ref C) f = some none ∧ fs.lookup f = some v ∧ Q v H1
theorem pe_xk {X : Cx} {e : Expr} {te : TE} {pos : Pos} {n : Str} (he : PE X e te) (hb : attributeBase e n X.env (eval e X.env) = eval e X.env := by rfl) : PE X (.Attribute e n pos) (tXk X.K n te) := by
  refine ⟨fun pins s σ H Q I h => attr_of hb (thn (he.run pins s σ H _ I h) fun u s1 hh => ?_)⟩
  obtain ⟨x, H1, I1, rx, a, C, dd, fs, v, rfl, ea, ed, T, hno, l, q⟩ := hh
  obtain rfl : u = Value.ref a := rx
  obtain ⟨ob, od, J, jd⟩ := inst_at I1 ea (.inr ⟨dd, fs, rfl, ed⟩)
  obtain ⟨o, rfl, eo⟩ := jd dd fs rfl ed
  obtain ⟨mA, hns, hr⟩ := (show ObjOk X.prog X.w H1 s1.heap dd (.xd fs) from I1.hok dd _ ed)
  obtain ⟨o2, ho, hl⟩ := lookIn_ns hns
  rw [eo] at ho
  cases ho
  obtain ⟨w, hw, rw'⟩ := RelO.some_of (v := v) (o := mA n) (by rw [← l]; exact hr n)
  exact HandSPX.exc_get I1.kIn J T.ga T.gg T.exC (PySem.W.findObj_own T.hdC hno rfl (by rw [hl, hw])) (handed_of rw') ⟨v, H1, I1.tok _, rw', q⟩
/-! ## Errors raised where nothing is handled: their context is None -/
theorem weak_cx {P : Program} {w : World} {K : PySem.W.Frag} {mg : Str → Option Value} {base : Heap} {k : Nat} {x : Str} {ps : List Str} {sp : Sp} (c : Cal P w K mg base (L2N.CX P w) k x ps sp) : Cal P w K mg base (L2.CX P w) k x ps sp := by
  obtain ⟨f, fd, F, g, kp, b, ba, lk⟩ := c.ex
  refine ⟨f, fd, ⟨F.len, fun A outer s H args us vs Q E hr he hb rv h => codeAny_mono (F.run A outer s H args us vs Q E hr he hb rv h) fun r s' q => ?_⟩, g, kp, b, ba, lk⟩
  cases r with
  | ok fl => cases fl <;> exact q
  | error e =>
    obtain ⟨a, B, H', cls, d, rfl, fl, z⟩ := q
    exact ⟨a, B, H', cls, d, rfl, L2H.flyingZ_imp (fun o y => y.zc) fl, z⟩
section
variable {P : Program} {w : World} {K : PySem.W.Frag} {mg : Str → Option Value} {base : Heap} {x : Str} {st : Stmt} {N ps : List Str} {k : Nat} {sp : Sp}
theorem Here.calN {r : XK → TS} (F : Here K mg x st) (S : FnScope N ps (defScope st)) (len : ∀ vs H Q E, sp vs H Q E → vs.length = ps.length)
    (bd : ∀ (kV doc pm : Value) (an : Option Addr) (cdv ct : Value) (us : List Value), us.length = ps.length →
      bindArgs (PySem.W.fnOf x x (defArgs st) (defBody st) (defScope st) .none kV doc pm an cdv ct) ⟨us, []⟩ = pure (ps.zip us))
    (dv : ∀ (f : Addr) (cdv : Value) (A : Around) (outer : List Env) (s : Shared) (H : Hp) (E : XK), RmIn k A x st s f cdv → PSs (BX (L2N.CX P w) P w K mg base N x st f cdv A outer s H E) (defBody st) (r E))
    (rd : ∀ (vs : List V) (H : Hp) (Q : VK) (E : XK), sp vs H Q E → r E { nx := fun _ H' => Q .non H', rt := Q } (L2.start N vs) H) :
    Cal P w K mg base (L2N.CX P w) (k + 1) x ps sp := by
  obtain ⟨f, fd, D, g⟩ := F.ex
  refine ⟨f, fd, D.ok S len fun cdv A outer s H vs Q E hr h => ⟨r E, dv f cdv A outer s H E hr, rd vs H Q E h⟩, g, D.kp, D.bindsN bd, fun s us hl => D.bindsA bd s us hl, ?_⟩
  obtain ⟨oc, od, _, _, _, _, _, _, _, osl, _, lk, _⟩ := D.ex
  exact ⟨oc, od, osl, lk⟩
end
section
variable {X : Cx} {k : Nat} {x : Str} {ps : List Str} {sp : Sp} {t : TA} {e : Expr} {es : List Expr} {p pos : Pos} {W : WX}
theorem pe_calN (c : Cal X.prog X.w X.K X.mg X.base (L2N.CX X.prog X.w) k x ps sp) (hr : Room k X.A) (tk : L2N.Takes X W) (hg : Gl X x) (ha : PA X (e :: es) t)
    (hdb : (x == ("__debug__" : Str)) = false := by decide) (he : starEach (e :: es) X.env = (false, eval e X.env) :: starEach es X.env := by rfl)
    (hpl : (backTo pos (starEach es X.env)).any (·.1) = false := by rfl) : PE X (.Call (.Name x p) (e :: es) [] pos) (tCalW sp W t) := by
  obtain ⟨f, fd, F, gm, kp, b, _⟩ := c.ex
  exact pe_callS F hr hg gm kp b (fun σ => L2N.passAt tk σ) ha hdb he hpl
/-- x(e, ..), x an error class without an __init__ of its own -/
theorem pmkA_N (m : ExK X.K X.mg x) (hg : Gl X x) (ha : PA X (e :: es) t) (hdb : (x == ("__debug__" : Str)) = false := by decide)
    (he : starEach (e :: es) X.env = (false, eval e X.env) :: starEach es X.env := by rfl) (hpl : (backTo pos (starEach es X.env)).any (·.1) = false := by rfl) :
    L2H.PMk5 X (.Call (.Name x p) (e :: es) [] pos) (fun σ H Q => t σ H fun vs H1 => vs.length ≤ sizeLine ∧ Q (.ref (He.ga X.K x)) none H1) := by
  intro pins s σ H Q I h
  refine wpAny_Call_Name_kw (ld_glob I hg m.g (PySem.W.callWith_K (h₀ := X.base) I.ok.mod.kin m.m.2.1 (thn (ha.run pos pins s σ H _ I h) fun us s1 hv => ?_) he hpl) hdb)
  obtain ⟨vs, H1, I1, rv, small, q⟩ := hv
  refine ⟨I1.kIn, ?_⟩
  show wpAny _ _ (call (.ref (He.ga X.K x)) us) _ _ _
  obtain ⟨y1, y2, y3, y4, y5, y6, y7, y8, y9, y10, y11, y12, y13, z1, z2, z3, z4, u1, u2, u3, T⟩ := exc_obj I1.kIn m.m.1
  exact wpAny_call_exc_subT PySem.F.excBase_ValueError T u1 u2 u3 (fun g1 a mk => L2H.mk_of5 I1 mk (raises_own m.m.2.2.1 m.m.2.2.2) q (I1.hok.gone mk.new)) (by rw [← rv.length]; exact small)
theorem ps_rzAN {pos2 : Pos} (hc : X.calm = true) (tk : L2N.Takes X W) (m : ExK X.K X.mg x) (hg : Gl X x) (ha : PA X (e :: es) t) (hdb : (x == ("__debug__" : Str)) = false := by decide)
    (he : starEach (e :: es) X.env = (false, eval e X.env) :: starEach es X.env := by rfl) (hpl : (backTo pos (starEach es X.env)).any (·.1) = false := by rfl) :
    PS X (.Raise (some (.Call (.Name x p) (e :: es) [] pos)) none pos2) (tRzA (He.ga X.K x) W t) := L2N.ps_raise hc tk (pmkA_N m hg ha hdb he hpl).pmk
/-- raise x(e, ..) from None in an except suite -/
theorem ps_rzAF {pos2 cp : Pos} {j : Nat} (hc : L2H.HotC X) (tk : L2.Takes X W) (m : ExK X.K X.mg x) (hg : Gl X x) (ha : PA X (e :: es) t) (hdb : (x == ("__debug__" : Str)) = false := by decide)
    (he : starEach (e :: es) X.env = (false, eval e X.env) :: starEach es X.env := by rfl) (hpl : (backTo pos (starEach es X.env)).any (·.1) = false := by rfl) :
    PS X (.Raise (some (.Call (.Name x p) (e :: es) [] pos)) (some (.Constant .none j cp)) pos2) (tRzA (He.ga X.K x) W t) := L2H.ps_raiseHN hc tk (pmkA_N m hg ha hdb he hpl)
end
end Sw

set_option Elab.async false
set_option linter.all false
set_option maxRecDepth 100000
set_option maxHeartbeats 4000000
namespace Sw
open PySem PySem.Spec PyProof.Rows L2
section
variable {X : Cx} {k : Nat} {x f : Str} {te : TE} {e : Expr} {p pos : Pos} {W : WX} {fdI : FuncData} {qs : List Str}
/-- x(e), x an error class whose own __init__ keeps one field: its context is None -/
theorem pmkO_N (m : OwK X.K X.mg x f) (F1 : FnOk X.prog X.w X.K X.mg X.base CX0 k (He.ma X.K (He.ga X.K x) "__init__") fdI qs (spInit X.K (He.ga X.K x) f)) (hb : Binds X.K fdI qs [])
    (hr : Room (k + 1) X.A) (hg : Gl X x) (ha : PA X [e] (tCons te tNil)) (hdb : (x == ("__debug__" : Str)) = false := by decide)
    (hs : starEach [e] X.env = (false, eval e X.env) :: starEach [] X.env := by rfl) (hpl : (backTo pos (starEach [] X.env)).any (·.1) = false := by rfl) :
    L2N.PMk X (.Call (.Name x p) [e] [] pos) (tMkO (He.ga X.K x) (spInit X.K (He.ga X.K x) f) [] (tCons te tNil)) := by
  intro pins s σ H Q I h
  have T := m.o
  obtain ⟨y1, y2, y3, y4, bm, y5, y6, y7, y8, y9, y10, y11, y12, y13, y14, cls, tail⟩ := T.cls
  refine wpAny_Call_Name_kw (ld_glob I hg m.g (PySem.W.callWith_K (h₀ := X.base) I.ok.mod.kin T.kC (thn (ha.run pos pins s σ H _ I h) fun us s1 hv => ?_) hs hpl) hdb)
  obtain ⟨vs, H1, I1, rv, small, ask⟩ := hv
  refine ⟨I1.kIn, ?_⟩
  show wpAny _ _ (call (.ref (He.ga X.K x)) us) _ _ _
  obtain ⟨hp, gn, dr, tk, os⟩ := s1
  have up1 : hp.objs.size ≤ hp.objs.size + 1 := Nat.le_succ _
  have kept : ∀ b o, hp.get? b = some o → ((hp.push (PySem.W.kdv_tup us)).push (PySem.HandSPX.excO (He.ga X.K x) hp.objs.size)).get? b = some o := fun b o y => Heap.get?_push_of_some _ (Heap.get?_push_of_some _ y)
  have there : ((hp.push (PySem.W.kdv_tup us)).push (PySem.HandSPX.excO (He.ga X.K x) hp.objs.size)).get? (hp.objs.size + 1) = some (PySem.HandSPX.excO (He.ga X.K x) hp.objs.size) := by heap_get
  have wish := ask (hp.objs.size + 1) (I1.hok.fresh up1)
  have J := I1.laid (t' := tk) (a := hp.objs.size + 1) (o := exo (hp.objs.size + 1) (He.ga X.K x) none) kept up1 (exo_ok there)
  have rel : Vals (V.ref (hp.objs.size + 1) :: vs) (Value.ref (hp.objs.size + 1) :: us) := .cons rfl rv
  rw [List.append_nil] at wish
  have bd := hb _ (Value.ref (hp.objs.size + 1) :: us) J.kIn (by rw [List.append_nil]; exact rel.length.symm.trans (F1.len _ _ _ _ wish))
  rw [List.append_nil] at bd
  have few : us.length ≤ sizeLine := by
    rw [← rv.length, sizeLine_eq]
    omega
  refine wpAny_call (PySem.HandSPX.call_own PySem.F.excBase_ValueError (fun Y => PySem.HandSPX.refsVE_contains Y bm tail) (I1.kIn _ _ cls) (PySem.W.looks_findIn I1.kIn m.i) (fun self => PySem.W.bind_fn I1.kIn self m.t) few
    (codeAny_mono (F1.run _ X.stack _ _ ⟨Value.ref (hp.objs.size + 1) :: us, []⟩ (Value.ref (hp.objs.size + 1) :: us) _ _ (fun _ _ _ => False) (hr.make (He.ga X.K x) us []) (J.env0.make (He.ga X.K x) us []) bd rel wish) fun r s2 hq => ?_))
  cases r with
  | error er => exact (show False from hq).elim
  | ok fl =>
    cases fl with
    | next => exact (show False from hq).elim
    | brk => exact (show False from hq).elim
    | cont => exact (show False from hq).elim
    | ret u =>
      obtain ⟨v, H2, eo, eb, un, hok, ru, rfl, dd, fs, ea, ed, nd, q⟩ := hq
      obtain ⟨h2, g2, d2, t2, o2⟩ := s2
      obtain ⟨t0, G, IG, kG, gone, obj, na⟩ := mk_end0 (d2 := d2) (t2 := t2) I1 up1 kept un hok eo eb ea ed nd
      exact ⟨ru, hp.objs.size + 1, _, _, ⟨G, g2, d2, t2, o2⟩, _, .ref (He.ga X.K x), some dd, rfl, IG, kG, gone, obj, ⟨rfl, rfl, fun ws hw => by cases hw; rfl⟩, rfl, rfl, na, rfl, eb, raises_own T.exC T.tyC, q⟩
theorem ps_rzON {pos2 : Pos} (hc : X.calm = true) (tk : L2N.Takes X W) (m : OwK X.K X.mg x f) (F : FnOk X.prog X.w X.K X.mg X.base CX0 k (He.ma X.K (He.ga X.K x) "__init__") fdI qs (spInit X.K (He.ga X.K x) f)) (hb : Binds X.K fdI qs [])
    (hr : Room (k + 1) X.A) (hg : Gl X x) (ha : PA X [e] (tCons te tNil)) (hdb : (x == ("__debug__" : Str)) = false := by decide)
    (hs : starEach [e] X.env = (false, eval e X.env) :: starEach [] X.env := by rfl) (hpl : (backTo pos (starEach [] X.env)).any (·.1) = false := by rfl) :
    PS X (.Raise (some (.Call (.Name x p) [e] [] pos)) none pos2) (tRzO X.K x f W te) := L2N.ps_raise hc tk (pmkO_N m F hb hr hg ha hdb hs hpl)
end
/-! ## try: .. except (x, y): .., the suite raises out -/
def wTup (K : PySem.W.Frag) (c1 c2 : Value) (ts : Addr → Value → Option Addr → TS) (D : Ends) : WX := fun cls d σ H => PySem.W.exmAny K cls [c1, c2] = some true ∧ ∀ a, H a = none → ts a cls d D σ H
section
variable {X : Cx} {x1 x2 : Str} {c1 c2 : Value} {body suite : List Stmt} {b₀ : Stmt} {np1 np2 tp pos pos' : Pos} {kk : Nat} {tb : WX → TS} {ts : Addr → Value → Option Addr → TS} {Wout : WX}
theorem ps_try_tupX (hs : X.stack = X.env :: X.outer) (hf : X.env.frame = some X.env.locals) (hx : X.ex = []) (n1 : Names X x1 c1) (n2 : Names X x2 c2) (hpa : ∀ hd : Option Value, PassesOwnAt (model X.prog X.w) (X.A.mark hd) X.A X.env X.xe) (tk : L2.Takes X Wout)
    (hb : ∀ (W : WX) (pn : List (Addr × Obj)) (xe : Value → Shared → Prop), L2N.Takes (X.tr pn xe) W → PassesOwn (model X.prog X.w) X.A X.env xe → PSs (X.tr pn xe) body (tb W))
    (hsu : ∀ (a : Addr) (ob : Obj) (cls : Value) (d : Option Addr) (pn : List (Addr × Obj)), L2N.Zn cls d ob → (∃ vs, ob.data = .fields vs) → L2.Takes (L2H.suiteX X a ((a, ob) :: pn)) Wout → L2H.HotC (L2H.suiteX X a ((a, ob) :: pn)) →
      PSs (L2H.suiteX X a ((a, ob) :: pn)) (b₀ :: suite) (ts a cls d)) :
    PS X (.Try body [.ExceptHandler (some (.Tuple [.Name x1 np1, .Name x2 np2] kk tp)) none (b₀ :: suite) pos'] [] [] pos) (fun D σ H => tb (wTup X.K c1 c2 ts D) D σ H) := by
  refine ⟨fun pins s σ H D I h => wpAny_Try_except ?_⟩
  have ok := I.ok
  have frm : X.A.frames = some (X.env :: X.outer) := hs ▸ ok.frames
  refine wpAny_mono ((hb (wTup X.K c1 c2 ts D) (X.pn ++ pins) (fun e t => wpAny (model X.prog X.w) X.A (noteFrame e X.env) (fun _ t2 => wpAny (model X.prog X.w) X.A (setFlight e none) (fun _ t3 =>
    wpAny (model X.prog X.w) X.A (handleBy e X.env [.ExceptHandler (some (.Tuple [.Name x1 np1, .Name x2 np2] kk tp)) none (b₀ :: suite) pos']) (SP X pins D) X.xe t3) X.xe t2) X.xe t) (fun u t xx => ?_) PassesOwn.looking).run [] s σ H D (I.toTry _) h) (fun f t hsp => ?_) (fun _ _ z => z)
  · obtain ⟨a, B, r, pr, σ1, H1, cls, d, rfl, I1, nb, up, sky, na, eo, eg, hm, hgo⟩ := xx
    have I2 : Inv X pins σ1 H1 r := I1.ofTry ok
    show wpAny (model X.prog X.w) X.A (noteFrame (.ref a) X.env) _ _ _
    refine L2N.Sky.land (Z := L2N.Zn cls d) (B := B) (L := X.env.locals) L2N.Zn.steady frm hf (by rw [← hs]; exact sky) fun g3 fl3 up3 => ?_
    have d3 := down_of (t := t) hx hf hs I2 nb (up.trans up3) eo eg fl3
    obtain ⟨ob3, ws3, e3, z3, dt3⟩ := d3.at_
    have S3 := d3.inv.suite e3 dt3 na d3.nl d3.nf
    refine wpAny_handleBy_cons (codeAny_handlers_test ?_) (fun q => nomatch q)
    have name : ∀ {y : Str} {c : Value} {q : Pos} {Q E : Value → Shared → Prop}, Names X y c → Q c { t with heap := g3 } → wpAny (model X.prog X.w) (X.A.mark (some (.ref a))) (eval (.Name y q) X.env) Q E { t with heap := g3 } := fun {y c q Q E} hc hq => by
      obtain ⟨y1, y2, y3 | ⟨y3, y4, y5⟩⟩ := hc
      · exact ld_glob (X := X.suite a ((a, ob3) :: (X.pn ++ pins))) S3 y1 y3 hq y2
      · exact ld_blt (X := X.suite a ((a, ob3) :: (X.pn ++ pins))) S3 y1 y3 y4 hq y5 y2
    refine wpAny_Tuple ?_
    refine wpAny_items_cons (name n1 ?_)
    refine wpAny_items_cons (name n2 ?_)
    refine wpAny_items_nil ⟨by size_fits, ?_⟩
    have kp : ∀ b o, g3.get? b = some o → (g3.push { cls := .type "tuple", data := .seq [c1, c2].toArray }).get? b = some o := fun _ _ z => Heap.get?_push_of_some _ z
    have LT : PySem.W.Looks (model X.prog X.w) (g3.push { cls := .type "tuple", data := .seq [c1, c2].toArray }) (typeOf (.ref a)) cls := fun _ _ _ _ k q => wpAny_typeOf_ref (k _ _ (kp _ _ e3)) (by rw [z3.1]; exact q)
    refine (PySem.W.exm_tup2 (M := model X.prog X.w) (d3.inv.kIn.keeps kp) LT (Heap.get?_push_size g3 rfl) hm).here (codeAny_handlers_suite ?_)
    refine HandSPX.lands_againZ (fly_keep fl3 kp) fun g4 fl4 up4 => ?_
    have d4 := down_of (t := t) hx hf hs I2 nb (((up.trans up3).trans (Heap.UpToSlots.of_keeps kp)).trans up4) eo eg fl4
    obtain ⟨ob4, ws4, e4, z4, dt4⟩ := d4.at_
    have S4 := d4.inv.suite e4 dt4 na d4.nl d4.nf
    have tkS : L2.Takes (L2H.suiteX X a ((a, ob4) :: (X.pn ++ pins))) Wout := fun u2 s2 ⟨a2, B2, r2, pn2, σ2, H2, cls2, dd2, q1, J2, q3⟩ => tk u2 s2 ⟨a2, B2, r2, pins, σ2, H2, cls2, dd2, q1, L2H.unsuiteX J2 ok, q3⟩
    have hot : L2H.HotC (L2H.suiteX X a ((a, ob4) :: (X.pn ++ pins))) := ⟨(a, ob4), ⟨rfl, ws4, dt4, z4.2.2 ws4 dt4⟩, List.mem_cons_self⟩
    refine wpAny_mono ((hsu a ob4 cls d (X.pn ++ pins) z4 ⟨_, dt4⟩ tkS hot).run [] _ _ H1 _ (L2H.suiteX_of S4) (hgo a na)) (fun f s6 hsp => ?_) (fun e6 s6 z => hpa (some (.ref a)) e6 s6 z)
    cases f with
    | next =>
      obtain ⟨σ6, H6, S6, q6⟩ := hsp
      exact ⟨_, _, L2H.unsuiteX S6 ok, q6⟩
    | brk =>
      obtain ⟨σ6, H6, S6, q6⟩ := hsp
      exact ⟨_, _, L2H.unsuiteX S6 ok, q6⟩
    | cont =>
      obtain ⟨σ6, H6, S6, q6⟩ := hsp
      exact ⟨_, _, L2H.unsuiteX S6 ok, q6⟩
    | ret u =>
      obtain ⟨v6, σ6, H6, S6, r6, q6⟩ := hsp
      exact ⟨_, _, _, L2H.unsuiteX S6 ok, r6, q6⟩
  · cases f with
    | next =>
      obtain ⟨σ1, H1, I1, q⟩ := hsp
      exact wpAny_execs_nil ⟨σ1, H1, I1.ofTry ok, q⟩
    | brk =>
      obtain ⟨σ1, H1, I1, q⟩ := hsp
      exact ⟨σ1, H1, I1.ofTry ok, q⟩
    | cont =>
      obtain ⟨σ1, H1, I1, q⟩ := hsp
      exact ⟨σ1, H1, I1.ofTry ok, q⟩
    | ret u =>
      obtain ⟨v, σ1, H1, I1, r, q⟩ := hsp
      exact ⟨v, σ1, H1, I1.ofTry ok, r, q⟩
end
end Sw

set_option Elab.async false
set_option linter.all false
set_option maxRecDepth 100000
set_option maxHeartbeats 4000000
namespace Sw
open PySem PySem.Spec PyProof.Rows L2
/-! ## first, *rest = a list that is not empty -/
section
variable {prog : Program} {w : World} {A : Around} {E : Value → Shared → Prop} {s : Shared}
theorem unpack_head {l : Addr} {u : Value} {us : List Value} {Q : List Value → Shared → Prop} (hl : s.heap.IsList l (u :: us).toArray) (hh : A.handled = none) (hz : us.length < 1000000)
    (h : ∀ (h2 : Heap) (tk : Nat), (∀ b o, s.heap.get? b = some o → h2.get? b = some o) →
      Q [u, .ref h2.objs.size] { s with heap := h2.push { cls := .type "list", data := .seq us.toArray }, toks := tk }) : wpAny (model prog w) A (unpackItems (.ref l) 2 (some 1)) Q E s := by
  have ne : l ≠ s.heap.objs.size := by
    obtain ⟨o, ho, _⟩ := hl
    exact Nat.ne_of_lt (Heap.lt_size ho)
  have size : (u :: us).toArray.size = us.length + 1 := by rw [List.size_toArray, List.length_cons]
  unfold unpackItems notIterableAtAll
  refine wpAny_bind (wpAny_bind ?_)
  refine wpAny_specialOf hl.typeIs slot_list_iter.lookup ?_
  refine wpAny_pure ?_
  simp only [Bool.false_eq_true, if_false]
  refine wpAny_bind (wpAny_holding (wpAny_pyIter_list hl ?_))
  refine wpAny_bind (wpAny_holding ?_)
  refine PySem.W.kun_draw ne 1 0 _ _ ⟨_, Heap.get?_push_size _ rfl, rfl, rfl⟩ (hl.push _) (by rw [size]; omega) fun h1 it1 sb1 => ?_
  have hl1 : h1.IsList l (u :: us).toArray := (hl.push _).extBut sb1.extBut ne
  have itx := it1
  obtain ⟨oi, hoi, _⟩ := itx
  have hlx := hl1
  obtain ⟨ol, hol, _⟩ := hlx
  show wpAny _ _ (if [u].length < 1 then _ else _) _ _ _
  rw [if_neg (show ¬ [u].length < 1 from fun z => absurd z (by show ¬ 1 < 1; omega))]
  refine wpAny_bind (wpAny_holding ?_)
  refine PySem.W.kun_collect (s := { s with heap := h1 }) (T := "list_iterator") (.inr (.inr (.inl rfl))) (Walks.list (A := A.in1) hh s.heap.objs.size l ne (u :: us).toArray) (fun j v st => st.1.typeIs) (k := 1) (by rw [size]; omega)
    ⟨it1, hl1⟩ (Heap.lt_size hoi) (Heap.lt_size hol) (fun h2 tk k2 => ?_) (by rw [size]; exact small_line (by omega))
  show wpAny _ _ (if us.length < 0 then _ else _) _ _ _
  rw [if_neg (Nat.not_lt_zero _)]
  have stay : ∀ b o, s.heap.get? b = some o → h2.get? b = some o := fun b o e => by
    have lt := Heap.lt_size e
    have nb : b ≠ s.heap.objs.size := Nat.ne_of_lt lt
    exact k2 b o nb (sb1.extBut b o nb (Heap.get?_push_of_some _ e))
  show wpAny _ _ (newList (us.take (us.length - 0)) >>= fun d => pure ([u] ++ [d] ++ us.drop (us.length - 0))) _ _ _
  rw [Nat.sub_zero, List.take_length, List.drop_length]
  refine wpAny_bind (wpAny_newObj_type ?_ (by show us.toArray.size ≤ sizeLine; rw [List.size_toArray]; exact small_line (by omega)))
  exact wpAny_pure (h h2 tk stay)
end
/-- first, *rest = a list -/
def gHead (K : PySem.W.Frag) (t : TGs) : TG := fun v σ H Q => ∃ (a : Addr) (x : V) (xs : List V), v = .ref a ∧ SqL K H a (x :: xs) ∧ xs.length < 1000000 ∧ ∀ p, H p = none → t [x, .ref p] σ (upd H p (.lst xs)) Q
section
variable {X : Cx} {pos : Pos}
theorem pg_head {es : List Expr} {k : Nat} {t : TGs} (hc : X.calm = true) (h : PGs X es t) (hn : (assignEach es X.env).length = 2 := by rfl) (hst : (assignEach es X.env).findIdx? (·.1) = some 1 := by rfl) :
    PG X (.Tuple es k pos) (gHead X.K t) := by
  refine ⟨fun pins s σ H v u Q I r hw => ?_⟩
  obtain ⟨a, x, xs, rfl, hq, hz, hw⟩ := hw
  cases r
  obtain ⟨its, rv, pl, _⟩ := I.list hq
  cases rv with
  | @cons _ u0 _ us r0 rs =>
    have hl := rs.length
    rw [PyProof.Rows.assign_Tuple]
    refine wpAny_bind (wpAny_standAt ?_)
    unfold unpack
    rw [hn, hst]
    refine wpAny_bind (wpAny_holding (unpack_head pl.isList (I.ok.hd hc) (by omega) fun h2 tk st => ?_))
    have I1 : Inv X pins σ H { s with heap := h2, toks := tk } := I.kept (t' := tk) st
    have I2 := I1.laid (t' := tk) (a := h2.objs.size) (o := .lst xs) (h' := h2.push { cls := .type "list", data := .seq us.toArray }) (fun b o q => Heap.get?_push_of_some _ q) (Nat.le_refl _)
      ⟨small_line (by omega), us, 0, rs, Heap.get?_push_size _ rfl⟩
    exact h.run pins _ σ _ [x, .ref h2.objs.size] [u0, .ref h2.objs.size] Q I2 (.cons r0 (.cons rfl .nil)) (hw _ (I1.hok.fresh (Nat.le_refl _)))
/-- *words among targets: the name in it -/
theorem pgs_star {e : Expr} {es : List Expr} {p : Pos} {t : TG} {u : TGs} (h1 : PG X e t) (h2 : PGs X es u)
    (hs : (assignEach (.Starred e p :: es) X.env).map (·.2) = assign e X.env :: (assignEach es X.env).map (·.2) := by rfl) : PGs X (.Starred e p :: es) (gCons t u) := by
  refine ⟨fun pins s σ H vs us Q I r h => ?_⟩
  obtain ⟨v, vr, rfl, h⟩ := h
  cases r with
  | cons r rr =>
    rw [hs]
    exact assignInOrder_cons (thn (h1.run pins s σ H _ _ _ I r h) fun _ s1 hq => by
      obtain ⟨σ1, H1, I1, q1⟩ := hq
      exact h2.run pins s1 σ1 H1 _ _ Q I1 rr q1)
end
end Sw

set_option Elab.async false
set_option linter.all false
set_option maxRecDepth 100000
set_option maxHeartbeats 4000000
namespace Sw
open PySem PySem.Spec PyProof.Rows L2
/-! ## Rows through a web -/
abbrev Row := List Int
def vis (r : Row) : List V := r.map V.int
def at0 (r : Row) (k : Nat) : Int := r.getD k 0
/-- one comparer -/
def goC (r : Row) (c : Cmp) : Row := if at0 r c.1 > at0 r c.2 then (r.set c.1 (at0 r c.2)).set c.2 (at0 r c.1) else r
def gone (cs : List Cmp) (r : Row) : Row := cs.foldl goC r
/-- the rows ahead of each comparer, and the last one -/
def trace : List Cmp → Row → List Row
  | [], r => [r]
  | c :: cs, r => r :: trace cs (goC r c)
theorem goC_len (r : Row) (c : Cmp) : (goC r c).length = r.length := by
  unfold goC
  split
  · rw [List.length_set, List.length_set]
  · rfl
theorem gone_len (cs : List Cmp) : ∀ r, (gone cs r).length = r.length := by
  induction cs with
  | nil => intro r; rfl
  | cons c cs ih =>
    intro r
    show (gone cs (goC r c)).length = r.length
    rw [ih, goC_len]
theorem gone_snoc (cs : List Cmp) (c : Cmp) (r : Row) : gone (cs ++ [c]) r = goC (gone cs r) c := by
  unfold gone
  rw [List.foldl_append] <;> rfl
theorem gone_take {cs : List Cmp} {i : Nat} {c : Cmp} (h : cs[i]? = some c) (r : Row) : gone (cs.take (i + 1)) r = goC (gone (cs.take i) r) c := by
  rw [List.take_add_one, h]
  exact gone_snoc _ _ _
theorem trace_len (cs : List Cmp) : ∀ r, (trace cs r).length = cs.length + 1 := by
  induction cs with
  | nil => intro r; rfl
  | cons c cs ih => intro r; show (trace cs (goC r c)).length + 1 = _; rw [ih] <;> rfl
theorem trace_snoc (cs : List Cmp) (c : Cmp) : ∀ r, trace (cs ++ [c]) r = trace cs r ++ [gone (cs ++ [c]) r] := by
  induction cs with
  | nil => intro r; rfl
  | cons d cs ih => intro r; show r :: trace (cs ++ [c]) (goC r d) = _; rw [ih] <;> rfl
theorem trace_take {cs : List Cmp} {i : Nat} {c : Cmp} (h : cs[i]? = some c) (r : Row) : trace (cs.take (i + 1)) r = trace (cs.take i) r ++ [gone (cs.take (i + 1)) r] := by
  rw [List.take_add_one, h]
  exact trace_snoc _ _ _
theorem trace_get (cs : List Cmp) : ∀ (r : Row) (i : Nat), i ≤ cs.length → (trace cs r)[i]? = some (gone (cs.take i) r) := by
  induction cs with
  | nil =>
    intro r i h
    have : i = 0 := by simpa using h
    subst this
    rfl
  | cons c cs ih =>
    intro r i h
    cases i with
    | zero => rfl
    | succ i =>
      show (trace cs (goC r c))[i]? = _
      rw [ih (goC r c) i (by simpa using h)] <;> rfl
theorem trace_last (cs : List Cmp) (r : Row) : (trace cs r)[cs.length]? = some (gone cs r) := by
  rw [trace_get cs r _ (Nat.le_refl _), List.take_length]
/-! ## Data: what == says -/
structure Enc {α : Type} [DecidableEq α] (enc : α → PyData) (k : Nat) : Prop where
  eq : ∀ a b, PyData.eqv (enc a) (enc b) = decide (a = b)
  lay : ∀ a, (enc a).canLay0 = true
  dep : ∀ a, (enc a).depth ≤ k
theorem Enc.shaped {α : Type} [DecidableEq α] {enc : α → PyData} {k : Nat} (h : Enc enc k) (hk : k ≤ 64) (a : α) : SeqAt.shaped (enc a) = true := by
  unfold SeqAt.shaped
  rw [h.lay a, decide_eq_true (Nat.le_trans (h.dep a) hk)] <;> rfl
def dL {α : Type} (enc : α → PyData) (xs : List α) : PyData := .list (xs.map enc)
theorem enc_all {α : Type} [DecidableEq α] {enc : α → PyData} {k : Nat} (h : Enc enc k) : ∀ xs ys : List α, PyData.eqvAll (xs.map enc) (ys.map enc) = decide (xs = ys)
  | [], [] => by simp [PyData.eqvAll]
  | [], _ :: _ => by simp [PyData.eqvAll]
  | _ :: _, [] => by simp [PyData.eqvAll]
  | x :: xs, y :: ys => by
    show (PyData.eqv (enc x) (enc y) && PyData.eqvAll (xs.map enc) (ys.map enc)) = _
    rw [h.eq, enc_all h xs ys, ← Bool.decide_and]
    congr 1
    simp
theorem lay_all {α : Type} {enc : α → PyData} (h : ∀ a, (enc a).canLay0 = true) : ∀ xs : List α, PyData.canLayAll0 (xs.map enc) = true
  | [] => rfl
  | x :: xs => by
    show ((enc x).canLay0 && PyData.canLayAll0 (xs.map enc)) = true
    rw [h x, lay_all h xs] <;> rfl
theorem dep_all {α : Type} {enc : α → PyData} {k : Nat} (h : ∀ a, (enc a).depth ≤ k) : ∀ xs : List α, PyData.depthAll (xs.map enc) ≤ k
  | [] => Nat.zero_le _
  | x :: xs => by
    show max (enc x).depth (PyData.depthAll (xs.map enc)) ≤ k
    have := h x
    have := dep_all h xs
    omega
theorem Enc.list {α : Type} [DecidableEq α] {enc : α → PyData} {k : Nat} (h : Enc enc k) : Enc (dL enc) (k + 1) where
  eq := fun a b => enc_all h a b
  lay := fun a => lay_all h.lay a
  dep := fun a => by
    show PyData.depthAll (a.map enc) + 1 ≤ k + 1
    have := dep_all h.dep a
    omega
theorem enc_int : Enc PyData.int 0 where
  eq := fun a b => by
    show (a == b) = _
    rw [Bool.beq_eq_decide_eq]
  lay := fun _ => rfl
  dep := fun _ => Nat.le_refl _
def dI : Row → PyData := dL PyData.int
theorem enc_row : Enc dI 1 := enc_int.list
def dC (c : Cmp) : PyData := .tuple [.int (c.1 : Int), .int (c.2 : Int)]
theorem enc_cmp : Enc dC 1 where
  eq := fun a b => by
    obtain ⟨a1, a2⟩ := a
    obtain ⟨b1, b2⟩ := b
    show (((a1 : Int) == (b1 : Int)) && (((a2 : Int) == (b2 : Int)) && true)) = _
    rw [Bool.and_true, Bool.beq_eq_decide_eq, Bool.beq_eq_decide_eq, ← Bool.decide_and]
    congr 1
    simp only [Prod.mk.injEq, Int.natCast_inj]
  lay := fun _ => rfl
  dep := fun _ => Nat.le_refl _
def dCs : List Cmp → PyData := dL dC
theorem enc_cmps : Enc dCs 2 := enc_cmp.list
def dRs : List Row → PyData := dL dI
theorem enc_rows : Enc dRs 2 := enc_row.list
section
variable {K : PySem.W.Frag} {H : Hp}
theorem dp_ints : ∀ r : Row, DpAll K H (vis r) (r.map PyData.int)
  | [] => .nil
  | i :: r => .cons (.int i) (dp_ints r)
theorem dp_row {a : Addr} {r : Row} (h : SqL K H a (vis r)) : Dp K H (.ref a) (dI r) := .lst h (dp_ints r)
theorem dp_cmp {p : Addr} {c : Cmp} (h : SqT K H p (V2 c)) : Dp K H (.ref p) (dC c) := .tup h (.cons (.int _) (.cons (.int _) .nil))
theorem dp_prs {ps : List Addr} {cs : List Cmp} (h : Prs K H ps cs) : DpAll K H (Rfs ps) (cs.map dC) := by
  induction h with
  | nil => exact .nil
  | cons r _ ih => exact .cons (dp_cmp r) ih
theorem dp_web {a : Addr} {ps : List Addr} {cs : List Cmp} (h : SqL K H a (Rfs ps)) (hp : Prs K H ps cs) : Dp K H (.ref a) (dCs cs) := .lst h (dp_prs hp)
abbrev Rws (K : PySem.W.Frag) (H : Hp) (qs : List Addr) (rs : List Row) : Prop := All2 (fun q r => SqL K H q (vis r)) qs rs
theorem dp_rws {qs : List Addr} {rs : List Row} (h : Rws K H qs rs) : DpAll K H (Rfs qs) (rs.map dI) := by
  induction h with
  | nil => exact .nil
  | cons r _ ih => exact .cons (dp_row r) ih
theorem dp_rows {a : Addr} {qs : List Addr} {rs : List Row} (h : SqL K H a (Rfs qs)) (hp : Rws K H qs rs) : Dp K H (.ref a) (dRs rs) := .lst h (dp_rws hp)
end
theorem Same.rws {K : PySem.W.Frag} {H H' : Hp} {qs : List Addr} {rs : List Row} (e : Same H H') (h : Rws K H qs rs) : Rws K H' qs rs := h.imp fun _ _ r => Same.seq e r
/-- lists of one's own, new behind H0 -/
abbrev Own (H0 H : Hp) (qs : List Addr) (rs : List Row) : Prop := All2 (fun q r => H0 q = none ∧ H q = some (.lst (vis r))) qs rs
theorem Own.rws {K : PySem.W.Frag} {H0 H : Hp} {qs : List Addr} {rs : List Row} (h : Own H0 H qs rs) : Rws K H qs rs := h.imp fun _ _ r => .inl (.inl r.2)
theorem Own.same {H0 H H' : Hp} {qs : List Addr} {rs : List Row} (e : Same H H') (h : Own H0 H qs rs) : Own H0 H' qs rs := h.imp fun _ _ r => ⟨r.1, e _ _ r.2⟩
theorem Own.back {H0 H1 H : Hp} {qs : List Addr} {rs : List Row} (e : Same H0 H1) (h : Own H1 H qs rs) : Own H0 H qs rs := h.imp fun _ _ r => ⟨e.free r.1, r.2⟩
theorem ints_at {r : Row} {k : Nat} (h : k < r.length) : (vis r)[k]? = some (.int (at0 r k)) := by
  unfold vis at0
  rw [List.getElem?_map, List.getElem?_eq_getElem h, List.getD_eq_getElem?_getD, List.getElem?_eq_getElem h] <;> rfl
theorem ints_set (r : Row) (k : Nat) (z : Int) : (vis r).set k (.int z) = vis (r.set k z) := by
  unfold vis
  rw [List.map_set]
theorem ints_len (r : Row) : (vis r).length = r.length := List.length_map ..
theorem row_ne {H : Hp} {q f : Addr} {r : Row} {qs : List Addr} (h : H q = some (.lst (vis r))) (hf : H f = some (.lst (Rfs qs))) (hr : r ≠ []) : q ≠ f := fun e => by
  subst e
  rw [h] at hf
  cases r with
  | nil => exact hr rfl
  | cons x r =>
    cases qs with
    | nil => cases hf
    | cons y qs => cases hf
theorem Own.upd {H0 H : Hp} {qs qs' : List Addr} {rs : List Row} {f : Addr} {o : HO} (h : Own H0 H qs rs) (hf : H f = some (.lst (Rfs qs'))) (hr : ∀ r ∈ rs, r ≠ []) : Own H0 (L2.upd H f o) qs rs := by
  induction h with
  | nil => exact .nil
  | cons r _ ih =>
    refine .cons ⟨r.1, ?_⟩ (ih fun r hr' => hr r (List.mem_cons_of_mem _ hr'))
    rw [upd_ne (row_ne r.2 hf (hr _ List.mem_cons_self))]
    exact r.2
theorem ne_of_len {r : Row} {n : Nat} (h : r.length = n) (hn : 1 ≤ n) : r ≠ [] := fun e => by
  subst e
  simp at h
  omega
theorem trace_all (cs : List Cmp) : ∀ (r s : Row), s ∈ trace cs r → s.length = r.length := by
  induction cs with
  | nil =>
    intro r s h
    rw [List.mem_singleton.mp h]
  | cons c cs ih =>
    intro r s h
    rcases List.mem_cons.mp h with e | h
    · rw [e]
    · rw [ih (goC r c) s h, goC_len]
section
variable {K : PySem.W.Frag} {σ : L2.St} {H : Hp} {D : Ends} {tb : TS} {j1 : Nat}
/-- for i in range(lo, hi, c): n turns -/
theorem for_rng3 {ta : TA} {lo hi c : Int} {n : Nat} (ht : ∀ Q, Q [V.int lo, V.int hi, V.int c] H → ta σ H Q) (hn : RgC lo hi c n) (Pv : Nat → L2.St → Hp → Prop) (h0 : Pv 0 σ H)
    (turn : ∀ (i : Nat) σ H, i < n → Pv i σ H → tb { D with nx := Pv (i + 1), ct := Pv (i + 1), bk := D.nx } (σ.set j1 (some (.int (lo + (i : Int) * c)))) H)
    (done : ∀ σ H, Pv n σ H → D.nx σ H) : tFor (iRng3 ta) (gName j1) tb D σ H := by
  refine ht _ ⟨lo, hi, c, n, rfl, hn, it_for (n := n) Pv h0 (fun i σ H hi p => hi) (fun σ H p => Nat.le_refl _) (fun i σ H hi p v H' y => ?_) done⟩
  obtain ⟨rfl, rfl⟩ := y
  exact turn i σ H' hi p
end
/-- a drawn item of four -/
theorem pick4 {a b c d : V} {n : Int} (h : 0 ≤ n) : ∃ v, atI [a, b, c, d] (n % 4) = some v ∧ (v = a ∨ v = b ∨ v = c ∨ v = d) := by
  have e : n % 4 = ((0 : Nat) : Int) ∨ n % 4 = ((1 : Nat) : Int) ∨ n % 4 = ((2 : Nat) : Int) ∨ n % 4 = ((3 : Nat) : Int) := by omega
  rcases e with e | e | e | e <;> rw [e]
  · exact ⟨a, rfl, .inl rfl⟩
  · exact ⟨b, rfl, .inr (.inl rfl)⟩
  · exact ⟨c, rfl, .inr (.inr (.inl rfl))⟩
  · exact ⟨d, rfl, .inr (.inr (.inr rfl))⟩
/-- an open place of a list -/
theorem drawn_at {n m : Int} (h : 0 < m) : ∃ k : Nat, n % m = (k : Int) ∧ (k : Int) < m := by
  have a0 := Int.emod_nonneg n (Int.ne_of_gt h)
  have a1 := Int.emod_lt_of_pos n h
  exact ⟨(n % m).toNat, by omega, by omega⟩
section
variable {K : PySem.W.Frag} {σ : L2.St} {H : Hp} {D : Ends} {tb : TS} {te : TE} {a b : Addr} {xs ys : List V} {j1 j2 : Nat} {Q : VK}
/-- for j1, j2 in enumerate(..), the list come to a -/
theorem enum_in (hx : SqL K H a xs) (Pv : Nat → L2.St → Hp → Prop) (h0 : Pv 0 σ H) (hl : ∀ i σ H, i ≤ xs.length → Pv i σ H → SqL K H a xs)
    (turn : ∀ i x σ H H', xs[i]? = some x → i < xs.length → Pv i σ H → Same H H' → tb { D with nx := Pv (i + 1), ct := Pv (i + 1), bk := D.nx } ((σ.set j1 (some (.int (i : Int)))).set j2 (some x)) H')
    (done : ∀ σ H, Pv xs.length σ H → D.nx σ H) :
    ∃ a' xs', [V.ref a] = [V.ref a'] ∧ SqL K H a' xs' ∧ ∃ W : Nat → Nat → L2.St → Hp → Prop, (∃ m, W 0 m σ H) ∧ ∀ i m σ H, W i m σ H → ((Ite K a').stop i H ∧ D.nx σ H) ∨ ((Ite K a').go i H ∧ ∃ N : L2.St → Hp → Prop,
      (∀ σ' H', N σ' H' → ∃ m', m' < m ∧ W (i + 1) m' σ' H') ∧ ∀ x H', (Ite K a').yld i H x H' → gTup K 2 (gCons (gName j1) (gCons (gName j2) gNil)) x σ H' fun σ2 H2 => tb { D with nx := N, ct := N, bk := D.nx } σ2 H2) := by
  refine ⟨a, xs, rfl, hx, it_for (n := xs.length) Pv h0 (fun i σ H hi p => ?_) (fun σ H p => ?_) (fun i σ H hi p v H' y => ?_) done⟩
  · obtain ⟨x, hx⟩ := get_of hi
    exact ⟨xs, x, hl i σ H (Nat.le_of_lt hi) p, hx⟩
  · exact ⟨xs, hl _ σ H (Nat.le_refl _) p, Nat.le_refl _⟩
  · obtain ⟨T, x, rfl, nT, rfl, f⟩ := y
    exact g2_run (.inl (.inl upd_same)) (turn i x σ H _ (f xs (hl i σ H (Nat.le_of_lt hi) p)) hi p (same_new nT))
/-- [.. for j1, j2 in zip(x, y)], lists at a and b of one length -/
theorem lc_zip2 {tt : TT} {k1 k2 : Nat} {vs : List Nat} (h1 : σ[k1]? = some (some (.ref a))) (h2 : σ[k2]? = some (some (.ref b))) (hx : SqL K H a xs) (hy : SqL K H b ys) (hz : xs.length = ys.length)
    (hvs : ∀ v w, wipe (((wipe σ vs).set j1 v).set j2 w) vs = wipe σ vs)
    (G : Addr → Nat → List V → Hp → Prop) (h0 : ∀ D, H D = none → G D 0 [] (upd H D (.lst []))) (hl : ∀ D i acc H', H D = none → G D i acc H' → SqL K H' a xs ∧ SqL K H' b ys)
    (turn : ∀ D i x y acc H' H2, H D = none → xs[i]? = some x → ys[i]? = some y → i < xs.length → H' D = some (.lst acc) → G D i acc H' → Same H' H2 → Turn tt te D (G D) i (((wipe σ vs).set j1 (some x)).set j2 (some y)) H2)
    (done : ∀ D acc H', H D = none → H' D = some (.lst acc) → G D xs.length acc H' → Q (.ref D) H') :
    tLc (iZip K (tCons (tVar k1) (tCons (tVar k2) tNil))) (gTup K 2 (gCons (gName j1) (gCons (gName j2) gNil))) tt te vs σ H Q := by
  refine ⟨.ref a, h1, .ref b, h2, a, b, xs, ys, rfl, hx, hy, fun D nD => ?_⟩
  refine it_lc (n := xs.length) (So D (G D)) ⟨[], upd_same, h0 D nD⟩ (fun i H' hi p => ?_) (fun H' p => ?_) (fun i H' hi p v H2 y => ?_) (fun H' p => ?_)
  · obtain ⟨acc, _, g⟩ := p
    obtain ⟨x, gx⟩ := get_of hi
    obtain ⟨y, gy⟩ := get_of (xs := ys) (i := i) (by omega)
    obtain ⟨q1, q2⟩ := hl D _ _ _ nD g
    exact ⟨xs, ys, x, y, q1, q2, gx, gy⟩
  · obtain ⟨acc, _, g⟩ := p
    obtain ⟨q1, q2⟩ := hl D _ _ _ nD g
    exact ⟨xs, ys, q1, q2, .inl (Nat.le_refl _)⟩
  · obtain ⟨acc, hD, g⟩ := p
    obtain ⟨T, x, y, rfl, nT, rfl, f1, f2⟩ := y
    obtain ⟨q1, q2⟩ := hl D _ _ _ nD g
    exact g2_run (.inl (.inl upd_same)) ⟨hvs _ _, turn D i x y acc H' _ nD (f1 xs q1) (f2 ys q2) hi hD g (same_new (o := .tup [x, y]) nT)⟩
  · obtain ⟨acc, hD, g⟩ := p
    exact done D acc H' nD hD g
end
theorem atI_end {α : Type} {xs : List α} {v : α} {n : Nat} (h : xs[n]? = some v) (hl : xs.length = n + 1) : atI xs (-1) = some v := by
  have lt : n < xs.length := by omega
  have e : xs = xs.take n ++ [v] := by
    have h1 : xs.take (n + 1) = xs := List.take_of_length_le (by omega)
    rw [List.take_add_one, h] at h1
    exact h1.symm
  rw [e]
  exact atI_last _ _
theorem eqv_refl2 {α β : Type} [DecidableEq α] [DecidableEq β] {ea : α → PyData} {eb : β → PyData} {k l : Nat} (h1 : Enc ea k) (h2 : Enc eb l) (x : α) (y : β) : PyData.eqv (.list [ea x, eb y]) (.list [ea x, eb y]) = true := by
  show (PyData.eqv (ea x) (ea x) && (PyData.eqv (eb y) (eb y) && true)) = true
  rw [h1.eq, h2.eq, decide_eq_true rfl, decide_eq_true rfl] <;> rfl
theorem shaped2 {α β : Type} [DecidableEq α] [DecidableEq β] {ea : α → PyData} {eb : β → PyData} {k l : Nat} (h1 : Enc ea k) (h2 : Enc eb l) (hk : k ≤ 63) (hl : l ≤ 63) (x : α) (y : β) : SeqAt.shaped (.list [ea x, eb y]) = true := by
  have e1 := h1.dep x
  have e2 := h2.dep y
  have d : PyData.depth (.list [ea x, eb y]) ≤ 64 := by
    show max (ea x).depth (max (eb y).depth 0) + 1 ≤ 64
    omega
  have l1 : PyData.canLay0 (.list [ea x, eb y]) = true := by
    show ((ea x).canLay0 && ((eb y).canLay0 && true)) = true
    rw [h1.lay, h2.lay] <;> rfl
  unfold SeqAt.shaped
  rw [l1, decide_eq_true d] <;> rfl
/-- isinstance(x, T) of a list of ours -/
theorem isi_lst {K : PySem.W.Frag} {H : Hp} {a : Addr} {xs : List V} {Q : VK} (h : H a = some (.lst xs)) (q : Q (.bl true) H) : rIsi K [.ref a, .ty "list"] H Q :=
  ⟨.ref a, .ty "list", .type "list", .type "list", true, rfl, .ty _, .base (.lst h), kit_ty (by decide +kernel), q⟩
theorem isi_int_bool {K : PySem.W.Frag} {H : Hp} {z : Int} {Q : VK} (q : Q (.bl false) H) : rIsi K [.int z, .ty "bool"] H Q :=
  ⟨.int z, .ty "bool", .type "int", .type "bool", false, rfl, .ty _, .base (.int z), kit_ty (by decide +kernel), q⟩
theorem isi_int_int {K : PySem.W.Frag} {H : Hp} {z : Int} {Q : VK} (q : Q (.bl true) H) : rIsi K [.int z, .ty "int"] H Q :=
  ⟨.int z, .ty "int", .type "int", .type "int", true, rfl, .ty _, .base (.int z), kit_ty (by decide +kernel), q⟩
end Sw

set_option Elab.async false
set_option linter.all false
set_option maxRecDepth 100000
set_option maxHeartbeats 4000000
namespace Sw
open PySem PySem.Spec PyProof.Rows L2
/-! ## Texts as lists of signs -/
def sg (x : Str) : List Nat := x.cps.toList
def tx (l : List Nat) : Str := ⟨l.toArray⟩
theorem sg_tx (l : List Nat) : sg (tx l) = l := rfl
theorem tx_sg (x : Str) : tx (sg x) = x := by
  obtain ⟨⟨l⟩⟩ := x
  rfl
theorem sg_inj {x y : Str} (h : sg x = sg y) : x = y := by rw [← tx_sg x, ← tx_sg y, h]
theorem sg_len (x : Str) : x.length = (sg x).length := by
  obtain ⟨⟨l⟩⟩ := x
  rfl
/-- where the sign c stands in l, counted from k -/
def hits (c : Nat) : List Nat → Nat → List Nat
  | [], _ => []
  | a :: l, k => if a = c then k :: hits c l (k + 1) else hits c l (k + 1)
open Builtin Builtin.Str in
theorem sub_one (x : Str) (c i : Nat) : (i + 1 ≤ x.length ∧ subAt x ⟨#[c]⟩ i = true) ↔ (sg x)[i]? = some c := by
  obtain ⟨⟨l⟩⟩ := x
  show (i + 1 ≤ l.length ∧ _) ↔ l[i]? = some c
  unfold subAt
  have e1 : (⟨#[c]⟩ : Str).length = 1 := rfl
  rw [e1]
  simp only [List.extract_toArray, beq_iff_eq]
  constructor
  · rintro ⟨h1, h2⟩
    have h3 : (List.extract l i (i + 1)) = [c] := by
      have := congrArg Array.toList h2
      simpa using this
    rw [List.extract_eq_drop_take] at h3
    have h4 : i < l.length := by omega
    rw [List.getElem?_eq_getElem h4]
    have h5 : (l.drop i).take (i + 1 - i) = [l[i]] := by
      rw [show i + 1 - i = 1 by omega, List.drop_eq_getElem_cons h4] <;> rfl
    rw [h5] at h3
    rw [List.cons.inj h3 |>.1]
  · intro h
    obtain ⟨h4, h5⟩ := List.getElem?_eq_some_iff.mp h
    refine ⟨by omega, ?_⟩
    have h6 : List.extract l i (i + 1) = [c] := by
      rw [List.extract_eq_drop_take, show i + 1 - i = 1 by omega, List.drop_eq_getElem_cons h4, h5] <;> rfl
    rw [h6]
open Builtin Builtin.Str in
theorem occ_run (x : Str) (c limit : Nat) : ∀ (r : List Nat) (k : Nat) (arr : Array Nat) (free : Nat), (sg x).drop k = r → free ≤ k →
    (forIn (List.range' k (r.length + 1)) (arr, free) (StrLaws.occBody x ⟨#[c]⟩ x.length limit)).run.fst.toList = arr.toList ++ (hits c r k).take (limit - arr.size)
  | [], k, arr, free, e, hf => by
    have hk : (sg x).length ≤ k := List.drop_eq_nil_iff.mp e
    rw [show List.range' k (([] : List Nat).length + 1) = [k] from rfl, List.forIn_cons]
    unfold StrLaws.occBody
    rw [if_neg (fun h => by
      have h2 : k + 1 ≤ x.length := h.1.2
      rw [sg_len] at h2
      omega)]
    show arr.toList = arr.toList ++ (hits c [] k).take (limit - arr.size)
    simp [hits]
  | a :: r, k, arr, free, e, hf => by
    have hk : (sg x)[k]? = some a := by
      have := congrArg (fun l => l[0]?) e
      simpa using this
    have e2 : (sg x).drop (k + 1) = r := by
      rw [← List.drop_drop, e] <;> rfl
    rw [show List.range' k ((a :: r).length + 1) = k :: List.range' (k + 1) (r.length + 1) from rfl, List.forIn_cons]
    unfold hits
    by_cases hc : a = c
    · subst hc
      rw [if_pos rfl]
      have h1 := (sub_one x a k).mpr hk
      by_cases hl : arr.size < limit
      · conv => lhs; unfold StrLaws.occBody
        rw [if_pos ⟨⟨⟨hl, hf⟩, h1.1⟩, h1.2⟩]
        have ih := occ_run x a limit r (k + 1) (arr.push k) (k + 1) e2 (Nat.le_refl _)
        refine Eq.trans ih ?_
        rw [Array.toList_push, Array.size_push, show limit - arr.size = (limit - (arr.size + 1)) + 1 by omega, List.take_succ_cons, List.append_assoc] <;> rfl
      · conv => lhs; unfold StrLaws.occBody
        rw [if_neg (fun h => hl h.1.1.1)]
        have ih := occ_run x a limit r (k + 1) arr free e2 (by omega)
        refine Eq.trans ih ?_
        rw [show limit - arr.size = 0 by omega, List.take_zero, List.take_zero]
    · rw [if_neg hc]
      conv => lhs; unfold StrLaws.occBody
      rw [if_neg (fun h => hc (Option.some.inj (hk.symm.trans ((sub_one x c k).mp ⟨h.1.2, h.2⟩))))]
      exact occ_run x c limit r (k + 1) arr free e2 (by omega)
theorem occ_sign (x : Str) (c limit : Nat) : Builtin.Str.occurrences x ⟨#[c]⟩ 0 x.length limit = (hits c (sg x) 0).take limit := by
  rw [StrLaws.occ_eq, sg_len, Nat.sub_zero]
  have h := occ_run x c limit (sg x) 0 #[] 0 rfl (Nat.le_refl _)
  rw [sg_len] at h
  simpa using h
theorem hits_len (c : Nat) : ∀ (l : List Nat) (k : Nat), (hits c l k).length ≤ l.length
  | [], _ => Nat.le_refl _
  | a :: l, k => by
    unfold hits
    have := hits_len c l (k + 1)
    split
    · rw [List.length_cons, List.length_cons]; omega
    · rw [List.length_cons]; omega
/-- l cut at each sign c -/
def cutOn (c : Nat) : List Nat → List (List Nat)
  | [] => [[]]
  | a :: l => if a = c then [] :: cutOn c l else match cutOn c l with
    | h :: t => (a :: h) :: t
    | [] => [[a]]
theorem cutOn_ne (c : Nat) : ∀ l, cutOn c l ≠ []
  | [] => by simp [cutOn]
  | a :: l => by
    unfold cutOn
    split
    · simp
    · split <;> simp
/-- p ahead of the first part -/
def ahead (p : List Nat) : List (List Nat) → List (List Nat)
  | h :: t => (p ++ h) :: t
  | [] => [p]
theorem extract_sg (x : Str) (i j : Nat) : sg (Builtin.Str.strSub x i j) = ((sg x).drop i).take (j - i) := by
  obtain ⟨⟨l⟩⟩ := x
  show (Array.extract l.toArray i j).toList = _
  rw [List.extract_toArray, List.extract_eq_drop_take] <;> rfl
theorem parts_run (x : Str) (c : Nat) : ∀ (r : List Nat) (s k : Nat), (sg x).drop k = r → s ≤ k →
    (((s :: (hits c r k).map (· + 1)).zip (hits c r k ++ [x.length])).map fun (q : Nat × Nat) => sg (Builtin.Str.strSub x q.1 q.2)) = ahead (((sg x).drop s).take (k - s)) (cutOn c r)
  | [], s, k, e, hs => by
    have hk : (sg x).length ≤ k := List.drop_eq_nil_iff.mp e
    show [sg (Builtin.Str.strSub x s x.length)] = [((sg x).drop s).take (k - s) ++ []]
    rw [extract_sg, sg_len, List.append_nil, List.take_of_length_le (by rw [List.length_drop]; omega), List.take_of_length_le (by rw [List.length_drop]; omega)]
  | a :: r, s, k, e, hs => by
    have hk : (sg x)[k]? = some a := by
      have := congrArg (fun l => l[0]?) e
      simpa using this
    have e2 : (sg x).drop (k + 1) = r := by
      rw [← List.drop_drop, e] <;> rfl
    unfold hits cutOn
    by_cases hc : a = c
    · rw [if_pos hc, if_pos hc]
      have ih := parts_run x c r (k + 1) (k + 1) e2 (Nat.le_refl _)
      show sg (Builtin.Str.strSub x s k) :: ((((k + 1) :: (hits c r (k + 1)).map (· + 1)).zip (hits c r (k + 1) ++ [x.length])).map fun (q : Nat × Nat) => sg (Builtin.Str.strSub x q.1 q.2)) = _
      rw [ih, extract_sg, Nat.sub_self, List.take_zero]
      show _ = (((sg x).drop s).take (k - s) ++ []) :: cutOn c r
      rw [List.append_nil]
      congr 1
      have := cutOn_ne c r
      revert this
      cases cutOn c r with
      | nil => intro h; exact absurd rfl h
      | cons h t => intro _; rfl
    · rw [if_neg hc, if_neg hc]
      have ih := parts_run x c r s (k + 1) e2 (by omega)
      rw [ih]
      have pre : ((sg x).drop s).take (k + 1 - s) = ((sg x).drop s).take (k - s) ++ [a] := by
        rw [show k + 1 - s = (k - s) + 1 by omega, List.take_add_one]
        congr 1
        rw [List.getElem?_drop, show s + (k - s) = k by omega, hk] <;> rfl
      rw [pre]
      have := cutOn_ne c r
      revert this
      cases cutOn c r with
      | nil => intro h; exact absurd rfl h
      | cons h t =>
        intro _
        show ((((sg x).drop s).take (k - s) ++ [a]) ++ h) :: t = (((sg x).drop s).take (k - s) ++ (a :: h)) :: t
        rw [List.append_assoc] <;> rfl
/-- text.split(sign) -/
theorem split_sign (x : Str) (c : Nat) (hc : c < 256) : (Txt.split x ⟨#[c]⟩).map sg = cutOn c (sg x) := by
  have kind : Builtin.Str.strKind (⟨#[c]⟩ : Str) = 1 := by
    unfold Builtin.Str.strKind
    rw [if_pos (by simp [hc])]
  have pos : ∀ y : Str, 1 ≤ Builtin.Str.strKind y := fun y => by
    unfold Builtin.Str.strKind
    split
    · exact Nat.le_refl _
    · split <;> decide
  have many : (hits c (sg x) 0).take (x.length + 1) = hits c (sg x) 0 := List.take_of_length_le (by rw [sg_len]; exact Nat.le_succ_of_le (hits_len c _ 0))
  have run := parts_run x c (sg x) 0 0 rfl (Nat.le_refl _)
  have start : ahead (((sg x).drop 0).take (0 - 0)) (cutOn c (sg x)) = cutOn c (sg x) := by
    rw [Nat.sub_self, List.take_zero]
    have := cutOn_ne c (sg x)
    revert this
    cases cutOn c (sg x) with
    | nil => intro h; exact absurd rfl h
    | cons h t => intro _; rfl
  rw [start] at run
  unfold Txt.split
  rw [occ_sign, many]
  have zero : hits c (sg x) 0 = [] → [x].map sg = cutOn c (sg x) := fun h => by
    rw [h] at run
    rw [← run]
    show [sg x] = [sg (Builtin.Str.strSub x 0 x.length)]
    rw [extract_sg, List.drop_zero, Nat.sub_zero, sg_len, List.take_length]
  split
  · rename_i h
    have h2 : x.length < 1 := by
      have h3 := pos x
      simp only [Bool.or_eq_true, decide_eq_true_eq] at h
      rcases h with h | h
      · exact h
      · rw [kind] at h
        omega
    refine zero ?_
    have := hits_len c (sg x) 0
    rw [← sg_len] at this
    exact List.eq_nil_of_length_eq_zero (by omega)
  · split
    · rename_i h
      refine zero ?_
      simpa using h
    · unfold Builtin.Str.partsBetween
      rw [List.map_map]
      exact run
/-- text.partition(sign) -/
def part1 (c : Nat) : List Nat → List Nat × Bool × List Nat
  | [] => ([], false, [])
  | a :: l => if a = c then ([], true, l) else (a :: (part1 c l).1, (part1 c l).2.1, (part1 c l).2.2)
theorem hits_head (c : Nat) : ∀ (l : List Nat) (k : Nat), (hits c l k = [] → part1 c l = (l, false, [])) ∧ ∀ i t, hits c l k = i :: t → k ≤ i ∧ part1 c l = (l.take (i - k), true, l.drop (i - k + 1))
  | [], k => ⟨fun _ => rfl, fun i t h => nomatch h⟩
  | a :: l, k => by
    have ih := hits_head c l (k + 1)
    unfold hits part1
    by_cases hc : a = c
    · rw [if_pos hc, if_pos hc]
      refine ⟨(fun h => nomatch h), fun i t h => ?_⟩
      obtain ⟨rfl, rfl⟩ := List.cons.inj h
      refine ⟨Nat.le_refl _, ?_⟩
      rw [Nat.sub_self] <;> rfl
    · rw [if_neg hc, if_neg hc]
      refine ⟨fun h => ?_, fun i t h => ?_⟩
      · rw [ih.1 h]
      · obtain ⟨h1, h2⟩ := ih.2 i t h
        refine ⟨by omega, ?_⟩
        rw [h2, show i - k = (i - (k + 1)) + 1 by omega, List.take_succ_cons, List.drop_succ_cons]
theorem partition_sign (x : Str) (c : Nat) : sg (Txt.partition x ⟨#[c]⟩).1 = (part1 c (sg x)).1 ∧ (Txt.partition x ⟨#[c]⟩).2.1 = (if (part1 c (sg x)).2.1 = true then ⟨#[c]⟩ else Str.empty) ∧ sg (Txt.partition x ⟨#[c]⟩).2.2 = (part1 c (sg x)).2.2 := by
  have hh := hits_head c (sg x) 0
  unfold Txt.partition
  rw [occ_sign]
  cases e : hits c (sg x) 0 with
  | nil =>
    rw [List.take_nil, hh.1 e]
    exact ⟨rfl, rfl, rfl⟩
  | cons i t =>
    rw [List.take_succ_cons]
    obtain ⟨_, h2⟩ := hh.2 i t e
    rw [Nat.sub_zero] at h2
    rw [h2]
    refine ⟨?_, rfl, ?_⟩
    · show sg (Builtin.Str.strSub x 0 i) = _
      rw [extract_sg, List.drop_zero, Nat.sub_zero]
    · show sg (Builtin.Str.strSub x (i + 1) x.length) = _
      rw [extract_sg, sg_len, List.take_of_length_le (by rw [List.length_drop]; exact Nat.le_refl _)]
end Sw

set_option Elab.async false
set_option linter.all false
set_option maxRecDepth 100000
set_option maxHeartbeats 4000000
namespace Sw
open PySem PySem.Spec PyProof.Rows L2
/-! ## x * n of a text -/
def repS (z : Str) (k : Nat) : Str := tx (List.replicate k (sg z)).flatten
theorem fold_app (x : Array Nat) : ∀ (k : Nat) (a : Array Nat), ((List.replicate k x).foldl (· ++ ·) a).toList = a.toList ++ (List.replicate k x.toList).flatten
  | 0, a => by simp
  | k + 1, a => by
    rw [List.replicate_succ, List.foldl_cons, fold_app x k (a ++ x), List.replicate_succ, List.flatten_cons, Array.toList_append, List.append_assoc]
theorem len_flat (l : List Nat) : ∀ k : Nat, (List.replicate k l).flatten.length = l.length * k
  | 0 => by simp
  | k + 1 => by
    rw [List.replicate_succ, List.flatten_cons, List.length_append, len_flat l k, Nat.mul_succ]
    omega
def rMulS : R2 := fun x y H Q => ∃ (z : Str) (n : Nat), x = .str z ∧ y = .int (n : Int) ∧ n ≤ 1000 ∧ z.length ≤ 10000 ∧ Q (.str (repS z n)) H
theorem op_mulS {X : Cx} : OpR X (binaryOp .Mult) rMulS := by
  intro pins s σ H x y v u Q I rx ry h
  obtain ⟨z, n, rfl, rfl, hn, hz, q⟩ := h
  obtain ⟨t, rfl⟩ := rx
  obtain ⟨t', rfl⟩ := ry
  have few : z.length * n ≤ 10000000 := Nat.le_trans (Nat.mul_le_mul hz hn) (by decide)
  refine P.mul_str ?_ (fun h1 h2 => ?_) (fun h1 h2 => ?_) ?_
  · rw [decide_eq_false (by omega), decide_eq_false (by omega)] <;> rfl
  · intro h3
    have h4 : ((z.length : Int) + 1) * (n : Int) ≤ 2 ^ 63 - 1 := by
      have h5 : (((z.length + 1) * n : Nat) : Int) ≤ 10001000 := by
        have := Nat.mul_le_mul (show z.length + 1 ≤ 10001 by omega) hn
        omega
      have h6 : ((z.length : Int) + 1) * (n : Int) = (((z.length + 1) * n : Nat) : Int) := by
        rw [Int.natCast_mul] <;> rfl
      rw [h6]
      omega
    have := Int.le_ediv_of_mul_le (by omega) h4
    omega
  · unfold Builtin.Str.tooLong
    rw [Int.toNat_natCast]
    simp only [decide_eq_false_iff_not, gt_iff_lt]
    have := sizeLine_eq
    omega
  · rw [Int.toNat_natCast]
    have e0 : n < 1 → repS z n = Str.empty := fun h => by
      have : n = 0 := by omega
      subst this
      rfl
    split
    · rename_i h
      refine ⟨by decide, ?_⟩
      rw [e0 (by omega)] at q
      exact ⟨.str Str.empty, H, I.tok _, ⟨_, rfl⟩, q⟩
    · split
      · rename_i h1 h2
        have e : repS z n = z := by
          rcases Bool.or_eq_true_iff.mp h2 with h3 | h3
          · have : n = 1 := by
              have := beq_iff_eq.mp h3
              omega
            subst this
            show tx ([sg z].flatten) = z
            rw [List.flatten_singleton, tx_sg]
          · have hl := beq_iff_eq.mp h3
            rw [sg_len] at hl
            have hs : sg z = [] := List.length_eq_zero_iff.mp hl
            apply sg_inj
            unfold repS
            rw [sg_tx, hs]
            simp
        rw [e] at q
        exact ⟨.str z, H, I, ⟨t, rfl⟩, q⟩
      · have e : (⟨(List.replicate n z.cps).foldl (· ++ ·) #[]⟩ : Str) = repS z n := by
          apply sg_inj
          unfold repS
          rw [sg_tx]
          show ((List.replicate n z.cps).foldl (· ++ ·) #[]).toList = _
          rw [fold_app] <;> rfl
        rw [e]
        refine ⟨?_, ?_⟩
        · unfold repS
          rw [sg_len, sg_tx, len_flat, ← sg_len]
          have := sizeLine_eq
          omega
        · exact ⟨.str (repS z n), H, I.tok _, ⟨_, rfl⟩, q⟩
/-! ## names of classes -/
section
variable {X : Cx}
theorem pe_cls {x : Str} {pos : Pos} (h : X.mg x = some (.ref (He.ga X.K x))) (hg : Gl X x) (hd : (x == ("__debug__" : Str)) = false := by decide) : PE X (.Name x pos) (tC (.ref (He.ga X.K x))) := pe_glob hg h rfl hd
theorem nm_cls {x : Str} (h : X.mg x = some (.ref (He.ga X.K x))) (hg : Gl X x) (hd : (x == ("__debug__" : Str)) = false := by decide) : Names X x (.ref (He.ga X.K x)) := ⟨hg, hd, .inl h⟩
end
/-! ## readings of trys -/
def tTryT (K : PySem.W.Frag) (c1 c2 : Value) (tb : WX → TS) (ts : Addr → Value → Option Addr → TS) : TS := fun D σ H => tb (wTup K c1 c2 ts D) D σ H
def tTryK (K : PySem.W.Frag) (c : Value) (i : Nat) (tb : WX → TS) (ts : Addr → Value → Option Addr → TS) : TS := fun D σ H => tb (wKeep K c i ts D) D σ H
def tJoin (ts : List TE) : TE := fun σ H Q => tJs ts Str.empty σ H fun out H1 => Q (.str out) H1
def kStrI : List V → Hp → VK → Prop := fun xs H Q => ∃ i : Int, xs = [.int i] ∧ i.natAbs.log2 < 1920 ∧ Q (.str (toString i)) H
def kIntS : List V → Hp → VK → Prop := fun xs H Q => ∃ (a : Str) (n : Int), xs = [.str a] ∧ PySem.intText? a = some n ∧ a.length ≤ 640 ∧ Q (.int n) H
def kLenS : List V → Hp → VK → Prop := fun xs H Q => ∃ z : Str, xs = [.str z] ∧ z.length ≤ sizeLine ∧ Q (.int z.length) H
def mSplit : V → List V → Hp → VK → Prop := fun x xs H Q => ∃ a b : Str, x = .str a ∧ xs = [.str b] ∧ (b.length == 0) = false ∧ a.length + 2 ≤ sizeLine ∧ rNewStrs (Txt.split a b) H Q
def mPart : V → List V → Hp → VK → Prop := fun x xs H Q => ∃ a b : Str, x = .str a ∧ xs = [.str b] ∧ (b.length == 0) = false ∧ a.length ≤ sizeLine ∧ ∀ p, H p = none → Q (.ref p) (upd H p (.tup [.str (Txt.partition a b).1, .str (Txt.partition a b).2.1, .str (Txt.partition a b).2.2]))
def mJoin (K : PySem.W.Frag) : V → List V → Hp → VK → Prop := fun x xs H Q => ∃ a p, ∃ ys : List Str, x = .str a ∧ xs = [.ref p] ∧ (SqL K H p (ys.map V.str) ∨ SqT K H p (ys.map V.str)) ∧ (ys.map (·.length)).sum + ys.length * a.length ≤ 16777216 ∧ Q (.str (Txt.join a ys)) H
def mIndex : V → List V → Hp → VK → Prop := fun x xs H Q => ∃ (a b : Str) (i : Nat) (rest : List Nat), x = .str a ∧ xs = [.str b] ∧ Builtin.Str.occurrences a b 0 a.length 1 = i :: rest ∧ Q (.int (i : Int)) H
def oNotInC : R2 := fun x y H Q => ∃ (c : Nat) (z : Str), x = .str ⟨#[c]⟩ ∧ y = .str z ∧ Q (.bl (!decide (c ∈ sg z))) H
def oInC : R2 := fun x y H Q => ∃ (c : Nat) (z : Str), x = .str ⟨#[c]⟩ ∧ y = .str z ∧ Q (.bl (decide (c ∈ sg z))) H
section
variable {X : Cx}
theorem op_inC : OpR X (compareOp .In) oInC := op_in_sign
theorem cl_strI : CallR X (.type "str") kStrI := call_str_int
theorem cl_lenS : CallR X (.builtin "len") kLenS := call_len_str
theorem cl_intS : CallR X (.type "int") kIntS := call_int_str
theorem md_split : MtR X "str.split" mSplit := mt_split
theorem md_part : MtR X "str.partition" mPart := mt_partition
theorem md_join : MtR X "str.join" (mJoin X.K) := mt_join
theorem md_index : MtR X "str.index" mIndex := mt_sindex
theorem op_notInC : OpR X (compareOp .NotIn) oNotInC := op_notIn_sign
end
/-! ## an error's __init__ -/
def InitOk (P : Program) (w : World) (K : PySem.W.Frag) (mg : Str → Option Value) (base : Heap) (k : Nat) (x f : Str) : Prop := ∃ fd : FuncData, FnOk P w K mg base CX0 k (He.ma K (He.ga K x) "__init__") fd ["self", f] (spInit K (He.ga K x) f) ∧ Binds K fd ["self", f] []
end Sw

set_option Elab.async false
set_option linter.all false
set_option maxRecDepth 100000
set_option maxHeartbeats 4000000
namespace Sw
open PySem PySem.Spec PyProof.Rows L2 PySem.NumText
/-! ## Numbers as signs -/
def numT (k : Nat) : List Nat := if k < 10 then [48 + k] else [49, 48]
theorem num_str : ∀ k : Nat, k ≤ 10 → sg (Str.ofString (toString (k : Int))) = numT k
  | 0, _ => by decide +kernel
  | 1, _ => by decide +kernel
  | 2, _ => by decide +kernel
  | 3, _ => by decide +kernel
  | 4, _ => by decide +kernel
  | 5, _ => by decide +kernel
  | 6, _ => by decide +kernel
  | 7, _ => by decide +kernel
  | 8, _ => by decide +kernel
  | 9, _ => by decide +kernel
  | 10, _ => by decide +kernel
  | k + 11, h => by omega
theorem num_inj {j k : Nat} (hj : j ≤ 10) (hk : k ≤ 10) (h : numT j = numT k) : j = k := by
  unfold numT at h
  split at h <;> split at h <;> simp at h <;> omega
theorem num_sign {k : Nat} (hk : k ≤ 10) : ∀ c ∈ numT k, 48 ≤ c ∧ c ≤ 57 := by
  unfold numT
  split <;> simp <;> omega
theorem num_ne (k : Nat) : numT k ≠ [] := by
  unfold numT
  split <;> simp
theorem num_len (k : Nat) : (numT k).length ≤ 2 := by
  unfold numT
  split <;> simp
/-- the number from 0 to 10 that the word is the figures of -/
def readN (w : List Nat) : Option Nat := (List.range 11).find? fun k => decide (w = numT k)
theorem readN_some {w : List Nat} {k : Nat} (h : readN w = some k) : k ≤ 10 ∧ w = numT k := by
  have h1 := List.find?_some h
  have h2 := List.mem_of_find?_eq_some h
  exact ⟨by have := List.mem_range.mp h2; omega, of_decide_eq_true h1⟩
theorem readN_none {w : List Nat} (h : readN w = none) (k : Nat) (hk : k ≤ 10) : w ≠ numT k := fun e => by
  have := List.find?_eq_none.mp h k (List.mem_range.mpr (by omega))
  exact this (decide_eq_true e)
theorem readN_of {w : List Nat} {k : Nat} (hk : k ≤ 10) (e : w = numT k) : readN w = some k := by
  cases h : readN w with
  | none => exact absurd e (readN_none h k hk)
  | some j =>
    obtain ⟨h1, h2⟩ := readN_some h
    rw [num_inj h1 hk (h2.symm.trans e)]
theorem readN_num {k : Nat} (hk : k ≤ 10) : readN (numT k) = some k := readN_of hk rfl
/-- the law's own reading -/
def isFig (c : Nat) : Bool := decide (48 ≤ c ∧ c ≤ 57)
def lawN (w : List Nat) : Option Nat := if (1 ≤ w.length ∧ w.length ≤ 2) ∧ w.all isFig = true then (if w.length = 2 ∧ w.head? = some 48 then none else some (digitsVal w)) else none
theorem lawN_one (a : Nat) : lawN [a] = if isFig a = true then some (a - 48) else none := by
  unfold lawN isFig digitsVal
  simp
theorem lawN_two (a b : Nat) : lawN [a, b] = if isFig a = true ∧ isFig b = true ∧ a ≠ 48 then some ((a - 48) * 10 + (b - 48)) else none := by
  unfold lawN isFig digitsVal
  by_cases h1 : 48 ≤ a ∧ a ≤ 57 <;> by_cases h2 : 48 ≤ b ∧ b ≤ 57 <;> by_cases h3 : a = 48 <;> simp [h1, h2, h3]
theorem law_read {w : List Nat} {k : Nat} (h : readN w = some k) : lawN w = some k := by
  obtain ⟨h1, rfl⟩ := readN_some h
  unfold numT
  split
  · rename_i h2
    rw [lawN_one, if_pos (show isFig (48 + k) = true from decide_eq_true (by omega))]
    congr 1
    omega
  · have : k = 10 := by omega
    subst this
    rw [lawN_two, if_pos ⟨by decide, by decide, by decide⟩]
theorem read_law {w : List Nat} {k : Nat} (h : lawN w = some k) (hk : k ≤ 10) : readN w = some k := by
  apply readN_of hk
  match w with
  | [] => unfold lawN at h; simp at h
  | [a] =>
    rw [lawN_one] at h
    split at h
    · rename_i h1
      have h2 := of_decide_eq_true h1
      have h3 := Option.some.inj h
      unfold numT
      rw [if_pos (by omega)]
      congr 1
      omega
    · cases h
  | [a, b] =>
    rw [lawN_two] at h
    split at h
    · rename_i h1
      have h2 := of_decide_eq_true h1.1
      have h4 := of_decide_eq_true h1.2.1
      have h5 := h1.2.2
      have h3 := Option.some.inj h
      have h6 : k = 10 := by omega
      have h7 : a = 49 := by omega
      have h8 : b = 48 := by omega
      rw [h6, h7, h8] <;> rfl
    · cases h
  | _ :: _ :: _ :: l => unfold lawN at h; simp at h
theorem law_none {w : List Nat} (h : readN w = none) : ∀ k, lawN w = some k → 10 < k := fun k e => by
  by_cases hk : k ≤ 10
  · rw [read_law e hk] at h
    cases h
  · omega
/-! ## cutting -/
theorem cut_same (c : Nat) (l : List Nat) : cutOn c (c :: l) = [] :: cutOn c l := by
  show (if c = c then _ else _) = _
  rw [if_pos rfl]
theorem cut_other {c a : Nat} (h : a ≠ c) (l : List Nat) : cutOn c (a :: l) = match cutOn c l with
    | h :: t => (a :: h) :: t
    | [] => [[a]] := by
  show (if a = c then _ else _) = _
  rw [if_neg h] <;> rfl
theorem part_same (c : Nat) (l : List Nat) : part1 c (c :: l) = ([], true, l) := by
  show (if c = c then _ else _) = _
  rw [if_pos rfl]
theorem part_other {c a : Nat} (h : a ≠ c) (l : List Nat) : part1 c (a :: l) = (a :: (part1 c l).1, (part1 c l).2.1, (part1 c l).2.2) := by
  show (if a = c then _ else _) = _
  rw [if_neg h]
theorem cut_part (c : Nat) : ∀ w : List Nat, cutOn c w = if (part1 c w).2.1 = true then (part1 c w).1 :: cutOn c (part1 c w).2.2 else [(part1 c w).1]
  | [] => rfl
  | a :: l => by
    have ih := cut_part c l
    by_cases h : a = c
    · rw [h, cut_same, part_same, if_pos rfl]
    · rw [cut_other h, part_other h, ih]
      cases (part1 c l).2.1 <;> rfl
theorem part_no {c : Nat} : ∀ {w : List Nat}, (∀ a ∈ w, a ≠ c) → part1 c w = (w, false, [])
  | [], _ => rfl
  | a :: l, h => by
    unfold part1
    rw [if_neg (h a List.mem_cons_self), part_no fun b hb => h b (List.mem_cons_of_mem _ hb)]
theorem part_at {c : Nat} {t : List Nat} : ∀ {w : List Nat}, (∀ a ∈ w, a ≠ c) → part1 c (w ++ c :: t) = (w, true, t)
  | [], _ => by
    show (if c = c then _ else _) = _
    rw [if_pos rfl]
  | a :: l, h => by
    rw [List.cons_append, part_other (h a List.mem_cons_self), part_at (w := l) fun b hb => h b (List.mem_cons_of_mem _ hb)]
theorem part_off {c : Nat} : ∀ {w : List Nat}, (part1 c w).2.1 = false → (part1 c w).2.2 = []
  | [], _ => rfl
  | a :: l, h => by
    unfold part1 at h ⊢
    by_cases e : a = c
    · rw [if_pos e] at h
      cases h
    · rw [if_neg e] at h ⊢
      exact part_off (w := l) h
theorem part_in {c : Nat} : ∀ {w : List Nat}, (part1 c w).2.1 = decide (c ∈ w)
  | [] => by simp [part1]
  | a :: l => by
    unfold part1
    by_cases e : a = c
    · rw [if_pos e]
      simp [e]
    · rw [if_neg e, part_in (w := l)]
      simp [Ne.symm e]
theorem part_len (c : Nat) : ∀ w : List Nat, (part1 c w).1.length ≤ w.length ∧ (part1 c w).2.2.length ≤ w.length
  | [] => ⟨Nat.le_refl _, Nat.le_refl _⟩
  | a :: l => by
    have ih := part_len c l
    unfold part1
    split
    · exact ⟨by simp, by simp⟩
    · exact ⟨by simp; omega, by simp; omega⟩
theorem cut_no {c : Nat} {w : List Nat} (h : ∀ a ∈ w, a ≠ c) : cutOn c w = [w] := by
  rw [cut_part, part_no h] <;> rfl
theorem cut_mem (c : Nat) : ∀ (w : List Nat) (u : List Nat), u ∈ cutOn c w → u.length ≤ w.length
  | [], u, h => by
    unfold cutOn at h
    rw [List.mem_singleton.mp h] <;> exact Nat.le_refl _
  | a :: l, u, h => by
    have ih := cut_mem c l
    unfold cutOn at h
    split at h
    · rcases List.mem_cons.mp h with e | h
      · rw [e]; exact Nat.zero_le _
      · exact Nat.le_trans (ih u h) (by simp)
    · cases e : cutOn c l with
      | nil => exact absurd e (cutOn_ne c l)
      | cons x t =>
        rw [e] at h ih
        rcases List.mem_cons.mp h with e2 | h
        · rw [e2]
          have := ih x List.mem_cons_self
          simp
          exact this
        · exact Nat.le_trans (ih u (List.mem_cons_of_mem _ h)) (by simp)
theorem cut_count (c : Nat) : ∀ w : List Nat, (cutOn c w).length ≤ w.length + 1
  | [] => Nat.le_refl _
  | a :: l => by
    have ih := cut_count c l
    unfold cutOn
    split
    · simp; omega
    · cases e : cutOn c l with
      | nil => exact absurd e (cutOn_ne c l)
      | cons x t =>
        rw [e] at ih
        simp at ih ⊢
        omega
/-! ## Comparers and webs as texts -/
def pairOk (n : Nat) : Option Nat → Option Nat → Option Cmp
  | some a, some b => if a < n ∧ b < n ∧ a ≠ b then some (a, b) else none
  | _, _ => none
def readC (n : Nat) (w : List Nat) : Option Cmp := pairOk n (readN (part1 45 w).1) (readN (part1 45 w).2.2)
def lawC (n : Nat) (w : List Nat) : Option Cmp := match cutOn 45 w with
  | [u, v] => pairOk n (lawN u) (lawN v)
  | _ => none
theorem pair_eq {n : Nat} (hn : n ≤ 10) (u v : List Nat) : pairOk n (lawN u) (lawN v) = pairOk n (readN u) (readN v) := by
  have one : ∀ w : List Nat, (∃ k, lawN w = some k ∧ readN w = some k ∧ k ≤ 10) ∨ (readN w = none ∧ (lawN w = none ∨ ∃ k, lawN w = some k ∧ 10 < k)) := fun w => by
    cases e : readN w with
    | some k => exact .inl ⟨k, law_read e, rfl, (readN_some e).1⟩
    | none =>
      refine .inr ⟨rfl, ?_⟩
      cases e2 : lawN w with
      | none => exact .inl rfl
      | some k => exact .inr ⟨k, rfl, law_none e k e2⟩
  rcases one u with ⟨a, h1, h2, _⟩ | ⟨h2, h1 | ⟨a, h1, h3⟩⟩ <;> rcases one v with ⟨b, g1, g2, _⟩ | ⟨g2, g1 | ⟨b, g1, g3⟩⟩ <;> rw [h1, h2, g1, g2]
  all_goals try rfl
  all_goals
    show (if _ then _ else _) = _
    rw [if_neg (by omega)] <;> rfl
theorem law_cmp {n : Nat} (hn : n ≤ 10) (w : List Nat) : lawC n w = readC n w := by
  unfold lawC readC
  rw [cut_part]
  cases e : (part1 45 w).2.1 with
  | false =>
    rw [part_off e]
    have : readN [] = none := by decide
    rw [this, if_neg (by simp)]
    cases readN (part1 45 w).1 <;> rfl
  | true =>
    rw [if_pos rfl, cut_part]
    cases e2 : (part1 45 (part1 45 w).2.2).2.1 with
    | false =>
      rw [if_neg (by simp)]
      have h : part1 45 (part1 45 w).2.2 = ((part1 45 w).2.2, false, []) := by
        have hh : ∀ a ∈ (part1 45 w).2.2, a ≠ 45 := fun a ha z => by
          rw [part_in] at e2
          exact of_decide_eq_false e2 (z ▸ ha)
        exact part_no hh
      rw [h]
      exact pair_eq hn _ _
    | true =>
      rw [if_pos rfl]
      have hne := cutOn_ne 45 (part1 45 (part1 45 w).2.2).2.2
      have none2 : readN (part1 45 w).2.2 = none := by
        cases q : readN (part1 45 w).2.2 with
        | none => rfl
        | some k =>
          obtain ⟨h1, h2⟩ := readN_some q
          have h3 : (45 : Nat) ∈ (part1 45 w).2.2 := by
            rw [part_in] at e2
            exact of_decide_eq_true e2
          rw [h2] at h3
          have := num_sign h1 45 h3
          omega
      rw [none2]
      cases q : cutOn 45 (part1 45 (part1 45 w).2.2).2.2 with
      | nil => exact absurd q hne
      | cons x t => cases readN (part1 45 w).1 <;> rfl
def getAll {α β : Type} (f : α → Option β) : List α → Option (List β)
  | [] => some []
  | a :: l => match f a, getAll f l with
    | some b, some r => some (b :: r)
    | _, _ => none
theorem getAll_some {α β : Type} {f : α → Option β} : ∀ {l : List α} {r : List β}, getAll f l = some r → All2 (fun a b => f a = some b) l r
  | [], r, h => by
    cases h
    exact .nil
  | a :: l, r, h => by
    unfold getAll at h
    split at h
    · rename_i b r' h1 h2
      cases h
      exact .cons h1 (getAll_some h2)
    · cases h
theorem getAll_none {α β : Type} {f : α → Option β} : ∀ {l : List α}, getAll f l = none → ∃ (k : Nat) (a : α), l[k]? = some a ∧ f a = none ∧ ∀ i < k, ∃ (b : α) (c : β), l[i]? = some b ∧ f b = some c
  | [], h => by cases h
  | a :: l, h => by
    unfold getAll at h
    cases e : f a with
    | none => exact ⟨0, a, rfl, e, fun i hi => absurd hi (Nat.not_lt_zero i)⟩
    | some b =>
      rw [e] at h
      cases e2 : getAll f l with
      | some r => rw [e2] at h; cases h
      | none =>
        obtain ⟨k, x, h1, h2, h3⟩ := getAll_none e2
        refine ⟨k + 1, x, h1, h2, fun i hi => ?_⟩
        cases i with
        | zero => exact ⟨a, b, rfl, e⟩
        | succ i => exact h3 i (by omega)
theorem getAll_of {α β : Type} {f : α → Option β} {l : List α} {r : List β} (h : All2 (fun a b => f a = some b) l r) : getAll f l = some r := by
  induction h with
  | nil => rfl
  | cons h1 _ ih =>
    unfold getAll
    rw [h1, ih]
theorem getAll_congr {α β : Type} {f g : α → Option β} (h : ∀ a, f a = g a) (l : List α) : getAll f l = getAll g l := by
  have : f = g := funext h
  rw [this]
/-- the web that a text writes -/
def tailW (n : Nat) (t : List Nat) : Option (List Cmp) := match cutOn 32 t with
  | [] :: ws => if ws.length ≤ 60 then getAll (readC n) ws else none
  | _ => none
def readW (x : List Nat) : Option (Nat × List Cmp) := if (part1 58 x).2.1 = true then match readN (part1 58 x).1 with
  | some n => if 1 ≤ n then (tailW n (part1 58 x).2.2).map fun cs => (n, cs) else none
  | none => none
  else none
def cmpT (c : Cmp) : List Nat := numT c.1 ++ 45 :: numT c.2
def tailT (cs : List Cmp) : List Nat := (cs.map fun c => 32 :: cmpT c).flatten
def webT (n : Nat) (cs : List Cmp) : List Nat := numT n ++ 58 :: tailT cs
def webTx (n : Nat) (cs : List Cmp) : Str := tx (webT n cs)
theorem cmp_sign {c : Cmp} (h1 : c.1 ≤ 10) (h2 : c.2 ≤ 10) : ∀ a ∈ cmpT c, a ≠ 32 ∧ a ≠ 58 := by
  intro a ha
  rcases List.mem_append.mp ha with h | h
  · have := num_sign h1 a h
    omega
  · rcases List.mem_cons.mp h with h | h
    · omega
    · have := num_sign h2 a h
      omega
theorem readC_cmp {n : Nat} {c : Cmp} (hn : n ≤ 10) (h : CmpOk n c) : readC n (cmpT c) = some c := by
  obtain ⟨h1, h2, h3⟩ := h
  have e : part1 45 (cmpT c) = (numT c.1, true, numT c.2) := part_at fun a ha z => by
    have := num_sign (show c.1 ≤ 10 by omega) a ha
    omega
  unfold readC
  rw [e, readN_num (by omega), readN_num (by omega)]
  show (if _ then _ else _) = _
  rw [if_pos ⟨h1, h2, h3⟩]
theorem cut_app {c : Nat} {t : List Nat} : ∀ {w : List Nat}, (∀ a ∈ w, a ≠ c) → cutOn c (w ++ c :: t) = w :: cutOn c t := fun {w} h => by
  rw [cut_part, part_at h] <;> rfl
theorem cut_tail : ∀ cs : List Cmp, (∀ c ∈ cs, c.1 ≤ 10 ∧ c.2 ≤ 10) → cutOn 32 (tailT cs) = [] :: cs.map cmpT
  | [], _ => rfl
  | c :: cs, h => by
    have hc := h c List.mem_cons_self
    have ih := cut_tail cs fun d hd => h d (List.mem_cons_of_mem _ hd)
    have no : ∀ a ∈ cmpT c, a ≠ 32 := fun a ha => (cmp_sign hc.1 hc.2 a ha).1
    show (if (32 : Nat) = 32 then [] :: cutOn 32 (cmpT c ++ tailT cs) else _) = _
    rw [if_pos rfl]
    show [] :: cutOn 32 (cmpT c ++ tailT cs) = [] :: cmpT c :: cs.map cmpT
    congr 1
    cases cs with
    | nil =>
      show cutOn 32 (cmpT c ++ []) = _
      rw [List.append_nil, cut_no no] <;> rfl
    | cons d ds =>
      have e : tailT (d :: ds) = 32 :: (cmpT d ++ tailT ds) := rfl
      rw [e] at ih ⊢
      rw [cut_app no]
      congr 1
      have e2 : cutOn 32 (32 :: (cmpT d ++ tailT ds)) = [] :: cutOn 32 (cmpT d ++ tailT ds) := by
        show (if (32 : Nat) = 32 then _ else _) = _
        rw [if_pos rfl]
      rw [e2] at ih
      exact (List.cons.inj ih).2
theorem readW_web {n : Nat} {cs : List Cmp} (h : WebOk n cs) (n1 : 1 ≤ n) (n10 : n ≤ 10) : readW (webT n cs) = some (n, cs) := by
  have e : part1 58 (webT n cs) = (numT n, true, tailT cs) := part_at fun a ha z => by
    have := num_sign n10 a ha
    omega
  have ok : ∀ c ∈ cs, c.1 ≤ 10 ∧ c.2 ≤ 10 := fun c hc => by
    obtain ⟨h1, h2, _⟩ := h.2 c hc
    exact ⟨by omega, by omega⟩
  have all : All2 (fun a b => readC n a = some b) (cs.map cmpT) cs := by
    have : ∀ l : List Cmp, (∀ c ∈ l, CmpOk n c) → All2 (fun a b => readC n a = some b) (l.map cmpT) l := fun l => by
      induction l with
      | nil => intro _; exact .nil
      | cons c l ih => intro hl; exact .cons (readC_cmp n10 (hl c List.mem_cons_self)) (ih fun d hd => hl d (List.mem_cons_of_mem _ hd))
    exact this cs h.2
  unfold readW
  rw [e, readN_num n10]
  show (if 1 ≤ n then _ else _) = _
  rw [if_pos n1]
  unfold tailW
  rw [cut_tail cs ok]
  show Option.map _ (if (cs.map cmpT).length ≤ 60 then _ else _) = _
  rw [if_pos (by rw [List.length_map]; exact h.1), getAll_of all] <;> rfl
theorem readW_ok {x : List Nat} {n : Nat} {cs : List Cmp} (h : readW x = some (n, cs)) : WebOk n cs ∧ 1 ≤ n ∧ n ≤ 10 := by
  unfold readW at h
  split at h
  · split at h
    · rename_i m hm
      split at h
      · rename_i h1
        cases e : tailW m (part1 58 x).2.2 with
        | none => rw [e] at h; cases h
        | some l =>
          rw [e] at h
          cases h
          refine ⟨?_, h1, (readN_some hm).1⟩
          unfold tailW at e
          split at e
          · rename_i ws _
            split at e
            · rename_i hl
              have a := getAll_some e
              refine ⟨by rw [← a.length]; exact hl, fun c hc => ?_⟩
              obtain ⟨i, hi⟩ := List.mem_iff_getElem?.mp hc
              obtain ⟨w, _, hw⟩ := a.get hi
              unfold readC pairOk at hw
              split at hw
              · split at hw
                · rename_i h3
                  cases hw
                  exact h3
                · cases hw
              · cases hw
            · cases e
          · cases e
      · cases h
    · cases h
  · cases h
end Sw

set_option Elab.async false
set_option linter.all false
set_option maxRecDepth 100000
set_option maxHeartbeats 4000000
namespace Sw
open PySem PySem.Spec PyProof.Rows L2
/-! ## What is handed in, and how it is judged -/
/-- a line of n -/
def lnV (n : Nat) : V → Bool
  | .int i => decide (0 ≤ i ∧ i < (n : Int))
  | _ => false
/-- two lines of n, unlike -/
def twV (n : Nat) : V → V → Bool
  | .int i, .int j => decide (0 ≤ i ∧ i < (n : Int)) && (decide (0 ≤ j ∧ j < (n : Int)) && decide (¬ i = j))
  | _, _ => false
/-- a number of lines -/
def noV : V → Bool
  | .int i => decide (1 ≤ i ∧ i ≤ 10)
  | _ => false
theorem tyb_int {K : PySem.W.Frag} {H : Hp} {v : V} {T : String} (h : TyB K H v T) : (T = "int" ∧ ∃ i, v = .int i) ∨ (T ≠ "int" ∧ ∀ i, v ≠ .int i) := by
  cases h with
  | int i => exact .inl ⟨rfl, i, rfl⟩
  | _ => exact .inr ⟨by decide, fun _ z => nomatch z⟩
/-- an item of comparers, and whether it is one -/
inductive ItOk (K : PySem.W.Frag) (H : Hp) (n : Nat) : V → Bool → Prop
  | other {v : V} {T : String} (h : TyB K H v T) (ne : T ≠ "tuple") : ItOk K H n v false
  | long {p : Addr} {xs : List V} (h : SqT K H p xs) (ne : xs.length ≠ 2) : ItOk K H n (.ref p) false
  | two {p : Addr} {x y : V} {Tx Ty : String} (h : SqT K H p [x, y]) (hx : TyB K H x Tx) (hy : TyB K H y Ty) : ItOk K H n (.ref p) (twV n x y)
/-- what need_web finds -/
inductive Verd where
  | good
  | lines
  | web (at_ : Option Nat)
inductive WebV (K : PySem.W.Frag) (H : Hp) : V → V → Verd → Prop
  | lines {lv cv : V} {T : String} (h : TyB K H lv T) (bad : noV lv = false) : WebV K H lv cv .lines
  | kind {n : Nat} {cv : V} {T : String} (hn : noV (.int (n : Int)) = true) (h : TyB K H cv T) (ne : T ≠ "list") : WebV K H (.int (n : Int)) cv (.web none)
  | many {n : Nat} {a : Addr} {xs : List V} (hn : noV (.int (n : Int)) = true) (h : SqL K H a xs) (hl : 60 < xs.length) : WebV K H (.int (n : Int)) (.ref a) (.web none)
  | item {n k : Nat} {a : Addr} {xs : List V} {y : V} (hn : noV (.int (n : Int)) = true) (h : SqL K H a xs) (hl : xs.length ≤ 60) (ok : ∀ i < k, ∃ x : V, xs[i]? = some x ∧ ItOk K H n x true) (hy : xs[k]? = some y) (bad : ItOk K H n y false) : WebV K H (.int (n : Int)) (.ref a) (.web (some k))
  | good {n : Nat} {a : Addr} {xs : List V} (hn : noV (.int (n : Int)) = true) (h : SqL K H a xs) (hl : xs.length ≤ 60) (ok : ∀ (i : Nat) (x : V), xs[i]? = some x → ItOk K H n x true) : WebV K H (.int (n : Int)) (.ref a) .good
/-- None or a number -/
def onV : Option Nat → V
  | none => .non
  | some k => .int (k : Int)
/-- how a bad web is refused -/
def Refu (K : PySem.W.Frag) (H : Hp) (E : XK) : Verd → Prop
  | .good => False
  | .lines => ∀ H', Same H H' → E (.ref (He.ga K "BadLines")) none H'
  | .web o => ∀ H' d, Same H H' → H' d = none → E (.ref (He.ga K "BadWeb")) (some d) (upd H' d (.xd [("place", onV o)]))
theorem tyb_same {K : PySem.W.Frag} {H H' : Hp} {v : V} {T : String} (s : Same H H') (h : TyB K H v T) : TyB K H' v T := by
  cases h with
  | non => exact .non
  | bl b => exact .bl b
  | int i => exact .int i
  | str x => exact .str x
  | byt b => exact .byt b
  | lst h => exact .lst (s.seq h)
  | tup h => exact .tup (Same.sqt s h)
  | dK h => exact .dK (s _ _ h)
theorem it_same {K : PySem.W.Frag} {H H' : Hp} {n : Nat} {v : V} {b : Bool} (s : Same H H') (h : ItOk K H n v b) : ItOk K H' n v b := by
  cases h with
  | other h ne => exact .other (tyb_same s h) ne
  | long h ne => exact .long (Same.sqt s h) ne
  | two h hx hy => exact .two (Same.sqt s h) (tyb_same s hx) (tyb_same s hy)
theorem it_cmp {K : PySem.W.Frag} {H : Hp} {n : Nat} {p : Addr} {c : Cmp} (h : SqT K H p (V2 c)) (ok : CmpOk n c) : ItOk K H n (.ref p) true := by
  have e : twV n (.int (c.1 : Int)) (.int (c.2 : Int)) = true := by
    obtain ⟨h1, h2, h3⟩ := ok
    show (decide _ && (decide _ && decide _)) = true
    rw [decide_eq_true (by omega), decide_eq_true (by omega), decide_eq_true (by omega)] <;> rfl
  rw [← e]
  exact .two h (.int _) (.int _)
end Sw

set_option Elab.async false
set_option linter.all false
set_option maxRecDepth 100000
set_option maxHeartbeats 4000000
namespace Sw
open PySem PySem.Spec PyProof.Rows L2
/-! ## Methods -/
def memS (st : Stmt) (i : Nat) : Stmt := match st with
  | .ClassDef _ _ _ b _ _ _ _ _ _ _ => b.getD i (.Pass ⟨0, 0, 0, 0⟩)
  | _ => .Pass ⟨0, 0, 0, 0⟩
def metD (x m q : Str) (st : Stmt) : He.DefD := ⟨(x, some m), m, q, defArgs st, defBody st, defScope st, [], []⟩
/-- the method m of the class x is the def st of the text -/
def Met (K : PySem.W.Frag) (x m q : Str) (st : Stmt) : Prop := ∃ fd : FuncData, FunD K m q (defArgs st) (defBody st) (defScope st) [] [] (He.ma K (He.ga K x) m) fd
theorem met_of {fa : List He.Fa} {fn : List He.DefD} {ex : PySem.W.Frag → Bool} {K : PySem.W.Frag} (c : SaysZ fa fn ex K) {x m q : Str} {st : Stmt} (i : Nat) (hi : fn[i]? = some (metD x m q st)) : Met K x m q st := c.d.def_ i hi
/-- the reading of an error's __init__ that keeps one field f, behind a text of it -/
def rInit (K : PySem.W.Frag) (z f : Str) : TS := tSeq (tDrop (tVeI K (tCons (tVar 0) (tCons (tJoin [tC (.str z), tFmtN (tVar 1)]) tNil)))) (tOst K f (tVar 0) (tVar 1))
theorem rd_init {K : PySem.W.Frag} {mg : Str → Option Value} {x z f : Str} (m : OwK K mg x f) (hz : z.length ≤ 1000) (vs : List V) (H : Hp) (Q : VK) (E : XK) (h : spInit K (He.ga K x) f vs H Q E) : rInit K z f { nx := fun _ H' => Q .non H', rt := Q } (L2.start ["self", f] vs) H := by
  obtain ⟨a, v, rfl, ha, hv, q⟩ := h
  have el : (Str.empty ++ z).length ≤ 1000 := by
    have : (Str.empty ++ z).length = z.length := by
      show (#[] ++ z.cps).size = z.cps.size
      simp
    omega
  have el2 : ∀ y : Str, y.length ≤ 400 → (Str.empty ++ z ++ y).length ≤ 1000000 := fun y hy => by
    have : (Str.empty ++ z ++ y).length = (Str.empty ++ z).length + y.length := by
      show ((Str.empty ++ z).cps ++ y.cps).size = _
      rw [Array.size_append] <;> rfl
    omega
  have gen : ∀ y : Str, y.length ≤ 400 → (Str.empty ++ z ++ y).length ≤ sizeLine ∧ (tVeI K (fun _ H Q => Q [.ref a, .str (Str.empty ++ z ++ y)] H)) [some (.ref a), some v] H fun _ H' => tOst K f (tVar 0) (tVar 1) { nx := fun _ H' => Q .non H', rt := Q } [some (.ref a), some v] H' := fun y hy => by
    refine ⟨small_line (el2 y hy), a, He.ga K x, [.str (Str.empty ++ z ++ y)], rfl, by show 1 ≤ 1000; decide, m.o, ha, ?_⟩
    exact ⟨v, rfl, .ref a, rfl, a, He.ga K x, rfl, m.o, m.n, .inl ⟨ha, fun dx h1 h2 => q dx h1 h2⟩⟩
  simp only [rInit, tSeq, tDrop, L2.start, List.map_cons, List.map_nil, List.length_cons, List.length_nil, Nat.reduceAdd, Nat.sub_self, List.replicate_zero, List.append_nil]
  rcases hv with rfl | ⟨i, rfl, i0, i1⟩
  · obtain ⟨g1, g2⟩ := gen "None" (by decide +kernel)
    exact ⟨.ref a, rfl, z, rfl, small_line (by omega), .non, rfl, .inl ⟨rfl, "None", rfl, g1, g2⟩⟩
  · have hi : i.natAbs.log2 < 1920 := by
      have h3 : i.natAbs ≤ 1000 := by omega
      have : i.natAbs.log2 ≤ i.natAbs := Nat.log2_le_self _
      omega
    have len : (toString i : Str).length ≤ 400 := by
      have h3 : ∀ n : Nat, n ≤ 1000 → (Str.ofString (toString (n : Int))).length ≤ 400 := by decide +kernel
      have := h3 i.toNat (by omega)
      rw [Int.toNat_of_nonneg i0] at this
      exact this
    obtain ⟨g1, g2⟩ := gen (toString i) len
    exact ⟨.ref a, rfl, z, rfl, small_line (by omega), .int i, rfl, .inr ⟨i, rfl, hi, toString i, rfl, g1, g2⟩⟩
end Sw

set_option Elab.async false
set_option linter.all false
set_option maxRecDepth 100000
set_option maxHeartbeats 4000000
namespace Sw
open PySem PySem.Spec PyProof.Rows L2
theorem sg_app (x y : Str) : sg (x ++ y) = sg x ++ sg y := by
  show (x.cps ++ y.cps).toList = x.cps.toList ++ y.cps.toList
  rw [Array.toList_append]
theorem sg_nil : sg Str.empty = [] := rfl
theorem sg_nil2 : sg ("" : Str) = [] := by decide +kernel
theorem app_len (x y : Str) : (x ++ y).length = x.length + y.length := by
  rw [sg_len, sg_len, sg_len, sg_app, List.length_append]
theorem tx_len (l : List Nat) : (tx l).length = l.length := by rw [sg_len, sg_tx]
theorem eq_tx {x : Str} {l : List Nat} (h : sg x = l) : x = tx l := by rw [← h, tx_sg]
theorem joinL_nil : ∀ l : List (List Nat), TL.joinL [] l = l.flatten
  | [] => rfl
  | [p] => by simp [TL.joinL]
  | p :: q :: r => by
    show p ++ ([] ++ TL.joinL [] (q :: r)) = _
    rw [joinL_nil (q :: r)] <;> rfl
theorem joinL_one (c : Nat) : ∀ (l : List (List Nat)) (p : List Nat), TL.joinL [c] (p :: l) = p ++ (l.map fun y => c :: y).flatten
  | [], p => by simp [TL.joinL]
  | q :: r, p => by
    show p ++ ([c] ++ TL.joinL [c] (q :: r)) = _
    rw [joinL_one c r q] <;> rfl
theorem sg_join0 (ys : List Str) : sg (Txt.join "" ys) = (ys.map sg).flatten := by
  rw [TL.join_eq]
  show TL.tl (Str.join _ ys) = _
  rw [TL.tl_join]
  have e : TL.tl ("" : Str) = [] := by decide +kernel
  rw [e]
  exact joinL_nil _
theorem sg_join1 (z p : Str) (c : Nat) (hz : sg z = [c]) (ys : List Str) : sg (Txt.join z (p :: ys)) = sg p ++ (ys.map fun y => c :: sg y).flatten := by
  rw [TL.join_eq]
  show TL.tl (Str.join _ (p :: ys)) = _
  rw [TL.tl_join]
  have e : TL.tl z = [c] := hz
  rw [e, List.map_cons, joinL_one, List.map_map] <;> rfl
theorem cutS_to (z : Str) (k : Nat) : sg (cutS z none (some (k : Int))) = (sg z).take k := by
  unfold cutS
  rw [HT.sIx_none, HT.sIx_nat]
  show ((sg z).drop 0).take (min k z.length - 0) = _
  rw [List.drop_zero, Nat.sub_zero, sg_len]
  by_cases h : k ≤ (sg z).length
  · rw [Nat.min_eq_left h]
  · rw [Nat.min_eq_right (by omega), List.take_of_length_le (Nat.le_refl _), List.take_of_length_le (by omega)]
theorem cutS_from (z : Str) (k : Nat) : sg (cutS z (some (k : Int)) none) = (sg z).drop k := by
  unfold cutS
  rw [HT.sIx_none, HT.sIx_nat]
  show ((sg z).drop (min k z.length)).take (z.length - min k z.length) = _
  rw [sg_len]
  by_cases h : k ≤ (sg z).length
  · rw [Nat.min_eq_left h, List.take_of_length_le (by rw [List.length_drop]; exact Nat.le_refl _)]
  · rw [Nat.min_eq_right (by omega), List.drop_eq_nil_of_le (Nat.le_refl _), List.drop_eq_nil_of_le (by omega), List.take_nil]
theorem log_small {i : Int} (h : i.natAbs ≤ 1000) : i.natAbs.log2 < 1920 := by
  have := Nat.log2_le_self i.natAbs
  omega
/-- the word of a comparer, a blank ahead -/
def wordT (c : Cmp) : Str := tx (32 :: cmpT c)
theorem cmp_len (c : Cmp) : (cmpT c).length ≤ 5 := by
  unfold cmpT
  rw [List.length_append, List.length_cons]
  have := num_len c.1
  have := num_len c.2
  omega
theorem tail_len (cs : List Cmp) : (tailT cs).length ≤ 6 * cs.length := by
  unfold tailT
  induction cs with
  | nil => simp
  | cons c cs ih =>
    rw [List.map_cons, List.flatten_cons, List.length_append, List.length_cons, List.length_cons]
    have := cmp_len c
    omega
theorem web_len (n : Nat) (cs : List Cmp) : (webTx n cs).length ≤ 3 + 6 * cs.length := by
  unfold webTx webT
  rw [tx_len, List.length_append, List.length_cons]
  have := num_len n
  have := tail_len cs
  omega
theorem join_words (cs : List Cmp) : sg (Txt.join "" (cs.map wordT)) = tailT cs := by
  rw [sg_join0, List.map_map] <;> rfl
theorem lens_words (cs : List Cmp) : ((cs.map wordT).map (·.length)).sum ≤ 6 * cs.length := by
  induction cs with
  | nil => simp
  | cons c cs ih =>
    rw [List.map_cons, List.map_cons, List.sum_cons, List.length_cons]
    have e : (wordT c).length ≤ 6 := by
      unfold wordT
      rw [tx_len, List.length_cons]
      have := cmp_len c
      omega
    omega
/-- f" {a}-{b}" -/
theorem word_eq {a b : Nat} (ha : a ≤ 10) (hb : b ≤ 10) (s1 s2 : Str) (h1 : sg s1 = [32]) (h2 : sg s2 = [45]) : Str.empty ++ s1 ++ Str.ofString (toString (a : Int)) ++ s2 ++ Str.ofString (toString (b : Int)) = wordT (a, b) := by
  refine eq_tx ?_
  rw [sg_app, sg_app, sg_app, sg_app, sg_nil, h1, h2, num_str a ha, num_str b hb]
  show [] ++ [32] ++ numT a ++ [45] ++ numT b = 32 :: (numT a ++ 45 :: numT b)
  simp
theorem sg_num {a : Nat} (ha : a ≤ 10) : (Str.ofString (toString (a : Int))).length ≤ 2 := by
  rw [sg_len, num_str a ha]
  exact num_len a
end Sw

set_option Elab.async false
set_option linter.all false
set_option maxRecDepth 100000
set_option maxHeartbeats 4000000
namespace Sw
open PySem PySem.Spec PyProof.Rows L2
/-! ## Walks, once what is walked is at hand -/
def LcK (g : TG) (tt : TT) (te : TE) (vs : List Nat) (σ : L2.St) (Q : VK) : It → Hp → Prop := fun J H1 => tLc (fun _ _ R => R J H1) g tt te vs σ H1 Q
theorem lc_def (wi : TI) (g : TG) (tt : TT) (te : TE) (vs : List Nat) (σ : L2.St) (H : Hp) (Q : VK) : tLc wi g tt te vs σ H Q = wi σ H (LcK g tt te vs σ Q) := rfl
def ForK (g : TG) (tb : TS) (D : Ends) (σ : L2.St) : It → Hp → Prop := fun J H1 => tFor (fun _ _ R => R J H1) g tb D σ H1
theorem for_def (wi : TI) (g : TG) (tb : TS) (D : Ends) (σ : L2.St) (H : Hp) : tFor wi g tb D σ H = wi σ H (ForK g tb D σ) := rfl
section
variable {K : PySem.W.Frag} {σ : L2.St} {H : Hp} {te : TE} {tb : TS} {D : Ends} {a : Addr} {xs : List V} {j1 j2 : Nat} {Q : VK}
theorem lck_list {tt : TT} {vs : List Nat} (hx : SqL K H a xs) (hvs : ∀ v, wipe ((wipe σ vs).set j1 v) vs = wipe σ vs)
    (G : Addr → Nat → List V → Hp → Prop) (h0 : ∀ D, H D = none → G D 0 [] (upd H D (.lst []))) (hl : ∀ D i acc H', H D = none → G D i acc H' → SqL K H' a xs)
    (turn : ∀ D i x acc H', H D = none → xs[i]? = some x → i < xs.length → H' D = some (.lst acc) → G D i acc H' → Turn tt te D (G D) i ((wipe σ vs).set j1 (some x)) H')
    (done : ∀ D acc H', H D = none → H' D = some (.lst acc) → G D xs.length acc H' → Q (.ref D) H') : LcK (gName j1) tt te vs σ Q (Itl K a) H := by
  refine fun D nD => it_lc (n := xs.length) (So D (G D)) ⟨[], upd_same, h0 D nD⟩ (fun i H' hi p => ?_) (fun H' p => ?_) (fun i H' hi p v H2 y => ?_) (fun H' p => ?_)
  · obtain ⟨acc, _, g⟩ := p
    obtain ⟨x, hx⟩ := get_of hi
    exact ⟨_, x, hl D _ _ _ nD g, hx⟩
  · obtain ⟨acc, _, g⟩ := p
    exact ⟨_, hl D _ _ _ nD g, Nat.le_refl _⟩
  · obtain ⟨acc, hD, g⟩ := p
    obtain ⟨rfl, f⟩ := y
    exact ⟨hvs _, turn D i v acc H2 nD (f _ (hl D _ _ _ nD g)) hi hD g⟩
  · obtain ⟨acc, hD, g⟩ := p
    exact done D acc H' nD hD g
theorem lck_tup {tt : TT} {vs : List Nat} (hx : SqT K H a xs) (hvs : ∀ v, wipe ((wipe σ vs).set j1 v) vs = wipe σ vs)
    (G : Addr → Nat → List V → Hp → Prop) (h0 : ∀ D, H D = none → G D 0 [] (upd H D (.lst []))) (hl : ∀ D i acc H', H D = none → G D i acc H' → SqT K H' a xs)
    (turn : ∀ D i x acc H', H D = none → xs[i]? = some x → i < xs.length → H' D = some (.lst acc) → G D i acc H' → Turn tt te D (G D) i ((wipe σ vs).set j1 (some x)) H')
    (done : ∀ D acc H', H D = none → H' D = some (.lst acc) → G D xs.length acc H' → Q (.ref D) H') : LcK (gName j1) tt te vs σ Q (Itt K a) H := by
  refine fun D nD => it_lc (n := xs.length) (So D (G D)) ⟨[], upd_same, h0 D nD⟩ (fun i H' hi p => ?_) (fun H' p => ?_) (fun i H' hi p v H2 y => ?_) (fun H' p => ?_)
  · obtain ⟨acc, _, g⟩ := p
    obtain ⟨x, hx⟩ := get_of hi
    exact ⟨_, x, hl D _ _ _ nD g, hx⟩
  · obtain ⟨acc, _, g⟩ := p
    exact ⟨_, hl D _ _ _ nD g, Nat.le_refl _⟩
  · obtain ⟨acc, hD, g⟩ := p
    obtain ⟨rfl, f⟩ := y
    exact ⟨hvs _, turn D i v acc H2 nD (f _ (hl D _ _ _ nD g)) hi hD g⟩
  · obtain ⟨acc, hD, g⟩ := p
    exact done D acc H' nD hD g
theorem lck_str {tt : TT} {vs : List Nat} {z : Str} (hvs : ∀ v, wipe ((wipe σ vs).set j1 v) vs = wipe σ vs)
    (G : Addr → Nat → List V → Hp → Prop) (h0 : ∀ D, H D = none → G D 0 [] (upd H D (.lst [])))
    (turn : ∀ D i c acc H', H D = none → (sg z)[i]? = some c → i < (sg z).length → H' D = some (.lst acc) → G D i acc H' → Turn tt te D (G D) i ((wipe σ vs).set j1 (some (.str ⟨#[c]⟩))) H')
    (done : ∀ D acc H', H D = none → H' D = some (.lst acc) → G D (sg z).length acc H' → Q (.ref D) H') : LcK (gName j1) tt te vs σ Q (Its z) H := by
  have size : z.cps.size = (sg z).length := by
    show _ = z.cps.toList.length
    rw [Array.length_toList]
  refine fun D nD => it_lc (n := (sg z).length) (So D (G D)) ⟨[], upd_same, h0 D nD⟩ (fun i H' hi p => ?_) (fun H' p => ?_) (fun i H' hi p v H2 y => ?_) (fun H' p => ?_)
  · show i < z.cps.size
    rw [size]
    exact hi
  · show z.cps.size ≤ (sg z).length
    rw [size]
    exact Nat.le_refl _
  · obtain ⟨acc, hD, g⟩ := p
    obtain ⟨rfl, c, hc, rfl⟩ := y
    refine ⟨hvs _, turn D i c acc H2 nD ?_ hi hD g⟩
    show z.cps.toList[i]? = some c
    rw [← hc]
    simp
  · obtain ⟨acc, hD, g⟩ := p
    exact done D acc H' nD hD g
theorem fork_list (hx : SqL K H a xs) (Pv : Nat → L2.St → Hp → Prop) (h0 : Pv 0 σ H) (hl : ∀ i σ H, i ≤ xs.length → Pv i σ H → SqL K H a xs)
    (turn : ∀ i x σ H, xs[i]? = some x → i < xs.length → Pv i σ H → tb { D with nx := Pv (i + 1), ct := Pv (i + 1), bk := D.nx } (σ.set j1 (some x)) H)
    (done : ∀ σ H, Pv xs.length σ H → D.nx σ H) : ForK (gName j1) tb D σ (Itl K a) H := by
  refine it_for (n := xs.length) Pv h0 (fun i σ H hi p => ?_) (fun σ H p => ?_) (fun i σ H hi p v H' y => ?_) done
  · obtain ⟨x, hx⟩ := get_of hi
    exact ⟨_, x, hl i σ H (Nat.le_of_lt hi) p, hx⟩
  · exact ⟨_, hl _ σ H (Nat.le_refl _) p, Nat.le_refl _⟩
  · obtain ⟨rfl, f⟩ := y
    exact turn i v σ H' (f _ (hl i σ H' (Nat.le_of_lt hi) p)) hi p
theorem fork_tup (hx : SqT K H a xs) (Pv : Nat → L2.St → Hp → Prop) (h0 : Pv 0 σ H) (hl : ∀ i σ H, i ≤ xs.length → Pv i σ H → SqT K H a xs)
    (turn : ∀ i x σ H, xs[i]? = some x → i < xs.length → Pv i σ H → tb { D with nx := Pv (i + 1), ct := Pv (i + 1), bk := D.nx } (σ.set j1 (some x)) H)
    (done : ∀ σ H, Pv xs.length σ H → D.nx σ H) : ForK (gName j1) tb D σ (Itt K a) H := by
  refine it_for (n := xs.length) Pv h0 (fun i σ H hi p => ?_) (fun σ H p => ?_) (fun i σ H hi p v H' y => ?_) done
  · obtain ⟨x, hx⟩ := get_of hi
    exact ⟨_, x, hl i σ H (Nat.le_of_lt hi) p, hx⟩
  · exact ⟨_, hl _ σ H (Nat.le_refl _) p, Nat.le_refl _⟩
  · obtain ⟨rfl, f⟩ := y
    exact turn i v σ H' (f _ (hl i σ H' (Nat.le_of_lt hi) p)) hi p
end
/-! ## isinstance -/
theorem tyx_tup {K : PySem.W.Frag} {H : Hp} {p : Addr} {xs : List V} (h : SqT K H p xs) : TyX K H (.ref p) (.type "tuple") := by
  rcases h with (h | ⟨o, h⟩) | ⟨o, its, n, h, hc, _⟩
  · exact .base (.tup h)
  · exact .fTuple h
  · exact .kTuple h hc
theorem tyx_lst {K : PySem.W.Frag} {H : Hp} {p : Addr} {xs : List V} (h : SqL K H p xs) : TyX K H (.ref p) (.type "list") := by
  rcases h with (h | ⟨o, h⟩) | ⟨o, its, n, h, hc, _⟩
  · exact .base (.lst h)
  · exact .base (.frz h)
  · exact .kList h hc
/-- isinstance(x, T), T a built-in type -/
theorem isk_ty {K : PySem.W.Frag} {H : Hp} {x : V} {t T : String} {b : Bool} {Q : VK} (h : TyX K H x (.type t)) (e : kitB t T = some b) (q : Q (.bl b) H) : rIsK K [x, .ty T] H Q :=
  .inl ⟨x, .ty T, .type t, .type T, b, rfl, .ty _, h, kit_ty e, q⟩
end Sw

set_option Elab.async false
set_option linter.all false
set_option maxRecDepth 100000
set_option maxHeartbeats 4000000
namespace Sw
open PySem PySem.Spec PyProof.Rows L2
/-! ## What the head is asked of errors that are kept -/
/-- the law's words for errors -/
def errWs : List (Str × Str) := [("BadLines", "lines"), ("BadWeb", "web"), ("BadRow", "row"), ("BadPlace", "place"), ("BadOrder", "order"), ("BadText", "text"), ("NothingPut", "nothing")]
structure ErrF (K : PySem.W.Frag) : Prop where
  e : ∀ C u, (C, u) ∈ errWs → ExcC K (He.ga K C)
  k : ∀ C u D v, (C, u) ∈ errWs → (D, v) ∈ errWs → PySem.W.kitOne K (.ref (He.ga K C)) (.ref (He.ga K D)) = some (decide (C = D))
  n : ∀ D v, (D, v) ∈ errWs → PySem.W.kitOne K (.type "NoneType") (.ref (He.ga K D)) = some false
  v : ∀ C u, (C, u) ∈ errWs → PySem.W.kitOne K (.ref (He.ga K C)) (.type "ValueError") = some true
def excCB (K : PySem.W.Frag) (D : Addr) : Bool := decide (PySem.W.findIn K (.ref D) "__getattribute__" = some (some (.builtin "BaseException.__getattribute__"))) && (decide (PySem.W.findIn K (.ref D) "__getattr__" = some none) &&
  (decide (PySem.W.subIn K (.ref D) (.type "BaseException") = some true) && (PySem.W.hasDictIn K D && (decide (PySem.W.findIn K (.ref D) "__class__" = some (some (.builtin "object.__class__"))) &&
    (decide (PySem.W.specialIn K (.builtin "object.__class__") "__get__" = some (some (.builtin "getset_descriptor.__get__"))) && (decide (PySem.W.takesIn K (.builtin "object.__class__") = some true) && decide (PySem.W.mroIn K D (.type "object") = some true)))))))
theorem excCB_ok {K : PySem.W.Frag} {D : Addr} (h : excCB K D = true) : ExcC K D := by
  unfold excCB at h
  obtain ⟨h1, h⟩ := He.ba h
  obtain ⟨h2, h⟩ := He.ba h
  obtain ⟨h3, h⟩ := He.ba h
  obtain ⟨h4, h⟩ := He.ba h
  obtain ⟨h5, h⟩ := He.ba h
  obtain ⟨h6, h⟩ := He.ba h
  obtain ⟨h7, h8⟩ := He.ba h
  exact ⟨of_decide_eq_true h1, of_decide_eq_true h2, of_decide_eq_true h3, h4, of_decide_eq_true h5, of_decide_eq_true h6, of_decide_eq_true h7, of_decide_eq_true h8⟩
def errFB (K : PySem.W.Frag) : Bool := errWs.all fun p => excCB K (He.ga K p.1) && (decide (PySem.W.kitOne K (.type "NoneType") (.ref (He.ga K p.1)) = some false) && (decide (PySem.W.kitOne K (.ref (He.ga K p.1)) (.type "ValueError") = some true) &&
  errWs.all fun q => decide (PySem.W.kitOne K (.ref (He.ga K p.1)) (.ref (He.ga K q.1)) = some (decide (p.1 = q.1)))))
theorem errFB_ok {K : PySem.W.Frag} (h : errFB K = true) : ErrF K := by
  have each : ∀ C u, (C, u) ∈ errWs → ExcC K (He.ga K C) ∧ PySem.W.kitOne K (.type "NoneType") (.ref (He.ga K C)) = some false ∧ PySem.W.kitOne K (.ref (He.ga K C)) (.type "ValueError") = some true ∧
      ∀ D v, (D, v) ∈ errWs → PySem.W.kitOne K (.ref (He.ga K C)) (.ref (He.ga K D)) = some (decide (C = D)) := fun C u hC => by
    have h0 := List.all_eq_true.mp h (C, u) hC
    obtain ⟨h1, h0⟩ := He.ba h0
    obtain ⟨h2, h0⟩ := He.ba h0
    obtain ⟨h3, h4⟩ := He.ba h0
    exact ⟨excCB_ok h1, of_decide_eq_true h2, of_decide_eq_true h3, fun D v hD => of_decide_eq_true (List.all_eq_true.mp h4 (D, v) hD)⟩
  exact ⟨fun C u h => (each C u h).1, fun C u D v h h2 => (each C u h).2.2.2 D v h2, fun D v h => (each D v h).2.1, fun C u h => (each C u h).2.2.1⟩
theorem cls_of {fa : List He.Fa} {fn : List He.DefD} {ex : PySem.W.Frag → Bool} {h : Heap} {K : PySem.W.Frag} {mg : Str → Option Value} (c : SaysZ fa fn ex K) (X : K.In h) (G : h.Ns mainGlobals mg) {x : Str} (j : Nat) (hj : fa[j]? = some (.glo x)) : mg x = some (.ref (He.ga K x)) := He.glo_ok X G (c.d.fact j hj)
end Sw

set_option Elab.async false
set_option linter.all false
set_option maxRecDepth 100000
set_option maxHeartbeats 4000000
namespace Sw
open PySem PySem.Spec PyProof.Rows L2
/-! ## Noughts and ones stand for all numbers -/
def Mono (f : Int → Int) : Prop := ∀ x y, x ≤ y → f x ≤ f y
theorem at0_map {r : Row} {f : Int → Int} {k : Nat} (h : k < r.length) : at0 (r.map f) k = f (at0 r k) := by
  unfold at0
  rw [List.getD_eq_getElem?_getD, List.getD_eq_getElem?_getD, List.getElem?_map, List.getElem?_eq_getElem h] <;> rfl
theorem at0_get {r : Row} {k : Nat} (h : k < r.length) : r[k]? = some (at0 r k) := by
  unfold at0
  rw [List.getD_eq_getElem?_getD, List.getElem?_eq_getElem h] <;> rfl
theorem set_at0' {r : Row} {k : Nat} : r.set k (at0 r k) = r := by
  by_cases h : k < r.length
  · have e : at0 r k = r[k] := by
      unfold at0
      rw [List.getD_eq_getElem?_getD, List.getElem?_eq_getElem h] <;> rfl
    rw [e, List.set_getElem_self]
  · rw [List.set_eq_of_length_le (by omega)]
theorem goC_map {n : Nat} {r : Row} {c : Cmp} {f : Int → Int} (hf : Mono f) (ok : CmpOk n c) (hr : r.length = n) : goC (r.map f) c = (goC r c).map f := by
  have h1 : at0 (r.map f) c.1 = f (at0 r c.1) := at0_map (by rw [hr]; exact ok.1)
  have h2 : at0 (r.map f) c.2 = f (at0 r c.2) := at0_map (by rw [hr]; exact ok.2.1)
  unfold goC
  rw [h1, h2]
  by_cases g : at0 r c.1 > at0 r c.2
  · rw [if_pos g, List.map_set, List.map_set]
    by_cases g2 : f (at0 r c.1) > f (at0 r c.2)
    · rw [if_pos g2]
    · rw [if_neg g2]
      have e : f (at0 r c.1) = f (at0 r c.2) := by
        have := hf _ _ (show at0 r c.2 ≤ at0 r c.1 by omega)
        omega
      rw [e, ← h2]
      have e1 : (r.map f).set c.1 (at0 (r.map f) c.2) = r.map f := by
        rw [h2, ← e, ← h1, set_at0']
      rw [e1, set_at0']
  · rw [if_neg g]
    have := hf _ _ (show at0 r c.1 ≤ at0 r c.2 by omega)
    rw [if_neg (by omega)]
theorem gone_map {n : Nat} {f : Int → Int} (hf : Mono f) : ∀ (cs : List Cmp) (r : Row), CmpsOk n cs → r.length = n → gone cs (r.map f) = (gone cs r).map f
  | [], _, _, _ => rfl
  | c :: cs, r, ok, hr => by
    show gone cs (goC (r.map f) c) = (gone cs (goC r c)).map f
    rw [goC_map hf (ok c List.mem_cons_self) hr]
    exact gone_map hf cs (goC r c) (fun d hd => ok d (List.mem_cons_of_mem _ hd)) (by rw [goC_len, hr])
/-- one from t on -/
def thr (t x : Int) : Int := if t ≤ x then 1 else 0
theorem thr_mono (t : Int) : Mono (thr t) := fun x y h => by
  unfold thr
  split <;> split <;> omega
theorem thr_bit (t x : Int) : thr t x = 0 ∨ thr t x = 1 := by
  unfold thr
  split
  · exact .inr rfl
  · exact .inl rfl
def bareR (n m : Nat) : Row := (List.range n).map fun k => ((m / 2 ^ k % 2 : Nat) : Int)
def bares (n : Nat) : List Row := (List.range (2 ^ n)).map (bareR n)
def Bits (r : Row) : Prop := ∀ x ∈ r, x = 0 ∨ x = 1
theorem bareR_len (n m : Nat) : (bareR n m).length = n := by
  unfold bareR
  rw [List.length_map, List.length_range]
theorem bareR_succ (n m : Nat) : bareR (n + 1) m = ((m % 2 : Nat) : Int) :: bareR n (m / 2) := by
  unfold bareR
  rw [List.range_succ_eq_map, List.map_cons, List.map_map]
  congr 1
  · rw [Nat.pow_zero, Nat.div_one]
  · apply List.map_congr_left
    intro k _
    show ((m / 2 ^ (k + 1) % 2 : Nat) : Int) = _
    rw [Nat.pow_succ, Nat.mul_comm, ← Nat.div_div_eq_div_mul]
theorem bits_bare : ∀ (r : Row), Bits r → ∃ m, m < 2 ^ r.length ∧ bareR r.length m = r
  | [], _ => ⟨0, by decide, rfl⟩
  | x :: r, h => by
    obtain ⟨m, hm, e⟩ := bits_bare r fun y hy => h y (List.mem_cons_of_mem _ hy)
    have p : 2 ^ (r.length + 1) = 2 * 2 ^ r.length := by rw [Nat.pow_succ, Nat.mul_comm]
    rcases h x List.mem_cons_self with hx | hx
    · refine ⟨2 * m, ?_, ?_⟩
      · rw [List.length_cons, p]
        omega
      · rw [List.length_cons, bareR_succ, show 2 * m / 2 = m by omega, show 2 * m % 2 = 0 by omega, e, hx] <;> rfl
    · refine ⟨2 * m + 1, ?_, ?_⟩
      · rw [List.length_cons, p]
        omega
      · rw [List.length_cons, bareR_succ, show (2 * m + 1) / 2 = m by omega, show (2 * m + 1) % 2 = 1 by omega, e, hx] <;> rfl
theorem bits_mem {r : Row} {n : Nat} (h : Bits r) (hr : r.length = n) : r ∈ bares n := by
  subst hr
  obtain ⟨m, hm, e⟩ := bits_bare r h
  exact List.mem_map.mpr ⟨m, List.mem_range.mpr hm, e⟩
theorem bares_ok {n : Nat} {r : Row} (h : r ∈ bares n) : r.length = n ∧ Bits r := by
  obtain ⟨m, _, rfl⟩ := List.mem_map.mp h
  refine ⟨bareR_len n m, fun x hx => ?_⟩
  obtain ⟨k, _, rfl⟩ := List.mem_map.mp hx
  have : m / 2 ^ k % 2 = 0 ∨ m / 2 ^ k % 2 = 1 := by omega
  rcases this with h | h <;> rw [h]
  · exact .inl rfl
  · exact .inr rfl
theorem thr_bare {r : Row} {n : Nat} (t : Int) (hr : r.length = n) : r.map (thr t) ∈ bares n := by
  refine bits_mem (fun x hx => ?_) (by rw [List.length_map, hr])
  obtain ⟨y, _, rfl⟩ := List.mem_map.mp hx
  exact thr_bit t y
/-- in order -/
abbrev Srt (r : Row) : Prop := r.Pairwise (· ≤ ·)
theorem zero_one {n : Nat} {cs : List Cmp} (ok : CmpsOk n cs) (h : ∀ r ∈ bares n, Srt (gone cs r)) {r : Row} (hr : r.length = n) : Srt (gone cs r) := by
  rw [Srt, List.pairwise_iff_getElem]
  intro i j hi hj hij
  by_cases g : (gone cs r)[i] ≤ (gone cs r)[j]
  · exact g
  · exfalso
    have hb := h _ (thr_bare (gone cs r)[i] hr)
    rw [gone_map (thr_mono _) cs r ok hr, Srt, List.pairwise_iff_getElem] at hb
    have := hb i j (by rw [List.length_map]; exact hi) (by rw [List.length_map]; exact hj) hij
    rw [List.getElem_map, List.getElem_map] at this
    unfold thr at this
    rw [if_pos (Int.le_refl _), if_neg (by omega)] at this
    omega
theorem zero_one_eq {n : Nat} {cs ds : List Cmp} (ok : CmpsOk n cs) (ok2 : CmpsOk n ds) (h : ∀ r ∈ bares n, gone cs r = gone ds r) {r : Row} (hr : r.length = n) : gone cs r = gone ds r := by
  apply List.ext_getElem
  · rw [gone_len, gone_len]
  · intro i hi hj
    have key : ∀ t, thr t (gone cs r)[i] = thr t (gone ds r)[i] := fun t => by
      have hb := h _ (thr_bare t hr)
      rw [gone_map (thr_mono _) cs r ok hr, gone_map (thr_mono _) ds r ok2 hr] at hb
      have := congrArg (fun l => l[i]?) hb
      simp only [List.getElem?_map, List.getElem?_eq_getElem hi, List.getElem?_eq_getElem hj, Option.map_some] at this
      exact Option.some.inj this
    have k1 := key (gone cs r)[i]
    have k2 := key (gone ds r)[i]
    unfold thr at k1 k2
    rw [if_pos (Int.le_refl _)] at k1
    rw [if_pos (Int.le_refl _)] at k2
    split at k1
    · split at k2
      · omega
      · cases k2
    · cases k1
/-- where a comparer exchanges some row, it exchanges one of noughts and ones -/
theorem zero_one_stir {n k : Nat} {cs : List Cmp} {c : Cmp} (ok : CmpsOk n cs) (hc : CmpOk n c) {r : Row} (hr : r.length = n) (g : at0 (gone (cs.take k) r) c.1 > at0 (gone (cs.take k) r) c.2) :
    ∃ b ∈ bares n, at0 (gone (cs.take k) b) c.1 > at0 (gone (cs.take k) b) c.2 := by
  refine ⟨_, thr_bare (at0 (gone (cs.take k) r) c.1) hr, ?_⟩
  have okt : CmpsOk n (cs.take k) := fun d hd => ok d (List.mem_of_mem_take hd)
  have hl : (gone (cs.take k) r).length = n := by rw [gone_len, hr]
  rw [gone_map (thr_mono _) _ r okt hr, at0_map (by rw [hl]; exact hc.1), at0_map (by rw [hl]; exact hc.2.1)]
  unfold thr
  rw [if_pos (Int.le_refl _), if_neg (by omega)]
  decide
/-- numbers laid upon noughts and ones go as these -/
theorem laid_goes {n : Nat} {cs : List Cmp} {t : Int} (ok : CmpsOk n cs) {r b : Row} (hr : r.length = n) (e : r.map (thr t) = b) : gone cs b = (gone cs r).map (thr t) := by
  rw [← e, gone_map (thr_mono _) cs r ok hr]
end Sw

set_option Elab.async false
set_option linter.all false
set_option maxRecDepth 100000
set_option maxHeartbeats 4000000
namespace Sw
open PySem PySem.Spec PyProof.Rows L2
/-! ## Layers -/
/-- two comparers with a line in common -/
def share (c d : Cmp) : Bool := decide (c.1 = d.1 ∨ c.1 = d.2 ∨ c.2 = d.1 ∨ c.2 = d.2)
abbrev Hgt := Nat → Nat
def tierH (h : Hgt) (c : Cmp) : Nat := max (h c.1) (h c.2)
def stepH (h : Hgt) (c : Cmp) : Hgt := fun l => if l = c.1 ∨ l = c.2 then tierH h c + 1 else h l
/-- the layer of each comparer, by heights of lines -/
def tiersH : Hgt → List Cmp → List Nat
  | _, [] => []
  | h, c :: cs => tierH h c :: tiersH (stepH h c) cs
def hgtH : Hgt → List Cmp → Hgt
  | h, [] => h
  | h, c :: cs => hgtH (stepH h c) cs
def tiers (cs : List Cmp) : List Nat := tiersH (fun _ => 0) cs
theorem tiersH_len : ∀ (h : Hgt) (cs : List Cmp), (tiersH h cs).length = cs.length
  | _, [] => rfl
  | h, c :: cs => by
    show (tiersH (stepH h c) cs).length + 1 = _
    rw [tiersH_len] <;> rfl
theorem tiersH_app : ∀ (h : Hgt) (cs ds : List Cmp), tiersH h (cs ++ ds) = tiersH h cs ++ tiersH (hgtH h cs) ds
  | _, [], _ => rfl
  | h, c :: cs, ds => by
    show tierH h c :: tiersH (stepH h c) (cs ++ ds) = _
    rw [tiersH_app (stepH h c) cs ds] <;> rfl
theorem hgtH_app : ∀ (h : Hgt) (cs ds : List Cmp), hgtH h (cs ++ ds) = hgtH (hgtH h cs) ds
  | _, [], _ => rfl
  | h, c :: cs, ds => hgtH_app (stepH h c) cs ds
theorem tiersH_take (h : Hgt) (cs : List Cmp) (i : Nat) : tiersH h (cs.take i) = (tiersH h cs).take i := by
  have e := tiersH_app h (cs.take i) (cs.drop i)
  rw [List.take_append_drop] at e
  by_cases hi : i ≤ cs.length
  · have l1 : (tiersH h (cs.take i)).length = i := by
      rw [tiersH_len, List.length_take]
      omega
    rw [e, List.take_left' l1]
  · rw [List.take_of_length_le (show cs.length ≤ i by omega), List.take_of_length_le (by rw [tiersH_len]; omega)]
theorem snocInd {α : Type} {P : List α → Prop} (h0 : P []) (h1 : ∀ l a, P l → P (l ++ [a])) (l : List α) : P l := by
  rw [← List.reverse_reverse l]
  induction l.reverse with
  | nil => exact h0
  | cons a r ih =>
    rw [List.reverse_cons]
    exact h1 _ _ ih
theorem tiers_get {cs : List Cmp} {i : Nat} {c : Cmp} (h : cs[i]? = some c) : (tiers cs)[i]? = some (tierH (hgtH (fun _ => 0) (cs.take i)) c) := by
  have hi : i < cs.length := (List.getElem?_eq_some_iff.mp h).1
  have e : cs = cs.take i ++ c :: cs.drop (i + 1) := by
    have := List.getElem?_eq_some_iff.mp h
    obtain ⟨_, hc⟩ := this
    rw [← hc, List.getElem_cons_drop, List.take_append_drop]
  have e2 : tiers cs = tiersH (fun _ => 0) (cs.take i) ++ tierH (hgtH (fun _ => 0) (cs.take i)) c :: tiersH (stepH (hgtH (fun _ => 0) (cs.take i)) c) (cs.drop (i + 1)) := by
    unfold tiers
    conv => lhs; rw [e, tiersH_app]
    rfl
  rw [e2, List.getElem?_append_right (by rw [tiersH_len, List.length_take]; omega), tiersH_len, List.length_take, Nat.min_eq_left (by omega), Nat.sub_self] <;> rfl
/-- a line's height: one above the highest of those that touch it -/
theorem hgt_spec : ∀ (cs : List Cmp) (l : Nat), (∀ (i : Nat) (c : Cmp), cs[i]? = some c → (c.1 = l ∨ c.2 = l) → ∀ t, (tiers cs)[i]? = some t → t + 1 ≤ hgtH (fun _ => 0) cs l) ∧
    (hgtH (fun _ => 0) cs l = 0 ∨ ∃ (i : Nat) (c : Cmp) (t : Nat), cs[i]? = some c ∧ (c.1 = l ∨ c.2 = l) ∧ (tiers cs)[i]? = some t ∧ hgtH (fun _ => 0) cs l = t + 1) := by
  intro cs
  induction cs using snocInd with
  | h0 => exact fun l => ⟨(fun i c h => nomatch h), .inl rfl⟩
  | h1 cs d ih =>
    intro l
    obtain ⟨ih1, ih2⟩ := ih l
    have eh : hgtH (fun _ => 0) (cs ++ [d]) = stepH (hgtH (fun _ => 0) cs) d := by rw [hgtH_app] <;> rfl
    have et : tiers (cs ++ [d]) = tiers cs ++ [tierH (hgtH (fun _ => 0) cs) d] := by
      unfold tiers
      rw [tiersH_app] <;> rfl
    have tl : (tiers cs).length = cs.length := tiersH_len _ _
    rw [eh, et]
    have low : hgtH (fun _ => 0) cs l ≤ stepH (hgtH (fun _ => 0) cs) d l := by
      unfold stepH
      split
      · rename_i h
        unfold tierH
        rcases h with h | h <;> rw [h] <;> omega
      · exact Nat.le_refl _
    constructor
    · intro i c hc ht t gt
      by_cases hi : i < cs.length
      · rw [List.getElem?_append_left hi] at hc
        rw [List.getElem?_append_left (by rw [tl]; exact hi)] at gt
        exact Nat.le_trans (ih1 i c hc ht t gt) low
      · have hl := (List.getElem?_eq_some_iff.mp hc).1
        rw [List.length_append, List.length_singleton] at hl
        have ei : i = cs.length := by omega
        subst ei
        rw [List.getElem?_append_right (Nat.le_refl _), Nat.sub_self] at hc
        rw [List.getElem?_append_right (by rw [tl]; exact Nat.le_refl _), tl, Nat.sub_self] at gt
        have e1 : d = c := Option.some.inj hc
        have e2 : tierH (hgtH (fun _ => 0) cs) d = t := Option.some.inj gt
        subst e1
        unfold stepH
        rw [if_pos (by rcases ht with h | h <;> simp [h]), e2]
        exact Nat.le_refl _
    · by_cases hd : l = d.1 ∨ l = d.2
      · refine .inr ⟨cs.length, d, tierH (hgtH (fun _ => 0) cs) d, ?_, ?_, ?_, ?_⟩
        · rw [List.getElem?_append_right (Nat.le_refl _), Nat.sub_self] <;> rfl
        · rcases hd with h | h
          · exact .inl h.symm
          · exact .inr h.symm
        · rw [List.getElem?_append_right (by rw [tl]; exact Nat.le_refl _), tl, Nat.sub_self] <;> rfl
        · unfold stepH
          rw [if_pos hd]
      · have es : stepH (hgtH (fun _ => 0) cs) d l = hgtH (fun _ => 0) cs l := by
          unfold stepH
          rw [if_neg hd]
        rw [es]
        rcases ih2 with h | ⟨i, c, t, h1, h2, h3, h4⟩
        · exact .inl h
        · have hi := (List.getElem?_eq_some_iff.mp h1).1
          exact .inr ⟨i, c, t, by rw [List.getElem?_append_left hi]; exact h1, h2, by rw [List.getElem?_append_left (by rw [tl]; exact hi)]; exact h3, h4⟩
/-- neighbours without a common line -/
theorem stepH_comm {h : Hgt} {c d : Cmp} (s : share c d = false) : tierH (stepH h c) d = tierH h d ∧ stepH (stepH h c) d = stepH (stepH h d) c := by
  unfold share at s
  have n := of_decide_eq_false s
  have n1 : c.1 ≠ d.1 := fun z => n (.inl z)
  have n2 : c.1 ≠ d.2 := fun z => n (.inr (.inl z))
  have n3 : c.2 ≠ d.1 := fun z => n (.inr (.inr (.inl z)))
  have n4 : c.2 ≠ d.2 := fun z => n (.inr (.inr (.inr z)))
  have a1 : tierH (stepH h c) d = tierH h d := by
    unfold tierH stepH
    rw [if_neg (fun z => by rcases z with z | z <;> simp_all), if_neg (fun z => by rcases z with z | z <;> simp_all)]
  have a2 : tierH (stepH h d) c = tierH h c := by
    unfold tierH stepH
    rw [if_neg (fun z => by rcases z with z | z <;> simp_all), if_neg (fun z => by rcases z with z | z <;> simp_all)]
  refine ⟨a1, ?_⟩
  funext l
  show (if l = d.1 ∨ l = d.2 then tierH (stepH h c) d + 1 else stepH h c l) = (if l = c.1 ∨ l = c.2 then tierH (stepH h d) c + 1 else stepH h d l)
  rw [a1, a2]
  unfold stepH
  by_cases h1 : l = d.1 ∨ l = d.2
  · have h2 : ¬ (l = c.1 ∨ l = c.2) := fun z => by
      rcases h1 with h1 | h1 <;> rcases z with z | z <;> simp_all
    rw [if_pos h1, if_neg h2, if_pos h1]
  · rw [if_neg h1, if_neg h1]
/-- the comparers of one layer -/
def layerOf (cs : List Cmp) (ts : List Nat) (t : Nat) : List Cmp := ((cs.zip ts).filter fun p => p.2 == t).map (·.1)
theorem share_comm (c d : Cmp) : share c d = share d c := by
  unfold share
  exact decide_eq_decide.mpr ⟨fun h => by rcases h with h | h | h | h <;> simp [h], fun h => by rcases h with h | h | h | h <;> simp [h]⟩
theorem layer_swap (h : Hgt) (c d : Cmp) (cs : List Cmp) (s : share c d = false) (t : Nat) : (layerOf (c :: d :: cs) (tiersH h (c :: d :: cs)) t).Perm (layerOf (d :: c :: cs) (tiersH h (d :: c :: cs)) t) := by
  obtain ⟨a1, a3⟩ := stepH_comm (h := h) s
  obtain ⟨a2, _⟩ := stepH_comm (h := h) (c := d) (d := c) (by rw [share_comm]; exact s)
  have e1 : tiersH h (c :: d :: cs) = tierH h c :: tierH h d :: tiersH (stepH (stepH h c) d) cs := by
    show tierH h c :: tierH (stepH h c) d :: _ = _
    rw [a1]
  have e2 : tiersH h (d :: c :: cs) = tierH h d :: tierH h c :: tiersH (stepH (stepH h c) d) cs := by
    show tierH h d :: tierH (stepH h d) c :: tiersH (stepH (stepH h d) c) cs = _
    rw [a2, ← a3]
  rw [e1, e2]
  unfold layerOf
  simp only [List.zip_cons_cons, List.filter_cons]
  split <;> split
  · exact List.Perm.swap _ _ _
  · exact List.Perm.refl _
  · exact List.Perm.refl _
  · exact List.Perm.refl _
theorem layer_cons (h : Hgt) (c : Cmp) (cs : List Cmp) (t : Nat) : layerOf (c :: cs) (tiersH h (c :: cs)) t = (if tierH h c = t then [c] else []) ++ layerOf cs (tiersH (stepH h c) cs) t := by
  unfold layerOf
  show List.map _ (List.filter _ ((c, tierH h c) :: cs.zip (tiersH (stepH h c) cs))) = _
  rw [List.filter_cons]
  by_cases e : tierH h c = t
  · rw [if_pos (by simpa using e), if_pos e] <;> rfl
  · rw [if_neg (by simpa using e), if_neg e] <;> rfl
/-- exchanging neighbours without a common line keeps each layer's comparers -/
theorem layer_perm : ∀ (pre : List Cmp) (h : Hgt) (c d : Cmp) (cs : List Cmp) (t : Nat), share c d = false → (layerOf (pre ++ c :: d :: cs) (tiersH h (pre ++ c :: d :: cs)) t).Perm (layerOf (pre ++ d :: c :: cs) (tiersH h (pre ++ d :: c :: cs)) t)
  | [], h, c, d, cs, t, s => layer_swap h c d cs s t
  | p :: pre, h, c, d, cs, t, s => by
    rw [List.cons_append, List.cons_append, layer_cons, layer_cons]
    exact (List.Perm.refl _).append (layer_perm pre (stepH h p) c d cs t s)
end Sw

set_option Elab.async false
set_option linter.all false
set_option maxRecDepth 100000
set_option maxHeartbeats 4000000
namespace Sw
open PySem PySem.Spec PyProof.Rows L2
/-! ## len(set(x)), x a tuple of whole numbers -/
def tLenSetI (K : PySem.W.Frag) (ta : TE) : TE := fun σ H Q => ta σ H fun x H1 => ∃ (l : Addr) (ns : List Int), x = .ref l ∧ SqT K H1 l (ns.map V.int) ∧ ns.length ≤ 1000 ∧ ∀ ks : List Int, ks.Nodup → (∀ k, k ∈ ks ↔ k ∈ ns) → Q (.int ks.length) H1
section
variable {X : Cx}
theorem pe_lenSetI {a : Expr} {ta : TE} {p p2 q pos : Pos} (hc : X.calm = true) (hg : Gl X "len") (hm : X.mg "len" = none) (hg2 : Gl X "set") (hm2 : X.mg "set" = none) (ha : PE X a ta)
    (na : starEach [a] X.env = (false, eval a X.env) :: starEach [] X.env := by rfl) : PE X (.Call (.Name "len" p) [.Call (.Name "set" p2) [a] [] q] [] pos) (tLenSetI X.K ta) := by
  refine ⟨fun pins s σ H Q I h => Call_ (ld_blt I hg hm boot_len (PyProof.Rows.callWith_builtin1 (PyProof.Rows.args_cons ?_ rfl) rfl rfl))⟩
  refine Call_ (ld_blt I hg2 hm2 boot_set (PyProof.Rows.callWith_type1 (PyProof.Rows.args_cons (thn (ha.run pins s σ H _ I h) fun v s1 hv => PyProof.Rows.args_nil ?_) na) na rfl))
  obtain ⟨x, H1, I1, r1, l, ns, rfl, hq, few, q1⟩ := hv
  cases r1
  obtain ⟨its, rv, pt, _⟩ := I1.tuple hq
  refine call_set_tupI ns (I1.ok.hd hc) (show s1.heap.IsTuple l its.toArray from pt) (ints_of_vals rv) (by unfold scanBound; omega) fun g tk c R hcn k => ?_
  obtain ⟨o, es, ep, t, ho, hex, hdt, _, nd, mem, hb, hf, hn, _⟩ := R
  refine PyProof.Rows.args_nil ?_
  have I2 : Inv X pins σ H1 { s1 with heap := g, toks := tk } := I1.kept k
  refine call_len_set ho hex hdt hf (by rw [hn]; have := sizeLine_eq; omega) ⟨.int (es.toList.map keyOf).length, H1, I2.tok _, ⟨_, by rw [List.length_map, Array.length_toList]⟩, q1 _ nd fun j => ?_⟩
  rw [← mem j, decide_eq_true_eq]
theorem md_count : MtR X "list.count" (rCntI X.K) := mt_lcount
end
/-! ## x[::k] of a list, k one or one less than nought -/
theorem pick_one (items : Array Value) : slicePick items none none (some 1) = items := by
  have e : (sliceBounds none none (some 1) items.size) = (((0 : Nat) : Int), ((items.size : Nat) : Int), (1 : Int)) := by
    first
      | rfl
      | simp [sliceBounds]
  unfold slicePick
  rw [e]
  show ((sliceRange ((0 : Nat) : Int) ((items.size : Nat) : Int) 1).filterMap (items[·]?)).toArray = _
  rw [sliceRange_one, Nat.sub_zero]
  have e2 : (List.range items.size).map (0 + ·) = List.range items.size := by
    rw [show ((0 + ·) : Nat → Nat) = id from funext fun k => Nat.zero_add k, List.map_id]
  rw [e2, PySem.W.krv_all]
def tStepL (K : PySem.W.Frag) (te ts : TE) : TE := fun σ H Q => te σ H fun x H1 => tPart ts σ H1 fun o H4 => ∃ k : Int, o = some k ∧ ∃ (a : Addr) (xs : List V), x = .ref a ∧ SqL K H4 a xs ∧ (k = 1 ∨ k = -1) ∧ ∀ p, H4 p = none → Q (.ref p) (upd H4 p (.lst (if k = 1 then xs else xs.reverse)))
section
variable {X : Cx}
theorem pe_stepL {e es : Expr} {te ts : TE} {p3 pos : Pos} (he : PE X e te) (hs : PE X es ts) (hl : ∀ o i, subscripted (.Slice none none (some es) p3) false o i = operate [o, i] (getItem o i) := by intro _ _; with_unfolding_all rfl) :
    PE X (.Subscript e (.Slice none none (some es) p3) pos) (tStepL X.K te ts) := by
  refine ⟨fun pins s σ H Q I h => Subscript_ (thn (he.run pins s σ H _ I h) fun v s1 hv => ?_)⟩
  obtain ⟨x, H1, I1, r1, q1⟩ := hv
  have pst : PO X (some es) (tPart ts) := po_some hs
  refine wpAny_Slice (thn (po_none.run pins s1 σ H1 (fun o H2 => o = none ∧ H2 = H1) I1 ⟨rfl, rfl⟩) fun vl s2 hl2 => ?_)
  obtain ⟨l, H2, I2, pl, rfl, rfl⟩ := hl2
  refine thn (po_none.run pins s2 σ H2 (fun o H3 => o = none ∧ H3 = H2) I2 ⟨rfl, rfl⟩) fun vu s3 hu2 => ?_
  obtain ⟨u, H3, I3, pu, rfl, rfl⟩ := hu2
  refine thn (pst.run pins s3 σ H3 (fun o H4 => ∃ k : Int, o = some k ∧ ∃ (a : Addr) (xs : List V), x = .ref a ∧ SqL X.K H4 a xs ∧ (k = 1 ∨ k = -1) ∧ ∀ p, H4 p = none → Q (.ref p) (upd H4 p (.lst (if k = 1 then xs else xs.reverse)))) I3 q1) fun vs s4 hs4 => ?_
  · obtain ⟨o, H4, I4, ps, k, rfl, a, xs, rfl, hx, hk, q⟩ := hs4
    cases r1
    have I5 : Inv X pins σ H4 { s4 with heap := s4.heap.push { cls := .type "slice", data := .fields #[vl, vu, vs] } } := I4.kept (t' := s4.toks) fun b ob z => Heap.get?_push_of_some _ z
    obtain ⟨its, r, ht, hz⟩ := I5.list hx
    have len := r.length
    show wpAny (model X.prog X.w) X.A (subscriptTail e (.Slice none none (some es) p3) (.ref a) (.ref s4.heap.objs.size)) (EP X pins σ Q) X.xe { s4 with heap := s4.heap.push { cls := .type "slice", data := .fields #[vl, vu, vs] } }
    refine tail_any (ops := [.ref a, .ref s4.heap.objs.size]) ht.isList.typeIs (PySem.slot_list_getitem.lookup) ?_ (hl _ _)
    refine wpAny_getItem_list_slice ht.isList (Heap.IsSliceOf.new _ vl vu vs) pl pu ps (by rcases hk with rfl | rfl <;> decide) ?_ (by rw [List.size_toArray]; omega)
    rcases hk with rfl | rfl
    · rw [pick_one]
      refine ⟨.ref _, _, I5.laid (t' := s4.toks) (o := .lst xs) (fun b ob z => Heap.get?_push_of_some _ z) (Nat.le_refl _) ?_, rfl, q _ (I5.hok.fresh (Nat.le_refl _))⟩
      exact ⟨hz, its, 0, r, Heap.get?_push_size _ rfl⟩
    · rw [PySem.W.krv_pick]
      refine ⟨.ref _, _, I5.laid (t' := s4.toks) (o := .lst xs.reverse) (fun b ob z => Heap.get?_push_of_some _ z) (Nat.le_refl _) ?_, rfl, q _ (I5.hok.fresh (Nat.le_refl _))⟩
      exact ⟨by rw [List.length_reverse]; exact hz, _, 0, r.reverse, Heap.get?_push_size _ rfl⟩
end
/-! ## a comprehension within a comprehension -/
theorem look_map (g : Str → NameKind → NameKind) : ∀ (l : List (Str × NameKind)) (x : Str), (l.map fun p => (p.1, g p.1 p.2)).lookup x = (l.lookup x).map (g x)
  | [], _ => rfl
  | (n, k) :: l, x => by
    rw [List.map_cons, List.lookup_cons, List.lookup_cons]
    cases h : x == n with
    | true =>
      have e : x = n := eq_of_beq h
      rw [e] <;> rfl
    | false => exact look_map g l x
theorem blkOk_in {N : List Str} {sc scope : Scope} {own : List (Str × Nat)} {env : Env} (h : BlkOk N sc scope own) : BlkOk N (relabel sc env) scope own := by
  refine ⟨h.kind, h.uniq, h.ix, fun y hy e => ?_, h.own⟩
  have q := h.free y hy e
  have em : (relabel sc env).names = sc.names.map fun p => (p.1, if (p.2 == NameKind.free && env.scope.kind == .function && env.kindOf p.1 == some .cell) then NameKind.cell else p.2) := by
    unfold relabel
    show List.map _ _ = List.map _ _
    congr 1
    funext p
    obtain ⟨n, k⟩ := p
    show (if _ then _ else _) = _
    split
    · rfl
    · rfl
  rw [em, look_map fun n k => if (k == NameKind.free && env.scope.kind == .function && env.kindOf n == some .cell) then NameKind.cell else k]
  rcases q with q | q
  · rw [q]
    exact .inl (by rfl)
  · rw [q]
    show some (if _ then _ else _) = _ ∨ some (if _ then _ else _) = _
    split
    · exact .inl rfl
    · exact .inr rfl
end Sw

set_option Elab.async false
set_option linter.all false
set_option maxRecDepth 100000
set_option maxHeartbeats 4000000
namespace Sw
open PySem PySem.Spec PyProof.Rows L2 PySem.W
/-! ## max(ns, default=d) -/
theorem ints_reads {h : Heap} : ∀ {vs : List Value} {ns : List Int}, IntsAre vs ns → ReadsAll h vs (ns.map PyData.int) []
  | _, _, .nil => .nil
  | _, _, .cons _ _ r => .cons (as := []) (.int _ _) (ints_reads r)
theorem ints_alike (ns : List Int) : AlikeAll (ns.map PyData.int) := by
  refine ⟨fun x hx y hy => ?_, fun x hx => ?_⟩
  · obtain ⟨a, _, rfl⟩ := List.mem_map.mp hx
    obtain ⟨b, _, rfl⟩ := List.mem_map.mp hy
    rfl
  · obtain ⟨a, _, rfl⟩ := List.mem_map.mp hx
    exact fun z => nomatch z
theorem depth_ints : ∀ ns : List Int, PyData.depthAll (ns.map PyData.int) = 0
  | [] => rfl
  | n :: ns => by
    show max 0 (PyData.depthAll (ns.map PyData.int)) = 0
    rw [depth_ints ns] <;> rfl
theorem fold_max : ∀ (ns : List Int) (n : Int), ns.foldl max n ∈ n :: ns ∧ ∀ y ∈ n :: ns, y ≤ ns.foldl max n
  | [], n => ⟨.head _, fun y hy => by rw [List.mem_singleton.mp hy]; exact Int.le_refl _⟩
  | k :: ns, n => by
    obtain ⟨h1, h2⟩ := fold_max ns (max n k)
    show ns.foldl max (max n k) ∈ n :: k :: ns ∧ _
    constructor
    · rcases List.mem_cons.mp h1 with h | h
      · rw [h]
        have : max n k = n ∨ max n k = k := by omega
        rcases this with e | e <;> rw [e]
        · exact .head _
        · exact .tail _ (.head _)
      · exact .tail _ (.tail _ h)
    · intro y hy
      have h3 := h2 _ (List.mem_cons_self (a := max n k))
      show y ≤ ns.foldl max (max n k)
      rcases List.mem_cons.mp hy with h | h
      · omega
      · rcases List.mem_cons.mp h with h | h
        · omega
        · exact h2 y (.tail _ h)
def rMaxDI (K : PySem.W.Frag) : List V → List V → Hp → VK → Prop := fun vs zs H Q => ∃ (a : Addr) (ns : List Int) (d : Int), vs = [.ref a] ∧ zs = [.int d] ∧ SqL K H a (ns.map V.int) ∧ (ns = [] → Q (.int d) H) ∧ ∀ m, m ∈ ns → (∀ y ∈ ns, y ≤ m) → Q (.int m) H
section
variable {X : Cx}
theorem cl_maxDI (hc : X.calm = true) (hu : X.A.units + 64 < cLine) : CallRK X (.builtin "max") ["default"] (rMaxDI X.K) := by
  intro pins s σ H vs zs us ws Q I r1 r2 h
  obtain ⟨a, ns, d, rfl, rfl, hs, q0, q1⟩ := h
  obtain ⟨its, rv, hl, _⟩ := I.list hs
  rw [Vals.ref1 r1]
  obtain ⟨u, rfl, t, rfl⟩ : ∃ u, ws = [u] ∧ ∃ t, u = .int d t := by
    cases r2 with
    | cons r rs =>
      cases rs
      exact ⟨_, rfl, r⟩
  refine max_list_default (as := []) (I.ok.hd hc) hl.isList (ints_reads rv.ints) (ints_alike ns) (by rw [depth_ints]; omega) (fun e h' tk hk => ?_) (fun y ys i v h' tk bs e hv hrd hk => ?_)
  · exact ⟨.int d, H, I.kept hk, ⟨t, rfl⟩, q0 (List.map_eq_nil_iff.mp e)⟩
  · cases ns with
    | nil => cases e
    | cons n ns =>
      cases e
      rw [maxD_ints] at hrd
      obtain ⟨t2, rfl, _⟩ := reads_int_inv hrd
      obtain ⟨f1, f2⟩ := fold_max ns n
      exact ⟨.int _, H, I.kept hk, ⟨t2, rfl⟩, q1 _ f1 f2⟩
end
end Sw

set_option Elab.async false
set_option linter.all false
set_option maxRecDepth 100000
set_option maxHeartbeats 4000000
namespace Sw
open PySem PySem.Spec PyProof.Rows L2
/-! ## t[::k] of a pair, k one or one less than nought -/
section
variable {prog : Program} {w : World} {A : Around} {E : Value → Shared → Prop} {s : Shared}
theorem applied_one2 {sl : Addr} {tk : Tok} {Q : Int × Int × Nat → Shared → Prop} (hs : s.heap.IsSliceOf sl .none .none (.int 1 tk)) (h : Q (0, 1, 2) s) :
    wpAny (model prog w) A (Builtin.Slice.sliceApplied (.ref sl) (pure (2 : Int))) Q E s := by
  obtain ⟨os, hos, hcs, hds⟩ := id hs
  unfold Builtin.Slice.sliceApplied Builtin.Slice.sliceFields
  refine wpAny_bind (wpAny_bind ?_)
  refine wpAny_field hos hds (x := .none) rfl ?_
  refine wpAny_bind (wpAny_field hos hds (x := .none) rfl ?_)
  refine wpAny_bind (wpAny_field hos hds (x := .int 1 tk) rfl ?_)
  refine wpAny_pure ?_
  refine wpAny_bind (HT.slicePart_ (.int 1 tk) ?_)
  show wpAny _ _ (if ((1 : Int) == 0) = true then _ else _) _ _ s
  rw [if_neg (by decide)]
  refine wpAny_bind (HT.slicePart_ .none ?_)
  refine wpAny_bind (HT.slicePart_ .none ?_)
  refine wpAny_bind (wpAny_pure ?_)
  exact wpAny_pure h
theorem item_one2 {t sl : Addr} {u v : Value} {tk : Tok} {Q : Value → Shared → Prop} (ht : IsTup s.heap t #[u, v]) (hs : s.heap.IsSliceOf sl .none .none (.int 1 tk))
    (h : Q (.ref t) s) : wpAny (model prog w) A (getItem (.ref t) (.ref sl)) Q E s := by
  obtain ⟨os, hos, hcs, hds⟩ := id hs
  have kind : s.TypeIs (.ref sl) "slice" := ⟨os, hos, hcs⟩
  unfold getItem
  try with_reducible refine wpAny_holding ?_
  first
    | refine wpAny_bind (wpAny_pure ?_)
    | skip
  refine wpAny_bind (wpAny_sequenceKey ht.typeIs (by decide) ?_)
  refine wpAny_bind (wpAny_callSpecial?_slot (name := Str.ofString "__getitem__") ht.typeIs slot_tuple_getitem ?_)
  refine wpAny_call_entry slot_tuple_getitem ht.typeIs entry_tuple_getitem ?_ (args_tuple_getitem _ _)
  show wpAny _ _ (Builtin.Tuple.tupleItemsOf (.ref t) >>= _) _ _ s
  refine wpAny_bind (tupleItemsOf_ ht ?_)
  refine wpAny_bind (wpAny_typeOf kind ?_)
  rw [if_pos (by decide)]
  refine wpAny_bind (applied_one2 hs ?_)
  show wpAny _ _ (if ((0 : Int) == 0 && (1 : Int) == 1 && (2 : Nat) == 2) = true then _ else _) _ _ s
  rw [if_pos (by decide)]
  refine wpAny_bind (m := Builtin.Tuple.tupleIsExact _) ?_
  unfold Builtin.Tuple.tupleIsExact
  refine wpAny_bind (wpAny_typeOf ht.typeIs ?_)
  refine wpAny_pure ?_
  rw [if_pos (by decide)]
  refine wpAny_bind (wpAny_rule ?_)
  exact wpAny_pure ⟨_, rfl, wpAny_pure h⟩
end
/-- t[::k], t a pair: itself, or turned -/
def tStepT (K : PySem.W.Frag) (te ts : TE) : TE := fun σ H Q => te σ H fun x H1 => tPart ts σ H1 fun o H4 => ∃ k : Int, o = some k ∧ ∃ (a : Addr) (y z : V), x = .ref a ∧ SqT K H4 a [y, z] ∧ ((k = 1 ∧ Q (.ref a) H4) ∨ (k = -1 ∧ ∀ p, H4 p = none → Q (.ref p) (upd H4 p (.tup [z, y]))))
section
variable {X : Cx}
theorem pe_stepT {e es : Expr} {te ts : TE} {p3 pos : Pos} (he : PE X e te) (hs : PE X es ts) (hl : ∀ o i, subscripted (.Slice none none (some es) p3) false o i = operate [o, i] (getItem o i) := by intro _ _; with_unfolding_all rfl) :
    PE X (.Subscript e (.Slice none none (some es) p3) pos) (tStepT X.K te ts) := by
  refine ⟨fun pins s σ H Q I h => Subscript_ (thn (he.run pins s σ H _ I h) fun v s1 hv => ?_)⟩
  obtain ⟨x, H1, I1, r1, q1⟩ := hv
  have pst : PO X (some es) (tPart ts) := po_some hs
  refine wpAny_Slice (thn (po_none.run pins s1 σ H1 (fun o H2 => o = none ∧ H2 = H1) I1 ⟨rfl, rfl⟩) fun vl s2 hl2 => ?_)
  obtain ⟨l, H2, I2, pl, rfl, rfl⟩ := hl2
  refine thn (po_none.run pins s2 σ H2 (fun o H3 => o = none ∧ H3 = H2) I2 ⟨rfl, rfl⟩) fun vu s3 hu2 => ?_
  obtain ⟨u, H3, I3, pu, rfl, rfl⟩ := hu2
  refine thn (pst.run pins s3 σ H3 (fun o H4 => ∃ k : Int, o = some k ∧ ∃ (a : Addr) (y z : V), x = .ref a ∧ SqT X.K H4 a [y, z] ∧ ((k = 1 ∧ Q (.ref a) H4) ∨ (k = -1 ∧ ∀ p, H4 p = none → Q (.ref p) (upd H4 p (.tup [z, y]))))) I3 q1) fun vs s4 hs4 => ?_
  obtain ⟨o, H4, I4, ps, k, rfl, a, y, z, rfl, hx, hk⟩ := hs4
  cases r1
  cases pl
  cases pu
  cases ps with
  | int i tk =>
    have I5 : Inv X pins σ H4 { s4 with heap := s4.heap.push { cls := .type "slice", data := .fields #[.none, .none, .int k tk] } } := I4.kept (t' := s4.toks) fun b ob z => Heap.get?_push_of_some _ z
    obtain ⟨its, r, ht, hz⟩ := I5.tuple hx
    obtain ⟨y', z', rfl, ry, rz⟩ : ∃ y' z', its = [y', z'] ∧ RelV y y' ∧ RelV z z' := by
      cases r with
      | cons r1 r2 =>
        cases r2 with
        | cons r3 r4 =>
          cases r4
          exact ⟨_, _, rfl, r1, r3⟩
    show wpAny (model X.prog X.w) X.A (subscriptTail e (.Slice none none (some es) p3) (.ref a) (.ref s4.heap.objs.size)) (EP X pins σ Q) X.xe { s4 with heap := s4.heap.push { cls := .type "slice", data := .fields #[.none, .none, .int k tk] } }
    refine tail_any (ops := [.ref a, .ref s4.heap.objs.size]) ht.typeIs slot_tuple_getitem.lookup ?_ (hl _ _)
    rcases hk with ⟨rfl, q⟩ | ⟨rfl, q⟩
    · exact item_one2 ht (Heap.IsSliceOf.new _ .none .none _) ⟨.ref a, H4, I5, rfl, q⟩
    · refine item_back2 ht (Heap.IsSliceOf.new _ .none .none _) ?_
      refine ⟨.ref _, _, I5.laid (t' := s4.toks) (o := .tup [z, y]) (fun b ob q => Heap.get?_push_of_some _ q) (Nat.le_refl _) ?_, rfl, q _ (I5.hok.fresh (Nat.le_refl _))⟩
      refine ⟨by show 2 ≤ sizeLine; rw [sizeLine_eq]; decide, [z', y'], .cons rz (.cons ry .nil), IsTup.new _ _⟩
end
/-! ## xs.extend(t), t a tuple -/
def rExtT (K : PySem.W.Frag) : V → List V → Hp → VK → Prop := fun x vs H Q => ∃ l b xs zs, x = .ref l ∧ vs = [.ref b] ∧ H l = some (.lst xs) ∧ SqT K H b zs ∧ xs.length + zs.length ≤ 1000000 ∧ Q .non (upd H l (.lst (xs ++ zs)))
theorem list_extend_tupG (l : Addr) (items : Array Value) (n : Nat) (b : Addr) (items2 : Array Value) (hs0 : ¬(!items.isEmpty && Builtin.List.listTooLong (items.size + items2.size)) = true) (hs1 : items.size ≤ sizeLine) (hs2 : items.size + items2.size ≤ sizeLine + 1) :
    Meets (Builtin.«list.extend» ⟨[.ref l, .ref b], []⟩) (fun _ R s => s.heap.get? l = some { cls := .type "list", dict := none, data := .seq items n, slots := #[] } ∧ IsTup s.heap b items2 ∧ R (.ok (.ret Value.none)) { s with heap := s.heap.update l (Obj.mapSeq fun x => x ++ items2), toks := s.toks }) :=
  .of_wp fun prog w A R s h => by
    obtain ⟨hp, g, d, tk, os⟩ := s
    obtain ⟨hl, ⟨o, hb, hc, n2, hd⟩, h⟩ := h
    obtain ⟨oc, od, odt, osl⟩ := o
    cases hc
    cases hd
    have f1 := AutoSeq1.idx_int; have f2 := AutoSeq1.sub_tuple_tuple; have f3 := AutoSeq1.sub_list_list; have f4 := AutoSeq1.sub_tuple_list; have f5 := AutoSeq1.sub_list_tuple
    have hz' : (items ++ items2).size ≤ sizeLine + 1 := by rw [Array.size_append]; exact hs2
    wp_walk using (wpAny_updateSeq hl rfl (hz := hs1) (_hz' := hz')), AutoSeq1.wpAny_loadPart' hl, AutoSeq1.wpAny_loadPart' hb; exact ⟨_, rfl, h⟩
section
variable {X : Cx}
theorem md_extT : MtR X "list.extend" (rExtT X.K) := by
  intro pins s σ H x vs v us Q I rx rv h
  obtain ⟨l, b, xs, zs, rfl, rfl, hH, hB, hz, q⟩ := h
  cases rx
  obtain ⟨u, rfl, ru⟩ := rv.one
  cases ru
  obtain ⟨z, its, n, r, hl, e⟩ := I.lstM hH
  obtain ⟨its2, r2, hl2, z2⟩ := I.tuple hB
  have l1 := r.length
  have l2 := r2.length
  have sl := sizeLine_eq
  have hsz : its.toArray.size + its2.toArray.size ≤ sizeLine := by rw [List.size_toArray, List.size_toArray]; omega
  have hlong : ¬ (!its.toArray.isEmpty && Builtin.List.listTooLong (its.toArray.size + its2.toArray.size)) = true := by
    rw [notLongL hsz, Bool.and_false]
    exact Bool.false_ne_true
  refine call_meets PySem.F.slot_list_extend ⟨_, e, rfl⟩ PySem.F.entry_list_extend (PySem.F.args_list_extend_2 _ _)
    (list_extend_tupG l its.toArray n b its2.toArray hlong (by rw [List.size_toArray]; omega) (by omega)) ⟨e, hl2, ?_⟩
  refine ⟨.non, _, I.lset (its' := its ++ its2) hH e (by simp) (r.append r2) ?_, rfl, q⟩
  rw [List.length_append]
  omega
theorem md_indexL : MtR X "list.index" (rIndex X.K) := mt_index
end
/-! ## a < b < c < d -/
def tChain3 (r r' r'' : R2) (ta tb tc td : TE) : TE := fun σ H Q => ta σ H fun x H1 => tb σ H1 fun y H2 => r x y H2 fun z H3 => ∃ k, z = .bl k ∧ (if k = true then tc σ H3 fun w' H4 => r' y w' H4 fun z2 H5 => ∃ k2, z2 = .bl k2 ∧ (if k2 = true then td σ H5 fun u H6 => r'' w' u H6 Q else Q (.bl false) H5) else Q (.bl false) H3)
section
variable {X : Cx} {a b c d : Expr} {ta tb tc td : TE} {pos : Pos}
theorem pt_chain3 {op op' op'' : CmpOp} {r r' r'' : R2} (ho : OpR X (compareOp op) r) (ho' : OpR X (compareOp op') r') (ho'' : OpR X (compareOp op'') r'') (ha : PE X a ta) (hb : PE X b tb) (hc : PE X c tc) (hd : PE X d td)
    (hm : lastMarks [op, op', op''] [b, c, d] = false := by with_unfolding_all rfl) : PT X (.Compare a [op, op', op''] [b, c, d] pos) (tTest (tChain3 r r' r'' ta tb tc td)) := by
  refine ⟨fun pins s σ H Q I h => ?_⟩
  refine isTrue_chain (thn (ha.run pins s σ H _ I h) fun v s1 ⟨x, H1, I1, r1, q1⟩ => test_link (thn (hb.run pins s1 σ H1 _ I1 q1) fun u s2 ⟨y, H2, I2, r2, q2⟩ =>
    thn (ho pins s2 σ H2 x y v u _ I2 r1 r2 q2) fun d s3 ⟨z, H3, I3, r3, k, e, q3⟩ => ?_)) hm
  subst e
  cases r3
  refine wpAny_truthy_bool ?_
  cases k with
  | false =>
    obtain ⟨k', e', q'⟩ := q3
    cases e'
    exact ite_ff ⟨H3, I3, q'⟩
  | true =>
    refine ite_tt (test_link (thn (hc.run pins s3 σ H3 _ I3 q3) fun w' s4 ⟨z', H4, I4, r4, q4⟩ => thn (ho' pins s4 σ H4 y z' u w' _ I4 r2 r4 q4) fun d' s5 ⟨z2, H5, I5, r5, k2, e2, q5⟩ => ?_))
    subst e2
    cases r5
    refine wpAny_truthy_bool ?_
    cases k2 with
    | false =>
      obtain ⟨k', e', q'⟩ := q5
      cases e'
      exact ite_ff ⟨H5, I5, q'⟩
    | true =>
      refine ite_tt (test_last (thn (hd.run pins s5 σ H5 _ I5 q5) fun w2 s6 ⟨z6, H6, I6, r6, q6⟩ => thn (ho'' pins s6 σ H6 z' z6 w' w2 _ I6 r4 r6 q6) fun d2 s7 ⟨z7, H7, I7, r7, k3, e3, q7⟩ => ?_))
      subst e3
      cases r7
      exact wpAny_truthy_bool ⟨H7, I7, q7⟩
end
end Sw

set_option Elab.async false
set_option linter.all false
set_option maxRecDepth 100000
set_option maxHeartbeats 4000000
namespace Sw
open PySem PySem.Spec PyProof.Rows L2
/-! ## try: .. except A: .. except B: .., nothing passed on -/
def wNo : WX := fun _ _ _ _ => False
theorem takes_no {X : Cx} : L2.Takes X wNo := fun _ _ ⟨_, _, _, _, _, _, _, _, _, _, _, _, _, _, _, _, w⟩ => w.elim
def tTryM (K : PySem.W.Frag) (l : List (Value × (Addr → Value → Option Addr → TS))) (tb : WX → TS) : TS := fun D σ H => tb (wMany K wNo D l) D σ H
/-! ## int(b) -/
def kInt1 : List V → Hp → VK → Prop := fun xs H Q => (∃ i, xs = [.int i] ∧ Q (.int i) H) ∨ ∃ k, xs = [.bl k] ∧ Q (.int (if k then 1 else 0)) H
theorem cl_int1 {X : Cx} : CallR X (.type "int") kInt1 := call_int1
end Sw

set_option Elab.async false
set_option linter.all false
set_option maxRecDepth 100000
set_option maxHeartbeats 4000000
namespace Sw
open PySem PySem.Spec PyProof.Rows L2
/-! ## sum(lists, []) -/
section
variable {prog : Program} {w : World} {A : Around} {R : Result → Shared → Prop} {E : Value → Shared → Prop}
def catFrom (its : Nat → Array Value) : Nat → Nat → Array Value → Array Value
  | _, 0, acc => acc
  | i, k + 1, acc => catFrom its (i + 1) k (acc ++ its i)
theorem catFrom_size (its : Nat → Array Value) : ∀ (k i : Nat) (acc : Array Value), acc.size ≤ (catFrom its i k acc).size
  | 0, _, _ => Nat.le_refl _
  | k + 1, i, acc => by
    have := catFrom_size its k (i + 1) (acc ++ its i)
    rw [Array.size_append] at this
    show acc.size ≤ (catFrom its (i + 1) k (acc ++ its i)).size
    omega
theorem codeAny_sum_cat {I ax : Addr} {items : Array Value} (hh : A.in1.handled = none) (hne : ax ≠ I) (hv : Nat → Addr) (its : Nat → Array Value) (hi : ∀ i v, items[i]? = some v → v = Value.ref (hv i)) (S : Addr) (hSI : S ≠ I) (hSa : S ≠ ax) :
    ∀ (k i : Nat) (s : Shared) (p : Addr) (acc : Array Value) (m c : Nat), items.size - i = k → i ≤ items.size → (s.heap.IsListIter I ax i ∧ s.heap.IsList ax items) →
      s.heap.get? S = some { cls := .type "list", dict := none, data := .seq #[.ref p] c, slots := #[] } → IsL s.heap p acc m → p ≠ I → p ≠ S →
      (∀ j, i ≤ j → j < items.size → ∃ m, IsL s.heap (hv j) (its j) m ∧ hv j ≠ I ∧ hv j ≠ S) → (catFrom its i k acc).size ≤ sizeLine →
      (∀ h' tk p' m', (∀ b o, b ≠ I → b ≠ S → s.heap.get? b = some o → h'.get? b = some o) → IsL h' p' (catFrom its i k acc) m' → ((k = 0 ∧ p' = p) ∨ I < p') → R (.ok (.ret (.ref p'))) { s with heap := h', toks := tk }) →
      codeAny (model prog w) A (.builtin "sum.loop" ⟨[.ref I, .ref S, rawInt 2, rawInt 0], []⟩) R s := by
  have W := Walks.list (prog := prog) (w := w) (A := A.in1) hh I ax hne items
  have hSw : S ∉ [I] := by simp [hSI]
  intro k
  induction k with
  | zero =>
    intro i s p acc m c hk hi' hst hS hp hpI hpS hits hsz hR
    have hin : i = items.size := by omega
    subst hin
    refine codeAny_builtin F.entry_sum_loop ?_
    rw [Around.under_plainId F.plain_sum_loop _]
    show wpAny _ A.in1 (seqItems? (.ref S) >>= _) _ _ s
    refine wpAny_bind (wpAny_seqItems hS rfl ?_)
    show wpAny _ A.in1 (tryCatch (pyNext (.ref I)) _ >>= _) _ _ s
    refine wpAny_bind (wpAny_tryCatch (W.done s _ _ hst fun h' tk hk' => ?_))
    exact wpAny_pure (hR h' tk p m (fun b o h1 _ e => hk' b o (by simpa using h1) e) (hk' p _ (by simpa using hpI) hp) (.inl ⟨rfl, rfl⟩))
  | succ k ih =>
    intro i s p acc m c hk hi' hst hS hp hpI hpS hits hsz hR
    have hlt : i < items.size := by omega
    refine codeAny_builtin F.entry_sum_loop ?_
    rw [Around.under_plainId F.plain_sum_loop _]
    show wpAny _ A.in1 (seqItems? (.ref S) >>= _) _ _ s
    refine wpAny_bind (wpAny_seqItems hS rfl ?_)
    show wpAny _ A.in1 (tryCatch (pyNext (.ref I)) _ >>= _) _ _ s
    refine wpAny_bind (wpAny_tryCatch (W.item i s _ _ hlt hst fun v h' tk hP hst' hk' => ?_))
    obtain rfl := hi i v hP
    have hS' := hk' S _ hSw hS
    have hp' := hk' p _ (by simpa using hpI) hp
    obtain ⟨mj, hj, hjI, hjS⟩ := hits i (Nat.le_refl _) hlt
    have hj' := hk' (hv i) _ (by simpa using hjI) hj
    have big := catFrom_size its k (i + 1) (acc ++ its i)
    have big2 : (catFrom its (i + 1) k (acc ++ its i)).size ≤ sizeLine := hsz
    rw [Array.size_append] at big
    have fits : acc.size + (its i).size ≤ sizeLine := Nat.le_trans big big2
    show wpAny _ A.in1 ((holding [Value.ref (hv i)] (binaryOp .Add (.ref p) (.ref (hv i)))).attempt >>= _) _ _ _
    refine wpAny_bind (wpAny_attempt (wpAny_holding (PySem.P.add_list hp' hj' ?_ fits)))
    show wpAny _ A.in1 (updateSeq S (fun _ => #[.ref h'.objs.size]) >>= _) _ _ _
    have hSp := Heap.get?_push_of_some { cls := .type "list", data := .seq (acc ++ its i) } hS'
    have hnew : IsL (h'.push { cls := .type "list", data := .seq (acc ++ its i) }) h'.objs.size (acc ++ its i) 0 := Heap.get?_push_size _ rfl
    refine wpAny_bind ?_
    refine wpAny_updateSeq hSp rfl ?_
    have hS2 := Heap.get?_update_self (Obj.mapSeq fun _ => #[Value.ref h'.objs.size]) hSp rfl
    refine wpAny_bind (wpAny_letGo ?_)
    refine wpAny_bind ?_
    have hSlt : S < h'.objs.size := Heap.lt_size hS'
    have hIlt : I < h'.objs.size := by
      obtain ⟨⟨_, e, _⟩, _⟩ := hst'
      exact Heap.lt_size e
    have keep : ∀ b o, b ≠ S → h'.get? b = some o → (((h'.push { cls := .type "list", data := .seq (acc ++ its i) }).update S (Obj.mapSeq fun _ => #[Value.ref h'.objs.size])).update S (Obj.mapSeq fun _ => #[Value.ref h'.objs.size])).get? b = some o := fun b o hb e =>
      (Heap.get?_update_other _ _ (Ne.symm hb)).trans ((Heap.get?_update_other _ _ (Ne.symm hb)).trans (Heap.get?_push_of_some _ e))
    refine wpAny_updateSeq hS2 rfl (wpAny_pure ⟨plainId_quiet F.plain_sum_loop _, ih (i + 1) _ h'.objs.size (acc ++ its i) 0 _ (by omega) hlt (W.frame _ h' _ hst' fun b hb o e => keep b o ?_ e) (Heap.get?_update_self _ hS2 rfl) ?_ (Nat.ne_of_gt hIlt) (Nat.ne_of_gt hSlt) (fun j h1 h2 => ?_) big2 fun h'' tk'' p'' m'' hk'' hl'' hn'' => ?_⟩)
    · rcases List.mem_cons.mp hb with rfl | hb
      · exact fun z => hSI z.symm
      · rw [List.mem_singleton.mp hb]
        exact fun z => hSa z.symm
    · exact (Heap.get?_update_other _ _ (Nat.ne_of_lt hSlt)).trans ((Heap.get?_update_other _ _ (Nat.ne_of_lt hSlt)).trans hnew)
    · obtain ⟨m2, e2, n1, n2⟩ := hits j (by omega) h2
      exact ⟨m2, keep _ _ n2 (hk' _ _ (by simpa using n1) e2), n1, n2⟩
    · refine hR h'' tk'' p'' m'' (fun b o h1 h2 e => hk'' b o h1 h2 (keep b o h2 (hk' b o (by simpa using h1) e))) hl'' (.inr ?_)
      rcases hn'' with ⟨_, rfl⟩ | h
      · exact hIlt
      · exact h
theorem sub_ls : isSubtype (.type "list") (.type "str") = pure false := by rw [isSubtype_type]; kernel_rfl
theorem sub_lb : isSubtype (.type "list") (.type "bytes") = pure false := by rw [isSubtype_type]; kernel_rfl
theorem sub_la : isSubtype (.type "list") (.type "bytearray") = pure false := by rw [isSubtype_type]; kernel_rfl
theorem call_sum_cat {s : Shared} {l st : Addr} {items : Array Value} {Q : Value → Shared → Prop} {m : Nat} (hh : A.handled = none) (hl : s.heap.IsList l items) (hv : Nat → Addr) (its : Nat → Array Value) (hi : ∀ i v, items[i]? = some v → v = Value.ref (hv i))
    (hs : IsL s.heap st #[] m) (hits : ∀ j, j < items.size → ∃ m, IsL s.heap (hv j) (its j) m) (hsz : (catFrom its 0 items.size #[]).size ≤ sizeLine)
    (h : ∀ h' tk p' m', (∀ b o, s.heap.get? b = some o → h'.get? b = some o) → IsL h' p' (catFrom its 0 items.size #[]) m' → ((items.size = 0 ∧ p' = st) ∨ s.heap.objs.size ≤ p') → Q (.ref p') { s with heap := h', toks := tk }) :
    wpAny (model prog w) A (call (.builtin "sum") [.ref l, .ref st]) Q E s := by
  refine call_function_tree F.kind_sum F.plain_sum F.entry_sum (by unfold argsOk; kernel_rfl) ?_
  unfold Builtin.«sum»
  simp only [List.length_cons, List.length_nil]
  rw [if_neg (by decide)]
  refine wpAny_bind (wpAny_of_eq (show Builtin.Builtins.bindParams "sum" ["start"] 0 ⟨[.ref st], []⟩ = pure [some (.ref st)] from rfl) ?_)
  refine wpAny_bind (wpAny_pyIter_list hl ?_)
  refine wpAny_bind (wpAny_pure ?_)
  have hlt : l < s.heap.objs.size := by obtain ⟨_, e, _⟩ := hl; exact Heap.lt_size e
  have hst1 := Heap.get?_push_of_some { cls := .type "list_iterator", data := .fields #[.ref l, .int 0 0] } hs
  simp only [List.forIn_cons, List.forIn_nil]
  refine wpAny_bind (wpAny_bind (wpAny_bind (wpAny_isInstance (T := "list") (b := false) ⟨_, hst1, rfl⟩ sub_ls ?_)))
  simp only [Bool.false_eq_true, if_false]
  refine wpAny_pure (wpAny_bind (wpAny_bind (wpAny_isInstance (T := "list") (b := false) ⟨_, hst1, rfl⟩ sub_lb ?_)))
  simp only [Bool.false_eq_true, if_false]
  refine wpAny_pure (wpAny_bind (wpAny_bind (wpAny_isInstance (T := "list") (b := false) ⟨_, hst1, rfl⟩ sub_la ?_)))
  simp only [Bool.false_eq_true, if_false]
  refine wpAny_pure (wpAny_pure ?_)
  refine wpAny_bind (wpAny_newObj_type ?_)
  have sz : (s.heap.push { cls := .type "list_iterator", data := .fields #[.ref l, .int 0 0] }).objs.size = s.heap.objs.size + 1 := Heap.size_push ..
  have old : ∀ (o : Obj) {b : Addr} {u : Obj}, s.heap.get? b = some u → ((s.heap.push { cls := .type "list_iterator", data := .fields #[.ref l, .int 0 0] }).push o).get? b = some u := fun o b u e => Heap.get?_push_of_some _ (Heap.get?_push_of_some _ e)
  refine wpAny_pure ⟨plainId_quiet F.plain_sum_loop _, codeAny_sum_cat (A := A) hh (Nat.ne_of_lt hlt) hv its hi _ ?_ ?_ items.size 0 _ st #[] m 0 rfl (Nat.zero_le _) ⟨⟨_, Heap.get?_push_of_some _ (Heap.get?_push_size _ rfl), rfl, rfl⟩, ?_⟩ (Heap.get?_push_size _ rfl) (old _ hs) ?_ ?_ (fun j _ hj => ?_) hsz fun h' tk p' m' hk hl' hn => ?_⟩
  · show (s.heap.push _).objs.size ≠ s.heap.objs.size
    rw [sz]
    exact Nat.succ_ne_self _
  · show (s.heap.push _).objs.size ≠ l
    rw [sz]
    exact Nat.ne_of_gt (Nat.lt_succ_of_lt hlt)
  · exact (hl.push _).push _
  · exact Nat.ne_of_lt (Heap.lt_size hs)
  · rw [sz]
    exact Nat.ne_of_lt (Nat.lt_succ_of_lt (Heap.lt_size hs))
  · obtain ⟨m2, e⟩ := hits j hj
    exact ⟨m2, old _ e, Nat.ne_of_lt (Heap.lt_size e), by rw [sz]; exact Nat.ne_of_lt (Nat.lt_succ_of_lt (Heap.lt_size e))⟩
  · refine h h' tk p' m' (fun b o e => hk b o (Nat.ne_of_lt (Heap.lt_size e)) (by rw [sz]; exact Nat.ne_of_lt (Nat.lt_succ_of_lt (Heap.lt_size e))) (old _ e)) hl' ?_
    rcases hn with h1 | h1
    · exact .inl h1
    · exact .inr (Nat.le_of_lt h1)
end
theorem vals_rfs : ∀ {ls : List Addr} {its : List Value}, Vals (Rfs ls) its → its = ls.map Value.ref
  | [], _, h => by
    cases h
    rfl
  | a :: ls, _, h => by
    cases h with
    | cons r rs =>
      cases r
      rw [vals_rfs rs] <;> rfl
theorem cat_vals {vsOf : Nat → List Value} {yss : List (List V)} (hv : ∀ j ys, yss[j]? = some ys → Vals ys (vsOf j)) : ∀ (k i : Nat) (acc : List Value) (done : List V), i + k = yss.length → Vals done acc →
    ∃ w : List Value, catFrom (fun j => (vsOf j).toArray) i k acc.toArray = w.toArray ∧ Vals (done ++ (yss.drop i).flatten) w
  | 0, i, acc, done, e, h => ⟨acc, rfl, by rw [List.drop_eq_nil_of_le (by omega), List.flatten_nil, List.append_nil]; exact h⟩
  | k + 1, i, acc, done, e, h => by
    have hi : i < yss.length := by omega
    obtain ⟨w, e1, e2⟩ := cat_vals hv k (i + 1) (acc ++ vsOf i) (done ++ yss[i]) (by omega) (h.append (hv i yss[i] (List.getElem?_eq_getElem hi)))
    refine ⟨w, ?_, ?_⟩
    · rw [← e1]
      show catFrom _ (i + 1) k (acc.toArray ++ (vsOf i).toArray) = _
      rw [show acc.toArray ++ (vsOf i).toArray = (acc ++ vsOf i).toArray by simp]
    · rw [List.drop_eq_getElem_cons hi, List.flatten_cons, ← List.append_assoc]
      exact e2
/-- sum(lists, []): a new list of all, or the list handed in where there is none -/
def rSumL (K : PySem.W.Frag) : List V → Hp → VK → Prop := fun vs H Q => ∃ (l st : Addr) (ls : List Addr) (yss : List (List V)), vs = [.ref l, .ref st] ∧ SqL K H l (Rfs ls) ∧ H st = some (.lst []) ∧ All2 (fun a ys => H a = some (.lst ys)) ls yss ∧
  yss.flatten.length ≤ sizeLine ∧ ∀ H' p, Same H H' → H' p = some (.lst yss.flatten) → (H p = none ∨ (yss = [] ∧ p = st)) → Q (.ref p) H'
theorem cr_sumL {X : Cx} (hc : X.calm = true) : CallR X (.builtin "sum") (rSumL X.K) := by
  intro pins s σ H xs us Q I r h
  obtain ⟨l, st, ls, yss, rfl, hl, hs, hys, hsz, q⟩ := h
  obtain ⟨its0, rv, hL, _⟩ := I.list hl
  have e0 := vals_rfs rv
  subst e0
  obtain rfl : us = [Value.ref l, Value.ref st] := by
    cases r with
    | cons r1 rs =>
      cases rs with
      | cons r2 rs =>
        cases rs
        cases r1
        cases r2
        rfl
  obtain ⟨_, e0, n0, r0, _, hst⟩ := I.lstM hs
  cases r0
  have ll := hys.length
  have hval : ∀ j, ∃ a : List Value, ∀ ys, yss[j]? = some ys → Vals ys a ∧ ∃ m, IsL s.heap (ls.getD j 0) a.toArray m := fun j => by
    by_cases hj : j < yss.length
    · have gy := List.getElem?_eq_getElem hj
      obtain ⟨a, ga⟩ := get_of (xs := ls) (i := j) (by omega)
      obtain ⟨ys, gy2, ha⟩ := hys.getL ga
      obtain ⟨_, its, n, rr, _, e⟩ := I.lstM ha
      refine ⟨its, fun ys' gy' => ?_⟩
      rw [gy2] at gy'
      cases gy'
      have ea : ls.getD j 0 = a := by rw [List.getD_eq_getElem?_getD, ga] <;> rfl
      rw [ea]
      exact ⟨rr, n, e⟩
    · exact ⟨[], fun ys gy => absurd (List.getElem?_eq_some_iff.mp gy).1 hj⟩
  have hv : ∀ j ys, yss[j]? = some ys → Vals ys (Classical.choose (hval j)) := fun j ys g => (Classical.choose_spec (hval j) ys g).1
  obtain ⟨w, ew, vw⟩ := cat_vals hv yss.length 0 [] [] (Nat.zero_add _) .nil
  rw [List.drop_zero, List.nil_append] at vw
  have lw := vw.length
  have sz : (ls.map Value.ref).toArray.size = yss.length := by rw [List.size_toArray, List.length_map, ll]
  refine call_sum_cat (m := n0) (I.ok.hd hc) hL.isList (fun j => ls.getD j 0) (fun j => (Classical.choose (hval j)).toArray) (fun i v g => ?_) hst (fun j hj => ?_) ?_ fun h' tk p' m' hk hl' hn => ?_
  · rw [List.getElem?_toArray, List.getElem?_map] at g
    cases g2 : ls[i]? with
    | none =>
      rw [g2] at g
      exact nomatch g
    | some a =>
      rw [g2] at g
      rw [List.getD_eq_getElem?_getD, g2]
      exact (Option.some.inj g).symm
  · rw [sz] at hj
    exact (Classical.choose_spec (hval j) _ (List.getElem?_eq_getElem hj)).2
  · rw [sz, show (#[] : Array Value) = ([] : List Value).toArray from rfl, ew, List.size_toArray]
    omega
  · rw [sz, show (#[] : Array Value) = ([] : List Value).toArray from rfl, ew] at hl'
    rcases hn with ⟨n1, rfl⟩ | big
    · rw [sz] at n1
      have en : yss = [] := List.eq_nil_of_length_eq_zero n1
      refine ⟨.ref p', H, I.kept hk, rfl, q H p' (.refl H) (by rw [en]; exact hs) (.inr ⟨en, rfl⟩)⟩
    · have nf : H p' = none := I.hok.fresh big
      exact ⟨.ref p', upd H p' (.lst yss.flatten), I.laid hk big ⟨hsz, w, m', vw, hl'⟩, rfl, q _ p' (same_new nf) upd_same (.inl nf)⟩
end Sw

set_option Elab.async false
set_option linter.all false
set_option maxRecDepth 100000
set_option maxHeartbeats 4000000
namespace Sw
open PySem PySem.Spec PyProof.Rows L2
abbrev oBOr : R2 := rI0 fun i j => .int (Builtin.bitOr i j)
abbrev oBXor : R2 := rI0 fun i j => .int (Builtin.bitXor i j)
abbrev oShlW : R2 := rI CShl fun i j => .int (i * 2 ^ j.toNat)
abbrev oInv : V → Hp → VK → Prop := rU fun i => .int (Builtin.bitNot i)
/-! ## All rows of noughts and ones at once: a bit for each -/
def maskN {α : Type} (f : α → Bool) : List α → Nat
  | [] => 0
  | x :: l => (f x).toNat + 2 * maskN f l
section
variable {α β : Type}
theorem tb_cons (b : Bool) (m i : Nat) : (b.toNat + 2 * m).testBit i = match i with | 0 => b | i + 1 => m.testBit i := by
  cases i with
  | zero =>
    rw [Nat.testBit_zero]
    cases b
    · show decide ((0 + 2 * m) % 2 = 1) = false
      rw [decide_eq_false (by omega)]
    · show decide ((1 + 2 * m) % 2 = 1) = true
      rw [decide_eq_true (by omega)]
  | succ i =>
    rw [Nat.testBit_succ]
    have : (b.toNat + 2 * m) / 2 = m := by cases b <;> simp <;> omega
    rw [this]
theorem cons_and (a b : Bool) (m k : Nat) : (a.toNat + 2 * m) &&& (b.toNat + 2 * k) = (a && b).toNat + 2 * (m &&& k) := by
  apply Nat.eq_of_testBit_eq
  intro i
  rw [Nat.testBit_and, tb_cons, tb_cons, tb_cons]
  cases i with
  | zero => rfl
  | succ i =>
    show (m.testBit i && k.testBit i) = (m &&& k).testBit i
    rw [Nat.testBit_and]
theorem mask_and (f g : α → Bool) : ∀ l : List α, maskN f l &&& maskN g l = maskN (fun x => f x && g x) l
  | [] => by
    show 0 &&& 0 = 0
    decide
  | x :: l => by
    show ((f x).toNat + 2 * maskN f l) &&& ((g x).toNat + 2 * maskN g l) = _
    rw [cons_and, mask_and f g l] <;> rfl
theorem mask_split (f g : α → Bool) : ∀ l : List α, maskN f l = maskN (fun x => f x && g x) l + maskN (fun x => f x && !g x) l
  | [] => rfl
  | x :: l => by
    show (f x).toNat + 2 * maskN f l = ((f x && g x).toNat + 2 * _) + ((f x && !g x).toNat + 2 * _)
    have e : (f x).toNat = (f x && g x).toNat + (f x && !g x).toNat := by cases f x <;> cases g x <;> rfl
    have := mask_split f g l
    omega
theorem mask_or' (f g : α → Bool) : ∀ l : List α, maskN (fun x => f x || g x) l + maskN (fun x => f x && g x) l = maskN f l + maskN g l
  | [] => rfl
  | x :: l => by
    show ((f x || g x).toNat + 2 * _) + ((f x && g x).toNat + 2 * _) = ((f x).toNat + 2 * _) + ((g x).toNat + 2 * _)
    have e : (f x || g x).toNat + (f x && g x).toNat = (f x).toNat + (g x).toNat := by cases f x <;> cases g x <;> rfl
    have := mask_or' f g l
    omega
theorem mask_xor' (f g : α → Bool) : ∀ l : List α, maskN (fun x => f x != g x) l + 2 * maskN (fun x => f x && g x) l = maskN f l + maskN g l
  | [] => rfl
  | x :: l => by
    show ((f x != g x).toNat + 2 * _) + 2 * ((f x && g x).toNat + 2 * _) = ((f x).toNat + 2 * _) + ((g x).toNat + 2 * _)
    have e : (f x != g x).toNat + 2 * (f x && g x).toNat = (f x).toNat + (g x).toNat := by cases f x <;> cases g x <;> rfl
    have := mask_xor' f g l
    omega
theorem i_and (f g : α → Bool) (l : List α) : Builtin.bitAnd (maskN f l : Int) (maskN g l : Int) = (maskN (fun x => f x && g x) l : Nat) := by
  rw [bitAnd_pp (Int.natCast_nonneg _) (Int.natCast_nonneg _), Int.toNat_natCast, Int.toNat_natCast, mask_and]
theorem i_or (f g : α → Bool) (l : List α) : Builtin.bitOr (maskN f l : Int) (maskN g l : Int) = (maskN (fun x => f x || g x) l : Nat) := by
  rw [bitOr_and, i_and]
  have := mask_or' f g l
  omega
theorem i_xor (f g : α → Bool) (l : List α) : Builtin.bitXor (maskN f l : Int) (maskN g l : Int) = (maskN (fun x => f x != g x) l : Nat) := by
  rw [bitXor_and, i_and]
  have := mask_xor' f g l
  omega
theorem i_andnot (f g : α → Bool) (l : List α) : Builtin.bitAnd (maskN f l : Int) (Builtin.bitNot (maskN g l : Int)) = (maskN (fun x => f x && !g x) l : Nat) := by
  rw [bitAnd_not, i_and]
  have := mask_split f g l
  omega
theorem mask_zero {f : α → Bool} : ∀ {l : List α}, maskN f l = 0 ↔ ∀ x ∈ l, f x = false
  | [] => ⟨fun _ _ h => (nomatch h), fun _ => rfl⟩
  | x :: l => by
    have ih := mask_zero (f := f) (l := l)
    constructor
    · intro h
      have h' : (f x).toNat + 2 * maskN f l = 0 := h
      have h1 : (f x).toNat = 0 := by omega
      have h2 : maskN f l = 0 := by omega
      intro y hy
      cases hy with
      | head => cases e : f x with
        | false => rfl
        | true => rw [e] at h1; cases h1
      | tail _ hy => exact ih.mp h2 y hy
    · intro h
      show (f x).toNat + 2 * maskN f l = 0
      rw [h x (.head _), ih.mpr fun y hy => h y (.tail _ hy)] <;> rfl
theorem mask_congr {f g : α → Bool} : ∀ {l : List α}, (∀ x ∈ l, f x = g x) → maskN f l = maskN g l
  | [], _ => rfl
  | x :: l, h => by
    show (f x).toNat + 2 * maskN f l = (g x).toNat + 2 * maskN g l
    rw [h x (.head _), mask_congr fun y hy => h y (.tail _ hy)]
theorem mask_app (f : α → Bool) : ∀ l m : List α, maskN f (l ++ m) = maskN f l + 2 ^ l.length * maskN f m
  | [], m => by
    show maskN f m = 0 + 2 ^ 0 * maskN f m
    omega
  | x :: l, m => by
    show (f x).toNat + 2 * maskN f (l ++ m) = (f x).toNat + 2 * maskN f l + 2 ^ (l.length + 1) * maskN f m
    rw [mask_app f l m, Nat.pow_succ, Nat.mul_add, Nat.mul_comm (2 ^ l.length) 2, Nat.mul_assoc]
    omega
theorem mask_map (f : β → Bool) (g : α → β) : ∀ l : List α, maskN f (l.map g) = maskN (fun x => f (g x)) l
  | [] => rfl
  | x :: l => by
    show (f (g x)).toNat + 2 * maskN f (l.map g) = _
    rw [mask_map f g l] <;> rfl
theorem mask_lt (f : α → Bool) : ∀ l : List α, maskN f l < 2 ^ l.length
  | [] => by
    show 0 < 2 ^ 0
    decide
  | x :: l => by
    show (f x).toNat + 2 * maskN f l < 2 ^ (l.length + 1)
    have := mask_lt f l
    have : (f x).toNat ≤ 1 := by cases f x <;> decide
    rw [Nat.pow_succ]
    omega
theorem mask_ones (k : Nat) : ∀ n : Nat, maskN (fun _ : Nat => true) (List.replicate n k) = 2 ^ n - 1
  | 0 => rfl
  | n + 1 => by
    show 1 + 2 * maskN _ (List.replicate n k) = _
    rw [mask_ones k n, Nat.pow_succ]
    have := Nat.two_pow_pos n
    omega
theorem mask_true : ∀ l : List α, maskN (fun _ => true) l = 2 ^ l.length - 1
  | [] => rfl
  | x :: l => by
    show 1 + 2 * maskN _ l = 2 ^ (l.length + 1) - 1
    rw [mask_true l, Nat.pow_succ]
    have := Nat.two_pow_pos l.length
    omega
/-- the first one -/
theorem mask_first (f : α → Bool) : ∀ l : List α, maskN f l ≠ 0 → ∃ (t : Nat) (x : α), l[t]? = some x ∧ l.find? f = some x ∧ maskN f l - (maskN f l &&& (maskN f l - 1)) = 2 ^ t
  | [], h => absurd rfl h
  | x :: l, h => by
    cases e : f x with
    | true =>
      refine ⟨0, x, rfl, by rw [List.find?_cons_of_pos (h := e)], ?_⟩
      have em : maskN f (x :: l) = true.toNat + 2 * maskN f l := by
        show (f x).toNat + _ = _
        rw [e]
      have em1 : maskN f (x :: l) - 1 = false.toNat + 2 * maskN f l := by
        rw [em]
        show 1 + 2 * maskN f l - 1 = 0 + 2 * maskN f l
        omega
      rw [em1, em, cons_and]
      show 1 + 2 * maskN f l - (0 + 2 * (maskN f l &&& maskN f l)) = 1
      rw [Nat.and_self]
      omega
    | false =>
      have em : maskN f (x :: l) = false.toNat + 2 * maskN f l := by
        show (f x).toNat + _ = _
        rw [e]
      have h2 : maskN f l ≠ 0 := fun z => h (by rw [em, z] <;> rfl)
      obtain ⟨t, y, h3, h4, h5⟩ := mask_first f l h2
      refine ⟨t + 1, y, h3, by rw [List.find?_cons_of_neg (h := by rw [e]; decide), h4], ?_⟩
      have em1 : maskN f (x :: l) - 1 = true.toNat + 2 * (maskN f l - 1) := by
        rw [em]
        show 0 + 2 * maskN f l - 1 = 1 + 2 * (maskN f l - 1)
        omega
      rw [em1, em, cons_and, Nat.pow_succ, ← h5]
      show 0 + 2 * maskN f l - (0 + 2 * (maskN f l &&& (maskN f l - 1))) = _
      omega
end
theorem low_bit {α : Type} {f : α → Bool} {l : List α} (h : maskN f l ≠ 0) : ∃ (t : Nat) (x : α), l[t]? = some x ∧ l.find? f = some x ∧ Builtin.bitAnd (maskN f l : Int) (-(maskN f l : Int)) = ((2 ^ t : Nat) : Int) := by
  obtain ⟨t, x, h1, h2, h3⟩ := mask_first f l h
  refine ⟨t, x, h1, h2, ?_⟩
  have e : -(maskN f l : Int) = Builtin.bitNot ((maskN f l - 1 : Nat) : Int) := by
    show _ = -((maskN f l - 1 : Nat) : Int) - 1
    omega
  rw [e, bitAnd_not, bitAnd_pp (Int.natCast_nonneg _) (Int.natCast_nonneg _), Int.toNat_natCast, Int.toNat_natCast, ← h3]
  have : maskN f l &&& (maskN f l - 1) ≤ maskN f l := Nat.and_le_left
  omega
theorem bits_pow (t : Nat) : Builtin.Int.intBits ((2 ^ t : Nat) : Int) = t + 1 := by
  have h0 : ((2 ^ t : Nat) : Int) ≠ 0 := by
    have := Nat.two_pow_pos t
    omega
  unfold Builtin.Int.intBits
  rw [if_neg (by simpa using h0), Int.natAbs_natCast, Nat.log2_two_pow]
/-! ## Rows of noughts and ones through a web -/
theorem bits_goC {r : Row} {c : Cmp} (h : Bits r) : Bits (goC r c) := by
  unfold goC
  split
  · intro x hx
    have z : ∀ k, at0 r k = 0 ∨ at0 r k = 1 := fun k => by
      by_cases hk : k < r.length
      · have := at0_get hk
        exact h _ (List.mem_of_getElem? this)
      · left
        unfold at0
        rw [List.getD_eq_getElem?_getD, List.getElem?_eq_none (by omega)] <;> rfl
    cases mem_set hx with
    | inl hx => cases mem_set hx with
      | inl hx => exact h x hx
      | inr e => rw [e]; exact z _
    | inr e => rw [e]; exact z _
  · exact h
theorem bits_gone {cs : List Cmp} : ∀ {r : Row}, Bits r → Bits (gone cs r) := by
  induction cs with
  | nil => intro r h; exact h
  | cons c cs ih => intro r h; exact ih (bits_goC h)
theorem bits_at {r : Row} (h : Bits r) (k : Nat) : at0 r k = 0 ∨ at0 r k = 1 := by
  by_cases hk : k < r.length
  · exact h _ (List.mem_of_getElem? (at0_get hk))
  · left
    unfold at0
    rw [List.getD_eq_getElem?_getD, List.getElem?_eq_none (by omega)] <;> rfl
def one0 (r : Row) (k : Nat) : Bool := at0 r k == 1
def colV (n : Nat) (cs : List Cmp) (k : Nat) : Int := (maskN (fun r => one0 (gone cs r) k) (bares n) : Nat)
def cols (n : Nat) (cs : List Cmp) : Row := (List.range n).map (colV n cs)
theorem cols_len (n : Nat) (cs : List Cmp) : (cols n cs).length = n := by
  unfold cols
  rw [List.length_map, List.length_range]
theorem cols_at {n : Nat} {cs : List Cmp} {k : Nat} (h : k < n) : at0 (cols n cs) k = colV n cs k := by
  unfold at0 cols
  rw [List.getD_eq_getElem?_getD, List.getElem?_map, List.getElem?_range h] <;> rfl
/-- whether the row is exchanged at lines a, b behind cs -/
def gtB (cs : List Cmp) (a b : Nat) (r : Row) : Bool := decide (at0 (gone cs r) a > at0 (gone cs r) b)
theorem col_gt {n : Nat} {cs : List Cmp} {a b : Nat} : Builtin.bitAnd (colV n cs a) (Builtin.bitNot (colV n cs b)) = (maskN (gtB cs a b) (bares n) : Nat) := by
  unfold colV
  rw [i_andnot, mask_congr]
  intro r hr
  have hb := bits_gone (cs := cs) (bares_ok hr).2
  unfold gtB one0
  rcases bits_at hb a with h | h <;> rcases bits_at hb b with h2 | h2 <;> rw [h, h2] <;> rfl
theorem col_behind {n : Nat} {cs : List Cmp} {c : Cmp} (ok : CmpOk n c) : ((cols n cs).set c.1 (Builtin.bitAnd (colV n cs c.1) (colV n cs c.2))).set c.2 (Builtin.bitOr (colV n cs c.1) (colV n cs c.2)) = cols n (cs ++ [c]) := by
  have g : ∀ k, colV n (cs ++ [c]) k = (maskN (fun r => one0 (goC (gone cs r) c) k) (bares n) : Nat) := fun k => by
    unfold colV
    rw [mask_congr]
    intro r _
    rw [gone_snoc]
  apply List.ext_getElem
  · rw [List.length_set, List.length_set, cols_len, cols_len]
  · intro k h1 h2
    have hk : k < n := by rw [cols_len] at h2; exact h2
    have e0 : ∀ (ds : List Cmp) (h : k < (cols n ds).length), (cols n ds)[k] = colV n ds k := fun ds h => by
      have := cols_at (cs := ds) hk
      rw [← this]
      unfold at0
      rw [List.getD_eq_getElem?_getD, List.getElem?_eq_getElem h] <;> rfl
    have e2 := e0 _ h2
    have e1 := e0 cs
    rw [e2, List.getElem_set, List.getElem_set, g, e1]
    have val : ∀ r ∈ bares n, at0 (goC (gone cs r) c) k = if c.2 = k then max (at0 (gone cs r) c.1) (at0 (gone cs r) c.2) else if c.1 = k then min (at0 (gone cs r) c.1) (at0 (gone cs r) c.2) else at0 (gone cs r) k := fun r hr => by
      have hl : (gone cs r).length = n := by rw [gone_len, (bares_ok hr).1]
      have a1 := ok.1
      have a2 := ok.2.1
      have a3 := ok.2.2
      unfold goC
      split
      · rename_i gt
        unfold at0
        rw [List.getD_eq_getElem?_getD, List.getElem?_set, List.length_set]
        by_cases z : c.2 = k
        · rw [if_pos z, if_pos z, if_pos (by omega)]
          show (gone cs r).getD c.1 0 = max _ _
          unfold at0 at gt
          omega
        · rw [if_neg z, if_neg z, List.getElem?_set]
          by_cases y : c.1 = k
          · rw [if_pos y, if_pos y, if_pos (by omega)]
            show (gone cs r).getD c.2 0 = min _ _
            unfold at0 at gt
            omega
          · rw [if_neg y, if_neg y] <;> rfl
      · rename_i gt
        by_cases z : c.2 = k
        · rw [if_pos z, ← z]
          omega
        · rw [if_neg z]
          by_cases y : c.1 = k
          · rw [if_pos y, ← y]
            omega
          · rw [if_neg y]
    have bt : ∀ r ∈ bares n, (at0 (gone cs r) c.1 = 0 ∨ at0 (gone cs r) c.1 = 1) ∧ (at0 (gone cs r) c.2 = 0 ∨ at0 (gone cs r) c.2 = 1) := fun r hr => ⟨bits_at (bits_gone (bares_ok hr).2) _, bits_at (bits_gone (bares_ok hr).2) _⟩
    by_cases z : c.2 = k
    · rw [if_pos z]
      unfold colV
      rw [i_or, mask_congr]
      intro r hr
      unfold one0
      rw [val r hr, if_pos z]
      obtain ⟨h1 | h1, h2 | h2⟩ := bt r hr <;> rw [h1, h2] <;> rfl
    · rw [if_neg z]
      by_cases y : c.1 = k
      · rw [if_pos y]
        unfold colV
        rw [i_and, mask_congr]
        intro r hr
        unfold one0
        rw [val r hr, if_neg z, if_pos y]
        obtain ⟨h1 | h1, h2 | h2⟩ := bt r hr <;> rw [h1, h2] <;> rfl
      · rw [if_neg y]
        unfold colV
        rw [mask_congr]
        intro r hr
        unfold one0
        rw [val r hr, if_neg z, if_neg y]
/-! ### making them -/
def mkC (j k : Nat) : Int := (maskN (fun m : Nat => m.testBit k) (List.range (2 ^ j)) : Nat)
def mkCs (j : Nat) : Row := (List.range j).map (mkC j)
theorem mkC_step {j k : Nat} (h : k < j) : Builtin.bitOr (mkC j k) (mkC j k * 2 ^ (2 ^ j)) = mkC (j + 1) k := by
  unfold mkC
  have e : List.range (2 ^ (j + 1)) = List.range (2 ^ j) ++ (List.range (2 ^ j)).map (2 ^ j + ·) := by rw [Nat.pow_succ, Nat.mul_two, List.range_add]
  have lt := mask_lt (fun m : Nat => m.testBit k) (List.range (2 ^ j))
  rw [List.length_range] at lt
  rw [bitOr_comm, or_low (Int.natCast_nonneg _) (Int.natCast_nonneg _) (by rw [← PySem.W.kbt_cast]; exact Int.ofNat_lt.mpr lt), e, mask_app, mask_map, List.length_range]
  rw [mask_congr (f := fun x => (2 ^ j + x).testBit k) (g := fun m => m.testBit k) fun x _ => Nat.testBit_two_pow_add_gt h x]
  rw [cast_parts, ← Int.natCast_add, Nat.add_comm]
theorem mkC_new (j : Nat) : ((1 : Int) * 2 ^ (2 ^ j) - 1) * 2 ^ (2 ^ j) = mkC (j + 1) j := by
  unfold mkC
  have e : List.range (2 ^ (j + 1)) = List.range (2 ^ j) ++ (List.range (2 ^ j)).map (2 ^ j + ·) := by rw [Nat.pow_succ, Nat.mul_two, List.range_add]
  rw [e, mask_app, mask_map, List.length_range]
  have c1 : maskN (fun x => (2 ^ j + x).testBit j) (List.range (2 ^ j)) = maskN (fun _ => true) (List.range (2 ^ j)) := mask_congr fun x hx => by
    rw [Nat.testBit_two_pow_add_eq, Nat.testBit_lt_two_pow (List.mem_range.mp hx)] <;> rfl
  have c2 : maskN (fun m : Nat => m.testBit j) (List.range (2 ^ j)) = 0 := mask_zero.mpr fun x hx => Nat.testBit_lt_two_pow (List.mem_range.mp hx)
  rw [c1, c2, mask_true, List.length_range, Int.one_mul]
  have hp := Nat.two_pow_pos (2 ^ j)
  have e3 : (2 : Int) ^ (2 ^ j) - 1 = ((2 ^ 2 ^ j - 1 : Nat) : Int) := by
    rw [← PySem.W.kbt_cast]
    omega
  rw [e3, cast_parts, Nat.zero_add]
theorem mkCs_cols (n : Nat) : mkCs n = cols n [] := by
  unfold mkCs cols
  apply List.map_congr_left
  intro k hk
  have hk' := List.mem_range.mp hk
  unfold mkC colV bares
  rw [mask_map, mask_congr]
  intro m _
  unfold one0
  show m.testBit k = (at0 (bareR n m) k == 1)
  have e : at0 (bareR n m) k = ((m / 2 ^ k % 2 : Nat) : Int) := by
    unfold at0 bareR
    rw [List.getD_eq_getElem?_getD, List.getElem?_map, List.getElem?_range hk'] <;> rfl
  rw [e, Nat.testBit_eq_decide_div_mod_eq]
  rw [Bool.eq_iff_iff, decide_eq_true_eq, beq_iff_eq]
  omega
def firstB (n : Nat) (f : Row → Bool) : Option Row := (bares n).find? f
theorem mkC_lt (j k : Nat) : mkC j k < 2 ^ (2 ^ j) ∧ 0 ≤ mkC j k := by
  unfold mkC
  have lt := mask_lt (fun m : Nat => m.testBit k) (List.range (2 ^ j))
  rw [List.length_range] at lt
  rw [← PySem.W.kbt_cast]
  omega
/-- what stands at places that b holds of -/
def pick {α : Type} (b : Nat → Bool) : Nat → List α → List α
  | _, [] => []
  | k, x :: l => (if b k = true then [x] else []) ++ pick b (k + 1) l
theorem pick_snoc {α : Type} (b : Nat → Bool) (x : α) : ∀ (l : List α) (k : Nat), pick b k (l ++ [x]) = pick b k l ++ (if b (k + l.length) = true then [x] else [])
  | [], k => by
    show (if b k = true then [x] else []) ++ [] = [] ++ _
    rw [List.append_nil, List.nil_append, List.length_nil, Nat.add_zero]
  | y :: l, k => by
    show (if b k = true then [y] else []) ++ pick b (k + 1) (l ++ [x]) = (if b k = true then [y] else []) ++ pick b (k + 1) l ++ _
    rw [pick_snoc b x l (k + 1), List.append_assoc, List.length_cons, show k + 1 + l.length = k + (l.length + 1) by omega]
theorem pick_take {α : Type} {b : Nat → Bool} {l : List α} {i : Nat} {x : α} (h : l[i]? = some x) : pick b 0 (l.take (i + 1)) = pick b 0 (l.take i) ++ (if b i = true then [x] else []) := by
  have hi : i < l.length := (List.getElem?_eq_some_iff.mp h).1
  rw [List.take_add_one, h]
  show pick b 0 (l.take i ++ [x]) = _
  rw [pick_snoc, List.length_take, Nat.zero_add, Nat.min_eq_left (by omega)]
theorem pick_len {α : Type} (b : Nat → Bool) : ∀ (l : List α) (k : Nat), (pick b k l).length ≤ l.length
  | [], _ => Nat.le_refl _
  | x :: l, k => by
    show ((if b k = true then [x] else []) ++ pick b (k + 1) l).length ≤ l.length + 1
    have := pick_len b l (k + 1)
    rw [List.length_append]
    split
    · rw [List.length_singleton]
      omega
    · rw [List.length_nil]
      omega
theorem pick_all2 {α β : Type} {R : α → β → Prop} (b : Nat → Bool) {l : List α} {m : List β} (h : All2 R l m) : ∀ k, All2 R (pick b k l) (pick b k m) := by
  induction h with
  | nil => intro k; exact .nil
  | cons r _ ih =>
    intro k
    show All2 R ((if b k = true then [_] else []) ++ _) ((if b k = true then [_] else []) ++ _)
    refine All2.append ?_ (ih (k + 1))
    split
    · exact .one r
    · exact .nil
theorem pick_mem {α : Type} {b : Nat → Bool} {x : α} : ∀ {l : List α} {k : Nat}, x ∈ pick b k l → x ∈ l
  | [], _, h => h
  | y :: l, k, h => by
    have h' : x ∈ (if b k = true then [y] else []) ++ pick b (k + 1) l := h
    rcases List.mem_append.mp h' with h | h
    · split at h
      · rw [List.mem_singleton.mp h]
        exact .head _
      · cases h
    · exact .tail _ (pick_mem h)
def natL (ts : List Nat) : List V := ts.map fun (t : Nat) => V.int (t : Int)
theorem nat_len (l : List Nat) : (natL l).length = l.length := List.length_map ..
def stirsAt (cs : List Cmp) (k : Nat) (r : Row) : Bool := match cs[k]? with
  | some c => decide (at0 (gone (cs.take k) r) c.1 > at0 (gone (cs.take k) r) c.2)
  | none => false
def stirB (cs : List Cmp) (rs : List Row) : List Bool := (List.range cs.length).map fun k => rs.any (stirsAt cs k)
end Sw

set_option Elab.async false
set_option linter.all false
set_option maxRecDepth 100000
set_option maxHeartbeats 4000000
namespace Sw
open PySem PySem.Spec PyProof.Rows L2
/-! ## Layers and chains -/
def manyL (ts : List Nat) : Nat := ts.foldr (fun t m => max (t + 1) m) 0
theorem manyL_lt : ∀ {ts : List Nat} {t : Nat}, t ∈ ts → t < manyL ts
  | [], _, h => nomatch h
  | s :: ts, t, h => by
    show t < max (s + 1) (manyL ts)
    rcases List.mem_cons.mp h with h | h
    · omega
    · have := manyL_lt h
      omega
theorem manyL_mem : ∀ {ts : List Nat} {m : Nat}, manyL ts = m + 1 → m ∈ ts
  | [], m, h => by cases h
  | s :: ts, m, h => by
    have h' : max (s + 1) (manyL ts) = m + 1 := h
    by_cases e : s = m
    · rw [e]
      exact .head _
    · exact .tail _ (manyL_mem (by omega))
theorem manyL_app : ∀ (ts us : List Nat), manyL (ts ++ us) = max (manyL ts) (manyL us)
  | [], us => by
    show manyL us = max 0 (manyL us)
    omega
  | s :: ts, us => by
    show max (s + 1) (manyL (ts ++ us)) = max (max (s + 1) (manyL ts)) (manyL us)
    rw [manyL_app ts us]
    omega
theorem manyL_nil {ts : List Nat} (h : manyL ts = 0) : ts = [] := by
  cases ts with
  | nil => rfl
  | cons s ts =>
    have h' : max (s + 1) (manyL ts) = 0 := h
    omega
def manyT (cs : List Cmp) : Nat := manyL (tiers cs)
theorem tiers_len (cs : List Cmp) : (tiers cs).length = cs.length := tiersH_len _ cs
theorem tiers_take (cs : List Cmp) (i : Nat) : tiers (cs.take i) = (tiers cs).take i := tiersH_take _ cs i
theorem tier_back {cs : List Cmp} {q t : Nat} {c : Cmp} (hc : cs[q]? = some c) (h : (tiers cs)[q]? = some (t + 1)) : ∃ (k : Nat) (d : Cmp), k < q ∧ cs[k]? = some d ∧ (tiers cs)[k]? = some t ∧ share d c = true := by
  have g := tiers_get hc
  rw [h] at g
  have e : t + 1 = max (hgtH (fun _ => 0) (cs.take q) c.1) (hgtH (fun _ => 0) (cs.take q) c.2) := Option.some.inj g
  obtain ⟨l, hl, hh⟩ : ∃ l, (l = c.1 ∨ l = c.2) ∧ hgtH (fun _ => 0) (cs.take q) l = t + 1 := by
    by_cases z : hgtH (fun _ => 0) (cs.take q) c.1 = t + 1
    · exact ⟨_, .inl rfl, z⟩
    · exact ⟨_, .inr rfl, by omega⟩
  rcases (hgt_spec (cs.take q) l).2 with z | ⟨i, d, t', h1, h2, h3, h4⟩
  · omega
  · have hi : i < (cs.take q).length := (List.getElem?_eq_some_iff.mp h1).1
    rw [List.length_take] at hi
    have iq : i < q := by omega
    rw [List.getElem?_take_of_lt iq] at h1
    rw [tiers_take, List.getElem?_take_of_lt iq] at h3
    refine ⟨i, d, iq, h1, by rw [h3]; congr 1; omega, ?_⟩
    unfold share
    rw [decide_eq_true_eq]
    rcases hl with hl | hl <;> rcases h2 with h2 | h2
    · exact .inl (by omega)
    · exact .inr (.inr (.inl (by omega)))
    · exact .inr (.inl (by omega))
    · exact .inr (.inr (.inr (by omega)))
theorem tier_le {cs : List Cmp} {i t : Nat} (h : (tiers cs)[i]? = some t) : t ≤ manyL ((tiers cs).take i) := by
  cases t with
  | zero => exact Nat.zero_le _
  | succ t =>
    have hi : i < cs.length := by
      have := (List.getElem?_eq_some_iff.mp h).1
      rw [tiers_len] at this
      exact this
    obtain ⟨c, hc⟩ := get_of hi
    obtain ⟨k, d, hk, _, ht, _⟩ := tier_back hc h
    have : t ∈ (tiers cs).take i := List.mem_of_getElem? (i := k) (by rw [List.getElem?_take_of_lt hk]; exact ht)
    exact manyL_lt this
/-! ### layers -/
def layI (cs : List Cmp) (i : Nat) (u : Nat) : List Cmp := layerOf (cs.take i) ((tiers cs).take i) u
theorem layI_step {cs : List Cmp} {i t : Nat} {c : Cmp} (hc : cs[i]? = some c) (ht : (tiers cs)[i]? = some t) (u : Nat) : layI cs (i + 1) u = layI cs i u ++ (if t = u then [c] else []) := by
  have hi : i < cs.length := (List.getElem?_eq_some_iff.mp hc).1
  unfold layI layerOf
  rw [List.take_add_one, List.take_add_one (l := tiers cs), hc, ht]
  show List.map _ (List.filter _ ((cs.take i ++ [c]).zip ((tiers cs).take i ++ [t]))) = _
  rw [List.zip_append (by rw [List.length_take, List.length_take, tiers_len]), List.filter_append, List.map_append]
  congr 1
  show List.map _ (List.filter _ [(c, t)]) = _
  by_cases e : t = u
  · rw [List.filter_cons_of_pos (by simpa using e), if_pos e] <;> rfl
  · rw [List.filter_cons_of_neg (by simpa using e), if_neg e] <;> rfl
theorem layI_nil {cs : List Cmp} {i u : Nat} (h : manyL ((tiers cs).take i) ≤ u) : layI cs i u = [] := by
  unfold layI layerOf
  rw [List.map_eq_nil_iff, List.filter_eq_nil_iff]
  rintro ⟨d, t⟩ hd
  have := (List.of_mem_zip hd).2
  have := manyL_lt this
  simp only [beq_iff_eq]
  omega
def layL (cs : List Cmp) (i M : Nat) : List (List Cmp) := (List.range M).map (layI cs i)
def layersOf (cs : List Cmp) : List (List Cmp) := layL cs cs.length (manyT cs)
theorem layL_len (cs : List Cmp) (i M : Nat) : (layL cs i M).length = M := by
  unfold layL
  rw [List.length_map, List.length_range]
theorem layL_get {cs : List Cmp} {i M u : Nat} (h : u < M) : (layL cs i M)[u]? = some (layI cs i u) := by
  unfold layL
  rw [List.getElem?_map, List.getElem?_range h] <;> rfl
theorem layL_set {cs : List Cmp} {i M t : Nat} {c : Cmp} (hc : cs[i]? = some c) (ht : (tiers cs)[i]? = some t) : (layL cs i M).set t (layI cs i t ++ [c]) = layL cs (i + 1) M := by
  apply List.ext_getElem
  · rw [List.length_set, layL_len, layL_len]
  · intro u h1 h2
    have hu : u < M := by rw [layL_len] at h2; exact h2
    have e : ∀ (j : Nat) (h : u < (layL cs j M).length), (layL cs j M)[u] = layI cs j u := fun j h => by
      have := layL_get (cs := cs) (i := j) hu
      rw [List.getElem?_eq_getElem h] at this
      exact Option.some.inj this
    rw [List.getElem_set, e, e, layI_step hc ht]
    by_cases z : t = u
    · rw [if_pos z, if_pos z, z]
    · rw [if_neg z, if_neg z, List.append_nil]
theorem layL_zero (cs : List Cmp) (M : Nat) : layL cs 0 M = (List.range M).map fun _ => [] := by
  unfold layL
  apply List.map_congr_left
  intro u _
  rfl
theorem layL_more (cs : List Cmp) (i : Nat) : layL cs i (manyL ((tiers cs).take i) + 1) = layL cs i (manyL ((tiers cs).take i)) ++ [[]] := by
  unfold layL
  rw [List.range_succ, List.map_append]
  show _ ++ [layI cs i _] = _
  rw [layI_nil (Nat.le_refl _)]
theorem layersOf_eq (cs : List Cmp) : layersOf cs = (List.range (manyT cs)).map (layerOf cs (tiers cs)) := by
  unfold layersOf layL
  apply List.map_congr_left
  intro u _
  unfold layI
  rw [List.take_length, ← tiers_len, List.take_length]
/-! ### a chain, from its end -/
def tAt (cs : List Cmp) (k : Nat) : Int := ((tiers cs).getD k 0 : Nat)
def cAt (cs : List Cmp) (k : Nat) : Cmp := cs.getD k (0, 0)
def topT (cs : List Cmp) : Int := ((manyT cs - 1 : Nat) : Int)
def chOk (cs : List Cmp) (k : Nat) (st : List Nat × Int) : Prop := tAt cs k = st.2 ∧ ∀ q, st.1.getLast? = some q → share (cAt cs k) (cAt cs q) = true
instance (cs : List Cmp) (k : Nat) (st : List Nat × Int) : Decidable (chOk cs k st) := by
  unfold chOk
  cases h : st.1.getLast? with
  | none => exact if e : tAt cs k = st.2 then isTrue ⟨e, fun q z => nomatch z⟩ else isFalse fun z => e z.1
  | some q => exact if e : tAt cs k = st.2 ∧ share (cAt cs k) (cAt cs q) = true then isTrue ⟨e.1, fun q' z => by cases z; exact e.2⟩ else isFalse fun z => e ⟨z.1, z.2 q rfl⟩
def chStep (cs : List Cmp) (k : Nat) (st : List Nat × Int) : List Nat × Int := if chOk cs k st then (st.1 ++ [k], st.2 - 1) else st
def chSt (cs : List Cmp) : Nat → List Nat × Int
  | 0 => ([], topT cs)
  | i + 1 => chStep cs (cs.length - 1 - i) (chSt cs i)
def chainOf (cs : List Cmp) : List Nat := (chSt cs cs.length).1.reverse
structure ChI (cs : List Cmp) (i : Nat) (st : List Nat × Int) : Prop where
  w : st.2 = topT cs - st.1.length
  at' : ∀ (j k : Nat), st.1[j]? = some k → cs.length - i ≤ k ∧ k < cs.length ∧ tAt cs k = topT cs - j
  nb : ∀ (j k k' : Nat), st.1[j]? = some k → st.1[j + 1]? = some k' → k' < k ∧ share (cAt cs k') (cAt cs k) = true
  no : st.1 = [] → ∀ k : Nat, cs.length - i ≤ k → k < cs.length → tAt cs k ≠ topT cs
  la : ∀ q : Nat, st.1.getLast? = some q → ∀ k : Nat, cs.length - i ≤ k → k < q → ¬ (tAt cs k = st.2 ∧ share (cAt cs k) (cAt cs q) = true)
theorem last_at {l : List Nat} {q : Nat} (h : l.getLast? = some q) : l[l.length - 1]? = some q := by rw [← List.getLast?_eq_getElem?]; exact h
theorem ch_inv (cs : List Cmp) : ∀ i, i ≤ cs.length → ChI cs i (chSt cs i)
  | 0, _ => ⟨by show topT cs = topT cs - ((0 : Nat) : Int); omega, fun j k h => (nomatch h), fun j k k' h => (nomatch h), fun _ k h1 h2 => by omega, fun q h => nomatch h⟩
  | i + 1, hi => by
    have I := ch_inv cs i (by omega)
    show ChI cs (i + 1) (chStep cs (cs.length - 1 - i) (chSt cs i))
    generalize chSt cs i = st at I
    obtain ⟨ps, w⟩ := st
    have ek : cs.length - 1 - i = cs.length - (i + 1) := by omega
    rw [ek]
    unfold chStep
    by_cases c : chOk cs (cs.length - (i + 1)) (ps, w)
    · rw [if_pos c]
      obtain ⟨c1, c2⟩ := c
      have iw : w = topT cs - ps.length := I.w
      have c1' : tAt cs (cs.length - (i + 1)) = w := c1
      refine ⟨?_, ?_, ?_, ?_, ?_⟩
      · show w - 1 = topT cs - ((ps ++ [_]).length : Nat)
        rw [List.length_append, List.length_singleton]
        omega
      · intro j k h
        rcases Nat.lt_or_ge j ps.length with hj | hj
        · rw [List.getElem?_append_left hj] at h
          obtain ⟨a1, a2, a3⟩ := I.at' j k h
          exact ⟨by omega, a2, a3⟩
        · rw [List.getElem?_append_right hj] at h
          have hj2 : j - ps.length = 0 := by
            have := (List.getElem?_eq_some_iff.mp h).1
            rw [List.length_singleton] at this
            omega
          rw [hj2] at h
          have e := Option.some.inj h
          subst e
          refine ⟨Nat.le_refl _, by omega, ?_⟩
          rw [c1', iw]
          omega
      · intro j k k' h h'
        have hj1 : j + 1 < ps.length + 1 := by
          have := (List.getElem?_eq_some_iff.mp h').1
          rw [List.length_append, List.length_singleton] at this
          exact this
        have hj0 : j < ps.length := by omega
        rw [List.getElem?_append_left (show j < (ps, w).1.length from hj0)] at h
        rcases Nat.lt_or_ge (j + 1) ps.length with hj | hj
        · rw [List.getElem?_append_left hj] at h'
          exact I.nb j k k' h h'
        · rw [List.getElem?_append_right hj, show j + 1 - ps.length = 0 by omega] at h'
          have e := Option.some.inj h'
          subst e
          have hl : ps.getLast? = some k := by rw [List.getLast?_eq_getElem?, show ps.length - 1 = j by omega]; exact h
          obtain ⟨a1, a2, a3⟩ := I.at' j k h
          refine ⟨by omega, c2 k hl⟩
      · intro z
        exact absurd z (by simp)
      · intro q hq k h1 h2
        have e : cs.length - (i + 1) = q := by
          have hq' : (ps ++ [cs.length - (i + 1)]).getLast? = some q := hq
          rw [List.getLast?_concat] at hq'
          exact Option.some.inj hq'
        omega
    · rw [if_neg c]
      refine ⟨I.w, fun j k h => ?_, I.nb, fun z k h1 h2 => ?_, fun q hq k h1 h2 => ?_⟩
      · obtain ⟨a1, a2, a3⟩ := I.at' j k h
        exact ⟨by omega, a2, a3⟩
      · have z' : ps = [] := z
        rcases Nat.eq_or_lt_of_le h1 with e | e
        · subst e
          intro t
          refine c ⟨?_, fun q hq => ?_⟩
          · have iw : w = topT cs - ps.length := I.w
            rw [z'] at iw
            show _ = w
            rw [t, iw]
            show _ = topT cs - ((0 : Nat) : Int)
            omega
          · have hq' : ps.getLast? = some q := hq
            rw [z'] at hq'
            cases hq'
        · exact I.no z k (by omega) h2
      · rcases Nat.eq_or_lt_of_le h1 with e | e
        · subst e
          rintro ⟨t1, t2⟩
          refine c ⟨t1, fun q' hq' => ?_⟩
          have : q' = q := Option.some.inj (hq'.symm.trans hq)
          rw [this]
          exact t2
        · exact I.la q hq k (by omega) h2
theorem tAt_get {cs : List Cmp} {k t : Nat} (h : (tiers cs)[k]? = some t) : tAt cs k = t := by
  unfold tAt
  rw [List.getD_eq_getElem?_getD, h] <;> rfl
theorem cAt_get {cs : List Cmp} {k : Nat} {c : Cmp} (h : cs[k]? = some c) : cAt cs k = c := by
  unfold cAt
  rw [List.getD_eq_getElem?_getD, h] <;> rfl
theorem chain_len (cs : List Cmp) : (chainOf cs).length = manyT cs := by
  have I := ch_inv cs cs.length (Nat.le_refl _)
  unfold chainOf
  rw [List.length_reverse]
  generalize chSt cs cs.length = st at I
  obtain ⟨ps, w⟩ := st
  have iw : w = topT cs - ps.length := I.w
  show ps.length = manyT cs
  cases hl : ps.getLast? with
  | none =>
    have z : ps = [] := List.getLast?_eq_none_iff.mp hl
    cases hm : manyT cs with
    | zero => rw [z] <;> rfl
    | succ m =>
      exfalso
      obtain ⟨k, hk⟩ := List.getElem?_of_mem (manyL_mem hm)
      have hk2 := (List.getElem?_eq_some_iff.mp hk).1
      rw [tiers_len] at hk2
      refine I.no z k (by omega) hk2 ?_
      rw [tAt_get hk]
      unfold topT
      rw [hm] <;> rfl
  | some q =>
    have hq := last_at hl
    have lp : ps.length ≠ 0 := fun z => by
      rw [List.eq_nil_of_length_eq_zero z] at hl
      cases hl
    obtain ⟨a1, a2, a3⟩ := I.at' _ _ hq
    obtain ⟨t, ht⟩ := get_of (xs := tiers cs) (i := q) (by rw [tiers_len]; exact a2)
    rw [tAt_get ht] at a3
    have mt : t < manyT cs := manyL_lt (List.mem_of_getElem? ht)
    unfold topT at a3
    cases t with
    | zero => omega
    | succ t =>
      exfalso
      obtain ⟨c, hc⟩ := get_of a2
      obtain ⟨k, d, hk, hd, hkt, hs⟩ := tier_back hc ht
      refine I.la q hl k (by omega) hk ⟨?_, ?_⟩
      · rw [tAt_get hkt]
        show (t : Int) = w
        rw [iw]
        unfold topT
        omega
      · rw [cAt_get hd, cAt_get hc]
        exact hs
theorem chain_lt {cs : List Cmp} {k : Nat} (h : k ∈ chainOf cs) : k < cs.length := by
  obtain ⟨j, hj⟩ := List.getElem?_of_mem (List.mem_reverse.mp h)
  exact ((ch_inv cs cs.length (Nat.le_refl _)).at' j k hj).2.1
theorem chain_nb {cs : List Cmp} {j a b : Nat} (h1 : (chainOf cs)[j]? = some a) (h2 : (chainOf cs)[j + 1]? = some b) : a < b ∧ share (cAt cs a) (cAt cs b) = true := by
  have l2 := (List.getElem?_eq_some_iff.mp h2).1
  unfold chainOf at h1 h2 l2
  rw [List.length_reverse] at l2
  rw [List.getElem?_reverse (by omega)] at h1 h2
  refine (ch_inv cs cs.length (Nat.le_refl _)).nb ((chSt cs cs.length).1.length - 1 - (j + 1)) b a h2 ?_
  rw [show (chSt cs cs.length).1.length - 1 - (j + 1) + 1 = (chSt cs cs.length).1.length - 1 - j by omega]
  exact h1
theorem ch_len (cs : List Cmp) : ∀ i, (chSt cs i).1.length ≤ i
  | 0 => Nat.le_refl _
  | i + 1 => by
    have := ch_len cs i
    show (chStep cs _ (chSt cs i)).1.length ≤ i + 1
    unfold chStep
    split
    · show ((chSt cs i).1 ++ [_]).length ≤ i + 1
      rw [List.length_append, List.length_singleton]
      omega
    · omega
end Sw

set_option Elab.async false
set_option linter.all false
set_option maxRecDepth 100000
set_option maxHeartbeats 4000000
namespace Sw
open PySem PySem.Spec PyProof.Rows L2
def topS (i : Nat) : Stmt := PySem.Challenge.pw_sortweb_k12_whole_noughts_and_ones.main.body.getD i (.Pass ⟨0, 0, 0, 0⟩)
/-! ## Promises of the law's own drawing -/
def sp_ldraw (K : PySem.W.Frag) : Sp := fun vs H Q _ => ∃ c k j : Int, vs = [.int c, .int k, .int j] ∧ (0 ≤ k ∧ k ≤ 1000) ∧ (0 ≤ j ∧ j ≤ 1000) ∧ ∀ n : Int, 0 ≤ n → n < 715827877 → Q (.int n) H
def sp_lbricks (K : PySem.W.Frag) : Sp := fun vs H Q _ => ∃ n : Nat, vs = [.int (n : Int)] ∧ n ≤ 7 ∧
  ∀ H' l ps cs, Same H H' → H l = none → H' l = some (.lst (Rfs ps)) → Prs K H' ps cs → CmpsOk n cs → cs.length ≤ 28 → Q (.ref l) H'
def sp_lcomparer (K : PySem.W.Frag) : Sp := fun vs H Q _ => ∃ (m : Int) (n : Nat), vs = [.int m, .int (n : Int)] ∧ 0 ≤ m ∧ 2 ≤ n ∧ n ≤ 10 ∧
  ∀ H' p c, Same H H' → H p = none → H' p = some (.tup (V2 c)) → CmpOk n c → Q (.ref p) H'
def sp_lweb (K : PySem.W.Frag) : Sp := fun vs H Q _ => ∃ (a : Addr) (ns : List Int), vs = [.ref a] ∧ SqL K H a (ns.map V.int) ∧ ns.length ≤ 63 ∧
  ∀ (H' : Hp) (p c : Addr) (ps : List Addr) (n : Nat) (cs : List Cmp), Same H H' → H p = none → H c = none → H' p = some (.tup [.int (n : Int), .ref c]) → H' c = some (.lst (Rfs ps)) → Prs K H' ps cs → WebOk n cs → 1 ≤ n → n ≤ 7 → Q (.ref p) H'
/-! ## Promises of the program, where nothing is refused -/
def WebAt (K : PySem.W.Frag) (H : Hp) (a : Addr) (n : Nat) (cs : List Cmp) : Prop := ∃ ps : List Addr, SqL K H a (Rfs ps) ∧ Prs K H ps cs ∧ WebOk n cs ∧ 1 ≤ n ∧ n ≤ 10
def sp_iswhole (K : PySem.W.Frag) : Sp := fun vs H Q _ => ∃ (v : V) (T : String), vs = [v] ∧ TyB K H v T ∧ Q (.bl (decide (T = "int"))) H
def sp_isline (K : PySem.W.Frag) : Sp := fun vs H Q _ => ∃ n i : Int, vs = [.int n, .int i] ∧ Q (.bl (decide (0 ≤ i ∧ i < n))) H
def sp_iscomparer (K : PySem.W.Frag) : Sp := fun vs H Q _ => ∃ (n : Nat) (p : Addr) (c : Cmp), vs = [.int (n : Int), .ref p] ∧ SqT K H p (V2 c) ∧ CmpOk n c ∧ Q (.bl true) H
def sp_needlines (K : PySem.W.Frag) : Sp := fun vs H Q _ => ∃ n : Nat, vs = [.int (n : Int)] ∧ 1 ≤ n ∧ n ≤ 10 ∧ Q .non H
def sp_needweb (K : PySem.W.Frag) : Sp := fun vs H Q _ => ∃ (n : Nat) (a : Addr) (cs : List Cmp), vs = [.int (n : Int), .ref a] ∧ WebAt K H a n cs ∧ ∀ H', Same H H' → Q .non H'
def sp_needrow (K : PySem.W.Frag) : Sp := fun vs H Q _ => ∃ (n : Nat) (a : Addr) (r : Row), vs = [.int (n : Int), .ref a] ∧ SqL K H a (vis r) ∧ r.length = n ∧ n ≤ 10 ∧ ∀ H', Same H H' → Q .non H'
def sp_run (K : PySem.W.Frag) : Sp := fun vs H Q _ => ∃ (n : Nat) (a b : Addr) (cs : List Cmp) (r : Row), vs = [.int (n : Int), .ref a, .ref b] ∧ WebAt K H a n cs ∧ SqL K H b (vis r) ∧ r.length = n ∧
  ∀ H' p, Same H H' → H p = none → H' p = some (.lst (vis (gone cs r))) → Q (.ref p) H'
def sp_steps (K : PySem.W.Frag) : Sp := fun vs H Q _ => ∃ (n : Nat) (a b : Addr) (cs : List Cmp) (r : Row), vs = [.int (n : Int), .ref a, .ref b] ∧ WebAt K H a n cs ∧ SqL K H b (vis r) ∧ r.length = n ∧
  ∀ H' p qs, Same H H' → H p = none → H' p = some (.lst (Rfs qs)) → Own H H' qs (trace cs r) → Q (.ref p) H'
def sp_rbehind (K : PySem.W.Frag) : Sp := fun vs H Q _ => ∃ (a b : Addr) (n : Nat) (r : Row) (c : Cmp), vs = [.ref a, .ref b] ∧ SqL K H a (vis r) ∧ r.length = n ∧ SqT K H b (V2 c) ∧ CmpOk n c ∧ ∀ H' p, Same H H' → H p = none → H' p = some (.lst (vis (goC r c))) → Q (.ref p) H'
/-! ## Promises of the columns -/
def sp_allcolumns (K : PySem.W.Frag) : Sp := fun vs H Q _ => ∃ n : Nat, vs = [.int (n : Int)] ∧ n ≤ 10 ∧ ∀ H' p, Same H H' → H p = none → H' p = some (.lst (vis (cols n []))) → Q (.ref p) H'
def sp_greater (K : PySem.W.Frag) : Sp := fun vs H Q _ => ∃ (x : Addr) (n a b : Nat) (cs : List Cmp), vs = [.ref x, .int (a : Int), .int (b : Int)] ∧ SqL K H x (vis (cols n cs)) ∧ a < n ∧ b < n ∧ Q (.int (maskN (gtB cs a b) (bares n) : Nat)) H
def sp_behind (K : PySem.W.Frag) : Sp := fun vs H Q _ => ∃ (x y : Addr) (n : Nat) (cs : List Cmp) (c : Cmp), vs = [.ref x, .ref y] ∧ SqL K H x (vis (cols n cs)) ∧ SqT K H y (V2 c) ∧ CmpOk n c ∧ ∀ H' p, Same H H' → H p = none → H' p = some (.lst (vis (cols n (cs ++ [c])))) → Q (.ref p) H'
def sp_columnsout (K : PySem.W.Frag) : Sp := fun vs H Q _ => ∃ (n : Nat) (a : Addr) (cs : List Cmp), vs = [.int (n : Int), .ref a] ∧ WebAt K H a n cs ∧ ∀ H' p, Same H H' → H p = none → H' p = some (.lst (vis (cols n cs))) → Q (.ref p) H'
/-- the row that is told, one and the same each time; None where there is none -/
def TellsB (K : PySem.W.Frag) (H : Hp) (Q : VK) (n : Nat) (f : Row → Bool) : Prop := (firstB n f = none → ∀ H', Same H H' → Q .non H') ∧ ∀ r, firstB n f = some r → ∀ H' p, Same H H' → H p = none → H' p = some (.lst (vis r)) → Q (.ref p) H'
def sp_rowof (K : PySem.W.Frag) : Sp := fun vs H Q _ => ∃ n t : Nat, vs = [.int (n : Int), .int (t : Int)] ∧ n ≤ 10 ∧ ∀ H' p, Same H H' → H p = none → H' p = some (.lst (vis (bareR n t))) → Q (.ref p) H'
def sp_firstrow (K : PySem.W.Frag) : Sp := fun vs H Q _ => ∃ (n : Nat) (f : Row → Bool), vs = [.int (n : Int), .int (maskN f (bares n) : Nat)] ∧ n ≤ 10 ∧ TellsB K H Q n f
def sp_needplace (K : PySem.W.Frag) : Sp := fun vs H Q _ => ∃ (a : Addr) (xs : List V) (k : Nat), vs = [.ref a, .int (k : Int)] ∧ SqL K H a xs ∧ k < xs.length ∧ Q .non H
def sp_stirring (K : PySem.W.Frag) : Sp := fun vs H Q _ => ∃ (n : Nat) (a : Addr) (cs : List Cmp) (k : Nat), vs = [.int (n : Int), .ref a, .int (k : Int)] ∧ WebAt K H a n cs ∧ k < cs.length ∧ TellsB K H Q n (stirsAt cs k)
/-- the places of needless comparers -/
def idle (n : Nat) (cs : List Cmp) : List Nat := (List.range cs.length).filter fun k => !(bares n).any (stirsAt cs k)
def lean (n : Nat) (cs : List Cmp) : List Cmp := pick (fun k => (bares n).any (stirsAt cs k)) 0 cs
def sp_needless (K : PySem.W.Frag) : Sp := fun vs H Q _ => ∃ (n : Nat) (a : Addr) (cs : List Cmp), vs = [.int (n : Int), .ref a] ∧ WebAt K H a n cs ∧ ∀ H' p, Same H H' → H p = none → H' p = some (.lst (natL (idle n cs))) → Q (.ref p) H'
def sp_pruned (K : PySem.W.Frag) : Sp := fun vs H Q _ => ∃ (n : Nat) (a : Addr) (cs : List Cmp), vs = [.int (n : Int), .ref a] ∧ WebAt K H a n cs ∧ ∀ H' p ps, Same H H' → H p = none → H' p = some (.lst (Rfs ps)) → Prs K H' ps (lean n cs) → Q (.ref p) H'
def sortsB (cs : List Cmp) (n : Nat) (r : Row) : Bool := (List.range (n - 1)).any fun k => gtB cs k (k + 1) r
def sp_unsorted (K : PySem.W.Frag) : Sp := fun vs H Q _ => ∃ (n : Nat) (a : Addr) (cs : List Cmp), vs = [.int (n : Int), .ref a] ∧ WebAt K H a n cs ∧ TellsB K H Q n (sortsB cs n)
def diffB (cs ds : List Cmp) (n : Nat) (r : Row) : Bool := (List.range n).any fun k => one0 (gone cs r) k != one0 (gone ds r) k
def sp_differing (K : PySem.W.Frag) : Sp := fun vs H Q _ => ∃ (n : Nat) (a b : Addr) (cs ds : List Cmp), vs = [.int (n : Int), .ref a, .ref b] ∧ WebAt K H a n cs ∧ WebAt K H b n ds ∧ TellsB K H Q n (diffB cs ds n)
theorem TellsB.on {K : PySem.W.Frag} {H H1 : Hp} {Q : VK} {n : Nat} {f : Row → Bool} (s : Same H H1) (t : TellsB K H Q n f) : TellsB K H1 Q n f :=
  ⟨fun z H' s' => t.1 z H' (s.trans s'), fun r z H' p s' np hp => t.2 r z H' p (s.trans s') (s.free np) hp⟩
def sp_lrows (K : PySem.W.Frag) : Sp := fun vs H Q _ => ∃ (a : Addr) (ns : List Int) (n : Nat), vs = [.ref a, .int (n : Int)] ∧ SqL K H a (ns.map V.int) ∧ ns.length ≤ 63 ∧ 1 ≤ n ∧ n ≤ 10 ∧
  ∀ H' p qs rs, Same H H' → H p = none → H' p = some (.lst (Rfs qs)) → Own H H' qs rs → (∀ r ∈ rs, r.length = n) → rs.length ≤ 73 → 1 ≤ rs.length → Q (.ref p) H'
def sp_llaid (K : PySem.W.Frag) : Sp := fun vs H Q _ => ∃ (a b : Addr) (n : Nat) (bs rs : Row), vs = [.ref a, .ref b] ∧ SqL K H a (vis bs) ∧ SqL K H b (vis rs) ∧ bs.length = n ∧ rs.length = n ∧ n ≤ 10 ∧ Bits bs ∧
  ∀ H' p (s : Row) (t : Int), Same H H' → H p = none → H' p = some (.lst (vis s)) → s.length = n → s.map (thr t) = bs → Q (.ref p) H'
def sp_lplacesgood (K : PySem.W.Frag) : Sp := fun vs H Q _ => ∃ (n : Nat) (a R : Addr) (cs : List Cmp) (m : Int) (qs : List Addr) (rs : List Row), vs = [.int (n : Int), .ref a, .ref R, .int m] ∧ 0 ≤ m ∧ WebAt K H a n cs ∧ SqL K H R (Rfs qs) ∧ Rws K H qs rs ∧ (∀ r ∈ rs, r.length = n) ∧ rs.length ≤ 100 ∧ ∀ H', Same H H' → Q (.bl true) H'
abbrev sp_law := spLaw

/-! ### all_columns(lines): slots 0 lines, 1 columns, 2 rows, 3 _, 4 column -/
abbrev s_allcolumns : Stmt := topS 1
abbrev N_allcolumns : List Str := ["lines", "columns", "rows", "_", "column"]
abbrev P_allcolumns : List Str := ["lines"]
theorem sc_allcolumns : FnScope N_allcolumns P_allcolumns (defScope s_allcolumns) := ⟨rfl, rfl, rfl, by decide +kernel, rfl, by decide +kernel, by decide +kernel⟩
def r_allcolumns_f1 (K : PySem.W.Frag) : TS :=
  tSeq (tAsg (tLc (iList K (tVar 1)) (gName 4) (tYes) (tOp oBOr (tVar 4) (tOp oShlW (tVar 4) (tVar 2))) [4]) (gName 1)) (tSeq (tDrop (tBM K "list" rAppend (tVar 1) (tCons (tOp oShlW (tOp oSub (tOp oShlW (tC (.int 1)) (tVar 2)) (tC (.int 1))) (tVar 2)) (tNil)))) (tAsg (tOp oMul (tC (.int 2)) (tVar 2)) (gName 2)))
def r_allcolumns (K : PySem.W.Frag) : TS :=
  tSeq (tAsg (tLst (tNil)) (gName 1)) (tSeq (tAsg (tC (.int 1)) (gName 2)) (tSeq (tFor (iRng1 (tCons (tVar 0) (tNil))) (gName 3) (r_allcolumns_f1 K)) (tRet (tVar 1))))
/-! ### greater(columns, a, b): slots 0 columns, 1 a, 2 b -/
abbrev s_greater : Stmt := topS 2
abbrev N_greater : List Str := ["columns", "a", "b"]
abbrev P_greater : List Str := ["columns", "a", "b"]
theorem sc_greater : FnScope N_greater P_greater (defScope s_greater) := ⟨rfl, rfl, rfl, by decide +kernel, rfl, by decide +kernel, by decide +kernel⟩
def r_greater (K : PySem.W.Frag) : TS :=
  tRet (tOp oBAnd (tOp (rIxL K) (tVar 0) (tVar 1)) (tUn oInv (tOp (rIxL K) (tVar 0) (tVar 2))))
/-! ### behind(columns, comparer): slots 0 columns, 1 comparer, 2 a, 3 b, 4 out -/
abbrev s_behind : Stmt := topS 3
abbrev N_behind : List Str := ["columns", "comparer", "a", "b", "out"]
abbrev P_behind : List Str := ["columns", "comparer"]
theorem sc_behind : FnScope N_behind P_behind (defScope s_behind) := ⟨rfl, rfl, rfl, by decide +kernel, rfl, by decide +kernel, by decide +kernel⟩
def r_behind (K : PySem.W.Frag) : TS :=
  tSeq (tAsg (tVar 1) (gTup K 2 (gCons (gName 2) (gCons (gName 3) (gNil))))) (tSeq (tAsg (tCB (kList K) (tCons (tVar 0) (tNil))) (gName 4)) (tSeq (tAsg (tOp oBAnd (tOp (rIxL K) (tVar 0) (tVar 2)) (tOp (rIxL K) (tVar 0) (tVar 3))) (gSub (tVar 4) (tVar 2) rSetL)) (tSeq (tAsg (tOp oBOr (tOp (rIxL K) (tVar 0) (tVar 2)) (tOp (rIxL K) (tVar 0) (tVar 3))) (gSub (tVar 4) (tVar 3) rSetL)) (tRet (tVar 4)))))
/-! ### columns_out(lines, comparers): slots 0 lines, 1 comparers, 2 columns, 3 comparer -/
abbrev s_columnsout : Stmt := topS 4
abbrev N_columnsout : List Str := ["lines", "comparers", "columns", "comparer"]
abbrev P_columnsout : List Str := ["lines", "comparers"]
theorem sc_columnsout : FnScope N_columnsout P_columnsout (defScope s_columnsout) := ⟨rfl, rfl, rfl, by decide +kernel, rfl, by decide +kernel, by decide +kernel⟩
def r_columnsout_f1 (K : PySem.W.Frag) : TS :=
  tAsg (tCal (sp_behind K) (tCons (tVar 2) (tCons (tVar 3) (tNil)))) (gName 2)
def r_columnsout (K : PySem.W.Frag) : TS :=
  tSeq (tAsg (tCal (sp_allcolumns K) (tCons (tVar 0) (tNil))) (gName 2)) (tSeq (tFor (iList K (tVar 1)) (gName 3) (r_columnsout_f1 K)) (tRet (tVar 2)))
/-! ### first_row(lines, rows): slots 0 lines, 1 rows -/
abbrev s_firstrow : Stmt := topS 5
abbrev N_firstrow : List Str := ["lines", "rows"]
abbrev P_firstrow : List Str := ["lines", "rows"]
theorem sc_firstrow : FnScope N_firstrow P_firstrow (defScope s_firstrow) := ⟨rfl, rfl, rfl, by decide +kernel, rfl, by decide +kernel, by decide +kernel⟩
def r_firstrow (K : PySem.W.Frag) : TS :=
  tSeq (tIfS (tTest (tOp rEq (tVar 1) (tC (.int 0)))) (tRet (tC .non)) (tNext)) (tRet (tCal (sp_rowof K) (tCons (tVar 0) (tCons (tOp oSub (tBits (tOp oBAnd (tVar 1) (tUn oNeg (tVar 1)))) (tC (.int 1))) (tNil)))))
/-! ### row_of(lines, number): slots 0 lines, 1 number, 2 line -/
abbrev s_rowof : Stmt := topS 6
abbrev N_rowof : List Str := ["lines", "number", "line"]
abbrev P_rowof : List Str := ["lines", "number"]
theorem sc_rowof : FnScope N_rowof P_rowof (defScope s_rowof) := ⟨rfl, rfl, rfl, by decide +kernel, rfl, by decide +kernel, by decide +kernel⟩
def r_rowof (K : PySem.W.Frag) : TS :=
  tRet (tLc (iRng1 (tCons (tVar 0) (tNil))) (gName 2) (tYes) (tOp oBAnd (tOp oShr (tVar 1) (tVar 2)) (tC (.int 1))) [2])
/-! ### is_whole(value): slots 0 value -/
abbrev s_iswhole : Stmt := topS 16
abbrev N_iswhole : List Str := ["value"]
abbrev P_iswhole : List Str := ["value"]
theorem sc_iswhole : FnScope N_iswhole P_iswhole (defScope s_iswhole) := ⟨rfl, rfl, rfl, by decide +kernel, rfl, by decide +kernel, by decide +kernel⟩
def r_iswhole (K : PySem.W.Frag) : TS :=
  tRet (tOp rIsTyB (tCB (rTyp K) (tCons (tVar 0) (tNil))) (tC (.ty "int")))
/-! ### is_comparer(lines, value): slots 0 lines, 1 value, 2 a, 3 b -/
abbrev s_iscomparer : Stmt := topS 17
abbrev N_iscomparer : List Str := ["lines", "value", "a", "b"]
abbrev P_iscomparer : List Str := ["lines", "value"]
theorem sc_iscomparer : FnScope N_iscomparer P_iscomparer (defScope s_iscomparer) := ⟨rfl, rfl, rfl, by decide +kernel, rfl, by decide +kernel, by decide +kernel⟩
def r_iscomparer (K : PySem.W.Frag) : TS :=
  tSeq (tIfS (tOr (tTest (tOp rNT (tCB (rTyp K) (tCons (tVar 1) (tNil))) (tC (.ty "tuple")))) (tTest (tOp rNe (tCB (kLen K) (tCons (tVar 1) (tNil))) (tC (.int 2))))) (tRet (tC (.bl false))) (tNext)) (tSeq (tAsg (tVar 1) (gTup K 2 (gCons (gName 2) (gCons (gName 3) (gNil))))) (tRet (tAndV (tCal (sp_isline K) (tCons (tVar 0) (tCons (tVar 2) (tNil)))) (tAndV (tCal (sp_isline K) (tCons (tVar 0) (tCons (tVar 3) (tNil)))) (tOp rNe (tVar 2) (tVar 3))))))
/-! ### _is_line(lines, value): slots 0 lines, 1 value -/
abbrev s_isline : Stmt := topS 18
abbrev N_isline : List Str := ["lines", "value"]
abbrev P_isline : List Str := ["lines", "value"]
theorem sc_isline : FnScope N_isline P_isline (defScope s_isline) := ⟨rfl, rfl, rfl, by decide +kernel, rfl, by decide +kernel, by decide +kernel⟩
def r_isline (K : PySem.W.Frag) : TS :=
  tRet (tAndV (tCal (sp_iswhole K) (tCons (tVar 1) (tNil))) (tChain oLe oLt (tC (.int 0)) (tVar 1) (tVar 0)))
/-! ### need_lines(lines): slots 0 lines -/
abbrev s_needlines : Stmt := topS 19
abbrev N_needlines : List Str := ["lines"]
abbrev P_needlines : List Str := ["lines"]
theorem sc_needlines : FnScope N_needlines P_needlines (defScope s_needlines) := ⟨rfl, rfl, rfl, by decide +kernel, rfl, by decide +kernel, by decide +kernel⟩
def r_needlines (K : PySem.W.Frag) : TS :=
  tIfS (tOr (tNot (tB (tCal (sp_iswhole K) (tCons (tVar 0) (tNil))))) (tNot (tTest (tChain oLe oLe (tC (.int 1)) (tVar 0) (tC (.int 10)))))) (tOff) (tNext)
/-! ### need_web(lines, comparers): slots 0 lines, 1 comparers, 2 place, 3 comparer -/
abbrev s_needweb : Stmt := topS 20
abbrev N_needweb : List Str := ["lines", "comparers", "place", "comparer"]
abbrev P_needweb : List Str := ["lines", "comparers"]
theorem sc_needweb : FnScope N_needweb P_needweb (defScope s_needweb) := ⟨rfl, rfl, rfl, by decide +kernel, rfl, by decide +kernel, by decide +kernel⟩
def r_needweb_f1 (K : PySem.W.Frag) : TS :=
  tIfS (tNot (tB (tCal (sp_iscomparer K) (tCons (tVar 0) (tCons (tVar 3) (tNil)))))) (tOff) (tNext)
def r_needweb (K : PySem.W.Frag) : TS :=
  tSeq (tDrop (tCal (sp_needlines K) (tCons (tVar 0) (tNil)))) (tSeq (tIfS (tOr (tTest (tOp rNT (tCB (rTyp K) (tCons (tVar 1) (tNil))) (tC (.ty "list")))) (tTest (tOp oGt (tCB (kLen K) (tCons (tVar 1) (tNil))) (tC (.int 60))))) (tOff) (tNext)) (tFor (iEnum K (tCons (tVar 1) (tNil))) (gTup K 2 (gCons (gName 2) (gCons (gName 3) (gNil)))) (r_needweb_f1 K)))
/-! ### need_row(lines, row): slots 0 lines, 1 row, 2 number -/
abbrev s_needrow : Stmt := topS 21
abbrev N_needrow : List Str := ["lines", "row", "number"]
abbrev P_needrow : List Str := ["lines", "row"]
theorem sc_needrow : FnScope N_needrow P_needrow (defScope s_needrow) := ⟨rfl, rfl, rfl, by decide +kernel, rfl, by decide +kernel, by decide +kernel⟩
def r_needrow (K : PySem.W.Frag) : TS :=
  tSeq (tIfS (tOr (tNot (tB (tCal (sp_iswhole K) (tCons (tVar 0) (tNil))))) (tOr (tTest (tOp rNT (tCB (rTyp K) (tCons (tVar 1) (tNil))) (tC (.ty "list")))) (tTest (tOp rNe (tCB (kLen K) (tCons (tVar 1) (tNil))) (tVar 0))))) (tOff) (tNext)) (tIfS (tNot (tB (tCB (rAll K) (tCons (tLc (iList K (tVar 1)) (gName 2) (tYes) (tCal (sp_iswhole K) (tCons (tVar 2) (tNil))) [2]) (tNil))))) (tOff) (tNext))
/-! ### unsorted(lines, comparers): slots 0 lines, 1 comparers, 2 columns, 3 rows, 4 line -/
abbrev s_unsorted : Stmt := topS 23
abbrev N_unsorted : List Str := ["lines", "comparers", "columns", "rows", "line"]
abbrev P_unsorted : List Str := ["lines", "comparers"]
theorem sc_unsorted : FnScope N_unsorted P_unsorted (defScope s_unsorted) := ⟨rfl, rfl, rfl, by decide +kernel, rfl, by decide +kernel, by decide +kernel⟩
def r_unsorted_f1 (K : PySem.W.Frag) : TS :=
  tAsg (tOp oBOr (tVar 3) (tCal (sp_greater K) (tCons (tVar 2) (tCons (tVar 4) (tCons (tOp oAdd (tVar 4) (tC (.int 1))) (tNil)))))) (gName 3)
def r_unsorted (K : PySem.W.Frag) : TS :=
  tSeq (tDrop (tCal (sp_needweb K) (tCons (tVar 0) (tCons (tVar 1) (tNil))))) (tSeq (tAsg (tCal (sp_columnsout K) (tCons (tVar 0) (tCons (tVar 1) (tNil)))) (gName 2)) (tSeq (tAsg (tC (.int 0)) (gName 3)) (tSeq (tFor (iRng1 (tCons (tOp oSub (tVar 0) (tC (.int 1))) (tNil))) (gName 4) (r_unsorted_f1 K)) (tRet (tCal (sp_firstrow K) (tCons (tVar 0) (tCons (tVar 3) (tNil))))))))
/-! ### stirring(lines, comparers, place): slots 0 lines, 1 comparers, 2 place, 3 a, 4 b -/
abbrev s_stirring : Stmt := topS 24
abbrev N_stirring : List Str := ["lines", "comparers", "place", "a", "b"]
abbrev P_stirring : List Str := ["lines", "comparers", "place"]
theorem sc_stirring : FnScope N_stirring P_stirring (defScope s_stirring) := ⟨rfl, rfl, rfl, by decide +kernel, rfl, by decide +kernel, by decide +kernel⟩
def r_stirring (K : PySem.W.Frag) : TS :=
  tSeq (tDrop (tCal (sp_needweb K) (tCons (tVar 0) (tCons (tVar 1) (tNil))))) (tSeq (tDrop (tCal (sp_needplace K) (tCons (tVar 1) (tCons (tVar 2) (tNil))))) (tSeq (tAsg (tOp (rIxL K) (tVar 1) (tVar 2)) (gTup K 2 (gCons (gName 3) (gCons (gName 4) (gNil))))) (tRet (tCal (sp_firstrow K) (tCons (tVar 0) (tCons (tCal (sp_greater K) (tCons (tCal (sp_columnsout K) (tCons (tVar 0) (tCons (tSl (rSlL K) (tVar 1) (tNoPart) (tPart (tVar 2))) (tNil)))) (tCons (tVar 3) (tCons (tVar 4) (tNil))))) (tNil)))))))
/-! ### needless(lines, comparers): slots 0 lines, 1 comparers, 2 places, 3 columns, 4 place, 5 comparer, 6 a, 7 b -/
abbrev s_needless : Stmt := topS 25
abbrev N_needless : List Str := ["lines", "comparers", "places", "columns", "place", "comparer", "a", "b"]
abbrev P_needless : List Str := ["lines", "comparers"]
theorem sc_needless : FnScope N_needless P_needless (defScope s_needless) := ⟨rfl, rfl, rfl, by decide +kernel, rfl, by decide +kernel, by decide +kernel⟩
def r_needless_f1 (K : PySem.W.Frag) : TS :=
  tSeq (tAsg (tVar 5) (gTup K 2 (gCons (gName 6) (gCons (gName 7) (gNil))))) (tSeq (tIfS (tTest (tOp rEq (tCal (sp_greater K) (tCons (tVar 3) (tCons (tVar 6) (tCons (tVar 7) (tNil))))) (tC (.int 0)))) (tDrop (tBM K "list" rAppend (tVar 2) (tCons (tVar 4) (tNil)))) (tNext)) (tAsg (tCal (sp_behind K) (tCons (tVar 3) (tCons (tVar 5) (tNil)))) (gName 3)))
def r_needless (K : PySem.W.Frag) : TS :=
  tSeq (tDrop (tCal (sp_needweb K) (tCons (tVar 0) (tCons (tVar 1) (tNil))))) (tSeq (tAsg (tLst (tNil)) (gName 2)) (tSeq (tAsg (tCal (sp_allcolumns K) (tCons (tVar 0) (tNil))) (gName 3)) (tSeq (tFor (iEnum K (tCons (tVar 1) (tNil))) (gTup K 2 (gCons (gName 4) (gCons (gName 5) (gNil)))) (r_needless_f1 K)) (tRet (tVar 2)))))
/-! ### pruned(lines, comparers): slots 0 lines, 1 comparers, 2 places, 3 place, 4 comparer -/
abbrev s_pruned : Stmt := topS 26
abbrev N_pruned : List Str := ["lines", "comparers", "places", "place", "comparer"]
abbrev P_pruned : List Str := ["lines", "comparers"]
theorem sc_pruned : FnScope N_pruned P_pruned (defScope s_pruned) := ⟨rfl, rfl, rfl, by decide +kernel, rfl, by decide +kernel, by decide +kernel⟩
def r_pruned (K : PySem.W.Frag) : TS :=
  tSeq (tAsg (tCal (sp_needless K) (tCons (tVar 0) (tCons (tVar 1) (tNil)))) (gName 2)) (tRet (tLc (iEnum K (tCons (tVar 1) (tNil))) (gTup K 2 (gCons (gName 3) (gCons (gName 4) (gNil)))) (tTest (tOp (rIn K true) (tVar 3) (tVar 2))) (tVar 4) [3, 4]))
/-! ### differing(lines, one, other): slots 0 lines, 1 one, 2 other, 3 rows, 4 column, 5 column_of_other -/
abbrev s_differing : Stmt := topS 27
abbrev N_differing : List Str := ["lines", "one", "other", "rows", "column", "column_of_other"]
abbrev P_differing : List Str := ["lines", "one", "other"]
theorem sc_differing : FnScope N_differing P_differing (defScope s_differing) := ⟨rfl, rfl, rfl, by decide +kernel, rfl, by decide +kernel, by decide +kernel⟩
def r_differing_f1 (K : PySem.W.Frag) : TS :=
  tAsg (tOp oBOr (tVar 3) (tOp oBXor (tVar 4) (tVar 5))) (gName 3)
def r_differing (K : PySem.W.Frag) : TS :=
  tSeq (tDrop (tCal (sp_needweb K) (tCons (tVar 0) (tCons (tVar 1) (tNil))))) (tSeq (tDrop (tCal (sp_needweb K) (tCons (tVar 0) (tCons (tVar 2) (tNil))))) (tSeq (tAsg (tC (.int 0)) (gName 3)) (tSeq (tFor (iZip K (tCons (tCal (sp_columnsout K) (tCons (tVar 0) (tCons (tVar 1) (tNil)))) (tCons (tCal (sp_columnsout K) (tCons (tVar 0) (tCons (tVar 2) (tNil)))) (tNil)))) (gTup K 2 (gCons (gName 4) (gCons (gName 5) (gNil)))) (r_differing_f1 K)) (tRet (tCal (sp_firstrow K) (tCons (tVar 0) (tCons (tVar 3) (tNil))))))))
/-! ### _need_place(comparers, place): slots 0 comparers, 1 place -/
abbrev s_needplace : Stmt := topS 28
abbrev N_needplace : List Str := ["comparers", "place"]
abbrev P_needplace : List Str := ["comparers", "place"]
theorem sc_needplace : FnScope N_needplace P_needplace (defScope s_needplace) := ⟨rfl, rfl, rfl, by decide +kernel, rfl, by decide +kernel, by decide +kernel⟩
def r_needplace (K : PySem.W.Frag) : TS :=
  tIfS (tOr (tNot (tB (tCal (sp_iswhole K) (tCons (tVar 1) (tNil))))) (tNot (tTest (tChain oLe oLt (tC (.int 0)) (tVar 1) (tCB (kLen K) (tCons (tVar 0) (tNil))))))) (tOff) (tNext)
/-! ### run(lines, comparers, row): slots 0 lines, 1 comparers, 2 row -/
abbrev s_run : Stmt := topS 30
abbrev N_run : List Str := ["lines", "comparers", "row"]
abbrev P_run : List Str := ["lines", "comparers", "row"]
theorem sc_run : FnScope N_run P_run (defScope s_run) := ⟨rfl, rfl, rfl, by decide +kernel, rfl, by decide +kernel, by decide +kernel⟩
def r_run (K : PySem.W.Frag) : TS :=
  tRet (tOp (rIxL K) (tCal (sp_steps K) (tCons (tVar 0) (tCons (tVar 1) (tCons (tVar 2) (tNil))))) (tUn oNeg (tC (.int 1))))
/-! ### steps(lines, comparers, row): slots 0 lines, 1 comparers, 2 row, 3 rows, 4 comparer -/
abbrev s_steps : Stmt := topS 31
abbrev N_steps : List Str := ["lines", "comparers", "row", "rows", "comparer"]
abbrev P_steps : List Str := ["lines", "comparers", "row"]
theorem sc_steps : FnScope N_steps P_steps (defScope s_steps) := ⟨rfl, rfl, rfl, by decide +kernel, rfl, by decide +kernel, by decide +kernel⟩
def r_steps_f1 (K : PySem.W.Frag) : TS :=
  tDrop (tBM K "list" rAppend (tVar 3) (tCons (tCal (sp_rbehind K) (tCons (tOp (rIxL K) (tVar 3) (tUn oNeg (tC (.int 1)))) (tCons (tVar 4) (tNil)))) (tNil)))
def r_steps (K : PySem.W.Frag) : TS :=
  tSeq (tDrop (tCal (sp_needweb K) (tCons (tVar 0) (tCons (tVar 1) (tNil))))) (tSeq (tDrop (tCal (sp_needrow K) (tCons (tVar 0) (tCons (tVar 2) (tNil))))) (tSeq (tAsg (tLst (tCons (tCB (kList K) (tCons (tVar 2) (tNil))) (tNil))) (gName 3)) (tSeq (tFor (iList K (tVar 1)) (gName 4) (r_steps_f1 K)) (tRet (tVar 3)))))
/-! ### _behind(row, comparer): slots 0 row, 1 comparer, 2 a, 3 b, 4 out -/
abbrev s_rbehind : Stmt := topS 32
abbrev N_rbehind : List Str := ["row", "comparer", "a", "b", "out"]
abbrev P_rbehind : List Str := ["row", "comparer"]
theorem sc_rbehind : FnScope N_rbehind P_rbehind (defScope s_rbehind) := ⟨rfl, rfl, rfl, by decide +kernel, rfl, by decide +kernel, by decide +kernel⟩
def r_rbehind (K : PySem.W.Frag) : TS :=
  tSeq (tAsg (tVar 1) (gTup K 2 (gCons (gName 2) (gCons (gName 3) (gNil))))) (tSeq (tAsg (tCB (kList K) (tCons (tVar 0) (tNil))) (gName 4)) (tSeq (tIfS (tTest (tOp oGt (tOp (rIxL K) (tVar 0) (tVar 2)) (tOp (rIxL K) (tVar 0) (tVar 3)))) (tSeq (tAsg (tOp (rIxL K) (tVar 0) (tVar 3)) (gSub (tVar 4) (tVar 2) rSetL)) (tAsg (tOp (rIxL K) (tVar 0) (tVar 2)) (gSub (tVar 4) (tVar 3) rSetL))) (tNext)) (tRet (tVar 4))))
/-! ### _law_draw(_law_cell, _law_k, _law_j): slots 0 _law_cell, 1 _law_k, 2 _law_j, 3 _law_more -/
abbrev s_ldraw : Stmt := topS 34
abbrev N_ldraw : List Str := ["_law_cell", "_law_k", "_law_j", "_law_more"]
abbrev P_ldraw : List Str := ["_law_cell", "_law_k", "_law_j"]
theorem sc_ldraw : FnScope N_ldraw P_ldraw (defScope s_ldraw) := ⟨rfl, rfl, rfl, by decide +kernel, rfl, by decide +kernel, by decide +kernel⟩
def r_ldraw (K : PySem.W.Frag) : TS :=
  tSeq (tAsg (tOp oAdd (tOp oMul (tOp oMul (tOp oAdd (tVar 1) (tC (.int 3))) (tOp oAdd (tVar 1) (tC (.int 3)))) (tC (.int 40692))) (tOp oMul (tOp oMul (tOp oAdd (tVar 2) (tC (.int 7))) (tOp oAdd (tVar 2) (tC (.int 7)))) (tC (.int 69621)))) (gName 3)) (tRet (tOp oDiv (tOp oMod (tOp oMul (tOp oMod (tOp oAdd (tOp oMul (tOp oMod (tVar 0) (tC (.int 2147483629))) (tC (.int 48271))) (tVar 3)) (tC (.int 2147483647))) (tC (.int 16807))) (tC (.int 2147483629))) (tC (.int 3))))
/-! ### _law_bricks(_law_lines): slots 0 _law_lines, 1 _law_found, 2 _law_turn, 3 _law_k -/
abbrev s_lbricks : Stmt := topS 35
abbrev N_lbricks : List Str := ["_law_lines", "_law_found", "_law_turn", "_law_k"]
abbrev P_lbricks : List Str := ["_law_lines"]
theorem sc_lbricks : FnScope N_lbricks P_lbricks (defScope s_lbricks) := ⟨rfl, rfl, rfl, by decide +kernel, rfl, by decide +kernel, by decide +kernel⟩
def r_lbricks_f1 (K : PySem.W.Frag) : TS :=
  tAsg (tOp rCat (tVar 1) (tLc (iRng3 (tCons (tOp oMod (tVar 2) (tC (.int 2))) (tCons (tOp oSub (tVar 0) (tC (.int 1))) (tCons (tC (.int 2)) (tNil))))) (gName 3) (tYes) (tTup (tCons (tVar 3) (tCons (tOp oAdd (tVar 3) (tC (.int 1))) (tNil)))) [3])) (gName 1)
def r_lbricks (K : PySem.W.Frag) : TS :=
  tSeq (tAsg (tLst (tNil)) (gName 1)) (tSeq (tFor (iRng1 (tCons (tVar 0) (tNil))) (gName 2) (r_lbricks_f1 K)) (tRet (tVar 1)))
/-! ### _law_comparer(_law_n, _law_lines): slots 0 _law_n, 1 _law_lines, 2 _law_a, 3 _law_b -/
abbrev s_lcomparer : Stmt := topS 36
abbrev N_lcomparer : List Str := ["_law_n", "_law_lines", "_law_a", "_law_b"]
abbrev P_lcomparer : List Str := ["_law_n", "_law_lines"]
theorem sc_lcomparer : FnScope N_lcomparer P_lcomparer (defScope s_lcomparer) := ⟨rfl, rfl, rfl, by decide +kernel, rfl, by decide +kernel, by decide +kernel⟩
def r_lcomparer (K : PySem.W.Frag) : TS :=
  tSeq (tAsg (tOp oMod (tVar 0) (tVar 1)) (gName 2)) (tSeq (tAsg (tOp oMod (tOp oAdd (tOp oAdd (tVar 2) (tC (.int 1))) (tOp oMod (tOp oDiv (tVar 0) (tC (.int 10))) (tOp oSub (tVar 1) (tC (.int 1))))) (tVar 1)) (gName 3)) (tRet (tIf (tTest (tOp oGt (tOp oMod (tOp oDiv (tVar 0) (tC (.int 100))) (tC (.int 3))) (tC (.int 0)))) (tTup (tCons (tCB kMin (tCons (tVar 2) (tCons (tVar 3) (tNil)))) (tCons (tCB kMax (tCons (tVar 2) (tCons (tVar 3) (tNil)))) (tNil)))) (tTup (tCons (tVar 2) (tCons (tVar 3) (tNil)))))))
/-! ### _law_web(_law_script): slots 0 _law_script, 1 _law_cells, 2 _law_n, 3 _law_lines, 4 _law_k, 5 _law_cell, 6 _law_found, 7 _law_more, 8 _law_at -/
abbrev s_lweb : Stmt := topS 37
abbrev N_lweb : List Str := ["_law_script", "_law_cells", "_law_n", "_law_lines", "_law_k", "_law_cell", "_law_found", "_law_more", "_law_at"]
abbrev P_lweb : List Str := ["_law_script"]
theorem sc_lweb : FnScope N_lweb P_lweb (defScope s_lweb) := ⟨rfl, rfl, rfl, by decide +kernel, rfl, by decide +kernel, by decide +kernel⟩
def r_lweb_e1 (K : PySem.W.Frag) : TS :=
  tIfS (tAnd (tTest (tOp rEq (tOp oMod (tVar 7) (tC (.int 12))) (tC (.int 4)))) (tTest (tOp oLt (tVar 8) (tCB (kLen K) (tCons (tVar 6) (tNil)))))) (tAsg (tTurn K (tOp (rIxL K) (tVar 6) (tVar 8))) (gSub (tVar 6) (tVar 8) rSetL)) (tNext)
def r_lweb_e2 (K : PySem.W.Frag) : TS :=
  tIfS (tAnd (tTest (tOp oLt (tOp oMod (tVar 7) (tC (.int 12))) (tC (.int 4)))) (tTest (tOp oLt (tCB (kLen K) (tCons (tVar 6) (tNil))) (tC (.int 60))))) (tDrop (tBM K "list" rInsert (tVar 6) (tCons (tVar 8) (tCons (tCal (sp_lcomparer K) (tCons (tOp oDiv (tVar 7) (tC (.int 1000))) (tCons (tVar 3) (tNil)))) (tNil))))) (r_lweb_e1 K)
def r_lweb_f1 (K : PySem.W.Frag) : TS :=
  tSeq (tAsg (tCal (sp_ldraw K) (tCons (tVar 5) (tCons (tVar 4) (tCons (tC (.int 3)) (tNil))))) (gName 7)) (tSeq (tAsg (tOp oMod (tOp oDiv (tVar 7) (tC (.int 12))) (tOp oAdd (tCB (kLen K) (tCons (tVar 6) (tNil))) (tC (.int 1)))) (gName 8)) (tIfS (tAnd (tTest (tOp oLt (tOp oMod (tVar 7) (tC (.int 12))) (tC (.int 2)))) (tTest (tOp oLt (tVar 8) (tCB (kLen K) (tCons (tVar 6) (tNil)))))) (tDrop (tBM K "list" rPopAt (tVar 6) (tCons (tVar 8) (tNil)))) (r_lweb_e2 K)))
def r_lweb (K : PySem.W.Frag) : TS :=
  tSeq (tAsg (tSl (rSlL K) (tVar 0) (tNoPart) (tPart (tC (.int 40)))) (gName 1)) (tSeq (tAsg (tCal (sp_ldraw K) (tCons (tCB (rSum K) (tCons (tSl (rSlL K) (tVar 1) (tNoPart) (tPart (tC (.int 3)))) (tNil))) (tCons (tCB (kLen K) (tCons (tVar 1) (tNil))) (tCons (tC (.int 1)) (tNil))))) (gName 2)) (tSeq (tAsg (tOp (rIxL K) (tLst (tCons (tOp oAdd (tC (.int 2)) (tOp oMod (tOp oDiv (tVar 2) (tC (.int 8))) (tC (.int 5)))) (tCons (tOp oAdd (tC (.int 3)) (tOp oMod (tOp oDiv (tVar 2) (tC (.int 8))) (tC (.int 3)))) (tCons (tOp oAdd (tC (.int 1)) (tOp oMod (tOp oDiv (tVar 2) (tC (.int 8))) (tC (.int 7)))) (tCons (tC (.int 4)) (tNil)))))) (tOp oMod (tVar 2) (tC (.int 4)))) (gName 3)) (tSeq (tIfS (tTest (tOp rEq (tVar 3) (tC (.int 1)))) (tRet (tTup (tCons (tC (.int 1)) (tCons (tLst (tNil)) (tNil))))) (tNext)) (tSeq (tIfS (tTest (tOp rEq (tOp oMod (tOp oDiv (tVar 2) (tC (.int 64))) (tC (.int 2))) (tC (.int 0)))) (tRet (tTup (tCons (tVar 3) (tCons (tLc (iEnum K (tCons (tVar 1) (tNil))) (gTup K 2 (gCons (gName 4) (gCons (gName 5) (gNil)))) (tYes) (tCal (sp_lcomparer K) (tCons (tCal (sp_ldraw K) (tCons (tVar 5) (tCons (tVar 4) (tCons (tC (.int 2)) (tNil))))) (tCons (tVar 3) (tNil)))) [4, 5]) (tNil))))) (tNext)) (tSeq (tAsg (tCal (sp_lbricks K) (tCons (tVar 3) (tNil))) (gName 6)) (tSeq (tFor (iEnum K (tCons (tVar 1) (tNil))) (gTup K 2 (gCons (gName 4) (gCons (gName 5) (gNil)))) (r_lweb_f1 K)) (tRet (tTup (tCons (tVar 3) (tCons (tVar 6) (tNil)))))))))))
/-! ### _law_rows(_law_script, _law_lines): slots 0 _law_script, 1 _law_lines, 2 _law_cells, 3 _law_found, 4 _law_at, 5 _law_row, 6 _law_k, 7 _law_cell, 8 _law_n -/
abbrev s_lrows : Stmt := topS 38
abbrev N_lrows : List Str := ["_law_script", "_law_lines", "_law_cells", "_law_found", "_law_at", "_law_row", "_law_k", "_law_cell", "_law_n"]
abbrev P_lrows : List Str := ["_law_script", "_law_lines"]
theorem sc_lrows : FnScope N_lrows P_lrows (defScope s_lrows) := ⟨rfl, rfl, rfl, by decide +kernel, rfl, by decide +kernel, by decide +kernel⟩
def r_lrows_f2 (K : PySem.W.Frag) : TS :=
  tSeq (tAsg (tIf (tTest (tOp (rNeD K) (tVar 2) (tLst (tNil)))) (tOp (rIxL K) (tVar 2) (tOp oMod (tOp oAdd (tVar 4) (tVar 6)) (tCB (kLen K) (tCons (tVar 2) (tNil))))) (tVar 6)) (gName 7)) (tSeq (tAsg (tCal (sp_ldraw K) (tCons (tVar 7) (tCons (tOp oAdd (tVar 4) (tVar 6)) (tCons (tC (.int 9)) (tNil))))) (gName 8)) (tDrop (tBM K "list" rAppend (tVar 5) (tCons (tOp (rIxL K) (tLst (tCons (tOp oMod (tVar 7) (tOp oPow (tC (.int 10)) (tC (.int 60)))) (tCons (tOp oSub (tC (.int 0)) (tOp oMod (tVar 7) (tOp oPow (tC (.int 10)) (tC (.int 60))))) (tCons (tOp oMod (tVar 8) (tC (.int 4))) (tCons (tOp oSub (tOp oMod (tVar 7) (tC (.int 1000))) (tC (.int 500))) (tNil)))))) (tOp oMod (tOp oDiv (tVar 8) (tC (.int 8))) (tC (.int 4)))) (tNil)))))
def r_lrows_f1 (K : PySem.W.Frag) : TS :=
  tSeq (tAsg (tLst (tNil)) (gName 5)) (tSeq (tFor (iRng1 (tCons (tVar 1) (tNil))) (gName 6) (r_lrows_f2 K)) (tDrop (tBM K "list" rAppend (tVar 3) (tCons (tVar 5) (tNil)))))
def r_lrows (K : PySem.W.Frag) : TS :=
  tSeq (tAsg (tSl (rSlL K) (tVar 0) (tNoPart) (tPart (tC (.int 63)))) (gName 2)) (tSeq (tAsg (tLst (tNil)) (gName 3)) (tSeq (tFor (iRng3 (tCons (tC (.int 0)) (tCons (tOp oAdd (tCB (kLen K) (tCons (tVar 2) (tNil))) (tVar 1)) (tCons (tVar 1) (tNil))))) (gName 4) (r_lrows_f1 K)) (tRet (tVar 3))))
/-! ### _law_laid(_law_row, _law_numbers): slots 0 _law_row, 1 _law_numbers, 2 _law_some, 3 _law_least, 4 _law_most, 5 _law_found, 6 _law_bit, 7 _law_k, 8 _law_number -/
abbrev s_llaid : Stmt := topS 39
abbrev N_llaid : List Str := ["_law_row", "_law_numbers", "_law_some", "_law_least", "_law_most", "_law_found", "_law_bit", "_law_k", "_law_number"]
abbrev P_llaid : List Str := ["_law_row", "_law_numbers"]
theorem sc_llaid : FnScope N_llaid P_llaid (defScope s_llaid) := ⟨rfl, rfl, rfl, by decide +kernel, rfl, by decide +kernel, by decide +kernel⟩
def r_llaid_f1 (K : PySem.W.Frag) : TS :=
  tDrop (tBM K "list" rAppend (tVar 5) (tCons (tIf (tTest (tOp rEq (tVar 6) (tC (.int 0)))) (tBM0 K "list" rPop (tVar 3)) (tBM K "list" rPopAt (tVar 4) (tCons (tC (.int 0)) (tNil)))) (tNil)))
def r_llaid (K : PySem.W.Frag) : TS :=
  tSeq (tAsg (tCB (rSortedI K) (tCons (tLc (iEnum K (tCons (tVar 1) (tNil))) (gTup K 2 (gCons (gName 7) (gCons (gName 8) (gNil)))) (tYes) (tOp oAdd (tOp oMul (tC (.int 3)) (tVar 8)) (tVar 7)) [7, 8]) (tNil))) (gName 2)) (tSeq (tAsg (tLc (iEnum K (tCons (tVar 2) (tNil))) (gTup K 2 (gCons (gName 7) (gCons (gName 8) (gNil)))) (tYes) (tOp oAdd (tVar 8) (tVar 7)) [7, 8]) (gName 2)) (tSeq (tAsg (tSl (rSlL K) (tVar 2) (tNoPart) (tPart (tBM K "list" (rCntI K) (tVar 0) (tCons (tC (.int 0)) (tNil))))) (gName 3)) (tSeq (tAsg (tSl (rSlL K) (tVar 2) (tPart (tBM K "list" (rCntI K) (tVar 0) (tCons (tC (.int 0)) (tNil)))) (tNoPart)) (gName 4)) (tSeq (tAsg (tLst (tNil)) (gName 5)) (tSeq (tFor (iList K (tVar 0)) (gName 6) (r_llaid_f1 K)) (tRet (tVar 5)))))))
/-! ### _law_places_good(_law_lines, _law_comparers, _law_rows_here, _law_n): slots 0 _law_lines, 1 _law_comparers, 2 _law_rows_here, 3 _law_n, 4 _law_idle, 5 _law_turn, 6 _law_place, 7 _law_a, 8 _law_b, 9 _law_told, 10 _law_row, 11 _law_some, 12 _law_ahead -/
abbrev s_lplacesgood : Stmt := topS 40
abbrev N_lplacesgood : List Str := ["_law_lines", "_law_comparers", "_law_rows_here", "_law_n", "_law_idle", "_law_turn", "_law_place", "_law_a", "_law_b", "_law_told", "_law_row", "_law_some", "_law_ahead"]
abbrev P_lplacesgood : List Str := ["_law_lines", "_law_comparers", "_law_rows_here", "_law_n"]
theorem sc_lplacesgood : FnScope N_lplacesgood P_lplacesgood (defScope s_lplacesgood) := ⟨rfl, rfl, rfl, by decide +kernel, rfl, by decide +kernel, by decide +kernel⟩
def r_lplacesgood_f2 (K : PySem.W.Frag) : TS :=
  tSeq (tAsg (tOp (rIxL K) (tCal (sp_steps K) (tCons (tVar 0) (tCons (tVar 1) (tCons (tVar 10) (tNil))))) (tVar 6)) (gName 12)) (tIfS (tTest (tOp rEq (tOp oGt (tOp (rIxL K) (tVar 12) (tVar 7)) (tOp (rIxL K) (tVar 12) (tVar 8))) (tOp rIsN (tVar 9) (tC .non)))) (tRet (tC (.bl false))) (tNext))
def r_lplacesgood_f1 (K : PySem.W.Frag) : TS :=
  tSeq (tAsg (tOp oMod (tOp oAdd (tVar 3) (tOp oMul (tC (.int 5)) (tVar 5))) (tCB (kLen K) (tCons (tVar 1) (tNil)))) (gName 6)) (tSeq (tAsg (tOp (rIxL K) (tVar 1) (tVar 6)) (gTup K 2 (gCons (gName 7) (gCons (gName 8) (gNil))))) (tSeq (tAsg (tCal (sp_stirring K) (tCons (tVar 0) (tCons (tVar 1) (tCons (tVar 6) (tNil))))) (gName 9)) (tSeq (tIfS (tTest (tOp rNe (tOp rIsN (tVar 9) (tC .non)) (tOp (rIn K false) (tVar 6) (tVar 4)))) (tRet (tC (.bl false))) (tNext)) (tSeq (tAsg (tIf (tTest (tOp rIsN (tVar 9) (tC .non))) (tVar 2) (tLc (iList K (tSl (rSlL K) (tVar 2) (tNoPart) (tPart (tC (.int 2))))) (gName 10) (tYes) (tCal (sp_llaid K) (tCons (tVar 9) (tCons (tVar 10) (tNil)))) [10])) (gName 11)) (tFor (iList K (tVar 11)) (gName 10) (r_lplacesgood_f2 K))))))
def r_lplacesgood (K : PySem.W.Frag) : TS :=
  tSeq (tAsg (tCal (sp_needless K) (tCons (tVar 0) (tCons (tVar 1) (tNil)))) (gName 4)) (tSeq (tFor (iRng1 (tCons (tCB kMin (tCons (tC (.int 4)) (tCons (tCB (kLen K) (tCons (tVar 1) (tNil))) (tNil)))) (tNil))) (gName 5) (r_lplacesgood_f1 K)) (tRet (tC (.bl true))))
/-! ### law(_law_script): slots 0 _law_script, 1 _law_lines, 2 _law_comparers, 3 _law_rows_here, 4 _law_told, 5 _law_row, 6 _law_some, 7 _law_end, 8 _law_less -/
abbrev s_law : Stmt := topS 41
abbrev N_law : List Str := ["_law_script", "_law_lines", "_law_comparers", "_law_rows_here", "_law_told", "_law_row", "_law_some", "_law_end", "_law_less"]
abbrev P_law : List Str := ["_law_script"]
theorem sc_law : FnScope N_law P_law (defScope s_law) := ⟨rfl, rfl, rfl, by decide +kernel, rfl, by decide +kernel, by decide +kernel⟩
def r_law_f1 (K : PySem.W.Frag) : TS :=
  tSeq (tAsg (tIf (tTest (tOp rIsN (tVar 4) (tC .non))) (tVar 5) (tCal (sp_llaid K) (tCons (tVar 4) (tCons (tVar 5) (tNil))))) (gName 6)) (tSeq (tAsg (tCal (sp_run K) (tCons (tVar 1) (tCons (tVar 2) (tCons (tVar 6) (tNil))))) (gName 7)) (tIfS (tTest (tOp rNe (tOp (rEqD K) (tVar 7) (tCB (rSortedI K) (tCons (tVar 7) (tNil)))) (tOp rIsN (tVar 4) (tC .non)))) (tRet (tC (.bl false))) (tNext)))
def r_law (K : PySem.W.Frag) : TS :=
  tSeq (tAsg (tCal (sp_lweb K) (tCons (tVar 0) (tNil))) (gTup K 2 (gCons (gName 1) (gCons (gName 2) (gNil))))) (tSeq (tAsg (tCal (sp_lrows K) (tCons (tVar 0) (tCons (tVar 1) (tNil)))) (gName 3)) (tSeq (tAsg (tCal (sp_unsorted K) (tCons (tVar 1) (tCons (tVar 2) (tNil)))) (gName 4)) (tSeq (tFor (iList K (tVar 3)) (gName 5) (r_law_f1 K)) (tSeq (tIfS (tNot (tB (tCal (sp_lplacesgood K) (tCons (tVar 1) (tCons (tVar 2) (tCons (tVar 3) (tCons (tCal (sp_ldraw K) (tCons (tCB (rSum K) (tCons (tSl (rSlL K) (tVar 0) (tNoPart) (tPart (tC (.int 9)))) (tNil))) (tCons (tC (.int 5)) (tCons (tC (.int 110)) (tNil))))) (tNil)))))))) (tRet (tC (.bl false))) (tNext)) (tSeq (tAsg (tCal (sp_pruned K) (tCons (tVar 1) (tCons (tVar 2) (tNil)))) (gName 8)) (tSeq (tIfS (tOr (tTest (tOp rNotN (tCal (sp_differing K) (tCons (tVar 1) (tCons (tVar 2) (tCons (tVar 8) (tNil))))) (tC .non))) (tTest (tOp (rNeD K) (tCal (sp_needless K) (tCons (tVar 1) (tCons (tVar 8) (tNil)))) (tLst (tNil))))) (tRet (tC (.bl false))) (tNext)) (tRet (tOp (rEqD K) (tLc (iList K (tVar 3)) (gName 5) (tTest (tOp (rNeD K) (tCal (sp_run K) (tCons (tVar 1) (tCons (tVar 8) (tCons (tVar 5) (tNil))))) (tCal (sp_run K) (tCons (tVar 1) (tCons (tVar 2) (tCons (tVar 5) (tNil))))))) (tVar 5) [5]) (tLst (tNil))))))))))
section
variable {P : Program} {w : World} {K : PySem.W.Frag} {mg : Str → Option Value} {base : Heap}
theorem ok_allcolumns (h : Here K mg "all_columns" s_allcolumns) (b_range : mg "range" = none)
    (len : ∀ vs H Q E, sp_allcolumns K vs H Q E → vs.length = P_allcolumns.length)
    (rd : ∀ (vs : List V) (H : Hp) (Q : VK) (E : XK), sp_allcolumns K vs H Q E → r_allcolumns K { nx := fun _ H' => Q .non H', rt := Q } (start N_allcolumns vs) H) :
    Cal P w K mg base CX0 1 "all_columns" P_allcolumns (sp_allcolumns K) := by
  exact h.cal sc_allcolumns len (fun _ _ _ _ _ _ us hl => match us, hl with | [_], _ => rfl)
    (fun f cdv A outer s H E hr => (show PSs _ _ _ from (pss_cons (ps_set (i := 1) sc_allcolumns.nd rfl (Or.inl rfl) (pe_lst pa_nil)) (pss_cons (ps_set (i := 2) sc_allcolumns.nd rfl (Or.inr rfl) pe_int) (pss_cons (ps_for PassesOwn.never rfl (pi_range1 (by rfl) b_range (pa_cons (pv 0) pa_nil)) (pg_name (i := 3) sc_allcolumns.nd rfl (Or.inl rfl)) (pss_cons (ps_setLc (i := 1) (own := [("column", 4)]) rfl sc_allcolumns.nd rfl rfl (sw_true rfl rfl rfl (by decide +kernel)) (pi_list (pv 1)) (blkOk_by (N := N_allcolumns) (sc := defScope s_allcolumns) (by decide +kernel)) (fun _ _ _ _ _ => (pg_name (i := 4) sc_allcolumns.nd rfl (Or.inl rfl))) (fun _ _ _ _ _ => pts_nil) (fun _ _ _ _ _ => (pe_op op_or (pv 4) (pe_op op_shlW (pv 4) (pv 2))))) (pss_cons (ps_expr (pe_bm PySem.F.plainAttrs_list PySem.F.slot_list_append PySem.F.type_list_append md_append (pv 1) (pa_cons (pe_op op_shlW (pe_op op_sub (pe_op op_shlW pe_int (pv 2)) pe_int) (pv 2)) pa_nil))) (pss_one (ps_set (i := 2) sc_allcolumns.nd rfl (Or.inr rfl) (pe_op op_mul pe_int (pv 2))))))) (pss_one (ps_ret (pv 1)))))))) rd
theorem ok_greater (h : Here K mg "greater" s_greater) 
    (len : ∀ vs H Q E, sp_greater K vs H Q E → vs.length = P_greater.length)
    (rd : ∀ (vs : List V) (H : Hp) (Q : VK) (E : XK), sp_greater K vs H Q E → r_greater K { nx := fun _ H' => Q .non H', rt := Q } (start N_greater vs) H) :
    Cal P w K mg base CX0 1 "greater" P_greater (sp_greater K) := by
  exact h.cal sc_greater len (fun _ _ _ _ _ _ us hl => match us, hl with | [_, _, _], _ => rfl)
    (fun f cdv A outer s H E hr => (show PSs _ _ _ from (pss_one (ps_ret (pe_op op_and (pe_ix ix_list (pv 0) (pv 1) (fun _ _ => rfl)) (pe_un un_inv (pe_ix ix_list (pv 0) (pv 2) (fun _ _ => rfl)))))))) rd
theorem ok_behind (h : Here K mg "behind" s_behind) (b_list : mg "list" = none)
    (len : ∀ vs H Q E, sp_behind K vs H Q E → vs.length = P_behind.length)
    (rd : ∀ (vs : List V) (H : Hp) (Q : VK) (E : XK), sp_behind K vs H Q E → r_behind K { nx := fun _ H' => Q .non H', rt := Q } (start N_behind vs) H) :
    Cal P w K mg base CX0 1 "behind" P_behind (sp_behind K) := by
  exact h.cal sc_behind len (fun _ _ _ _ _ _ us hl => match us, hl with | [_, _], _ => rfl)
    (fun f cdv A outer s H E hr => (show PSs _ _ _ from (pss_cons (ps_asg (pv 1) (pg_tup rfl (pgs_cons (pg_name (i := 2) sc_behind.nd rfl (Or.inl rfl)) (pgs_cons (pg_name (i := 3) sc_behind.nd rfl (Or.inl rfl)) pgs_nil)))) (pss_cons (ps_set (i := 4) sc_behind.nd rfl (Or.inl rfl) (pe_callTy cl_list (by rfl) b_list (by decide +kernel) (pa_cons (pv 0) pa_nil))) (pss_cons (ps_asg (pe_op op_and (pe_ix ix_list (pv 0) (pv 2) (fun _ _ => rfl)) (pe_ix ix_list (pv 0) (pv 3) (fun _ _ => rfl))) (pg_sub (pv 4) (pv 2) set_list)) (pss_cons (ps_asg (pe_op op_or (pe_ix ix_list (pv 0) (pv 2) (fun _ _ => rfl)) (pe_ix ix_list (pv 0) (pv 3) (fun _ _ => rfl))) (pg_sub (pv 4) (pv 3) set_list)) (pss_one (ps_ret (pv 4))))))))) rd
theorem ok_columnsout (h : Here K mg "columns_out" s_columnsout) (C_allcolumns : Cal P w K mg base CX0 1 "all_columns" ["lines"] (sp_allcolumns K)) (C_behind : Cal P w K mg base CX0 1 "behind" ["columns", "comparer"] (sp_behind K))
    (len : ∀ vs H Q E, sp_columnsout K vs H Q E → vs.length = P_columnsout.length)
    (rd : ∀ (vs : List V) (H : Hp) (Q : VK) (E : XK), sp_columnsout K vs H Q E → r_columnsout K { nx := fun _ H' => Q .non H', rt := Q } (start N_columnsout vs) H) :
    Cal P w K mg base CX0 2 "columns_out" P_columnsout (sp_columnsout K) := by
  exact h.cal sc_columnsout len (fun _ _ _ _ _ _ us hl => match us, hl with | [_, _], _ => rfl)
    (fun f cdv A outer s H E hr => (show PSs _ _ _ from (pss_cons (ps_set (i := 2) sc_columnsout.nd rfl (Or.inl rfl) (pe_cal C_allcolumns (hr.mono (by decide)) (by rfl) (pa_cons (pv 0) pa_nil))) (pss_cons (ps_for PassesOwn.never rfl (pi_list (pv 1)) (pg_name (i := 3) sc_columnsout.nd rfl (Or.inl rfl)) (pss_one (ps_set (i := 2) sc_columnsout.nd rfl (Or.inl rfl) (pe_cal C_behind (hr.mono (by decide)) (by rfl) (pa_cons (pv 2) (pa_cons (pv 3) pa_nil)))))) (pss_one (ps_ret (pv 2))))))) rd
theorem ok_firstrow (h : Here K mg "first_row" s_firstrow) (C_rowof : Cal P w K mg base CX0 1 "row_of" ["lines", "number"] (sp_rowof K))
    (len : ∀ vs H Q E, sp_firstrow K vs H Q E → vs.length = P_firstrow.length)
    (rd : ∀ (vs : List V) (H : Hp) (Q : VK) (E : XK), sp_firstrow K vs H Q E → r_firstrow K { nx := fun _ H' => Q .non H', rt := Q } (start N_firstrow vs) H) :
    Cal P w K mg base CX0 2 "first_row" P_firstrow (sp_firstrow K) := by
  exact h.cal sc_firstrow len (fun _ _ _ _ _ _ us hl => match us, hl with | [_, _], _ => rfl)
    (fun f cdv A outer s H E hr => (show PSs _ _ _ from (pss_cons (ps_if (pt_cmpR op_eq (pv 1) pe_int (nomark _)) (pss_one (ps_ret pe_non)) pss_nil) (pss_one (ps_ret (pe_cal C_rowof (hr.mono (by decide)) (by rfl) (pa_cons (pv 0) (pa_cons (pe_op op_sub (pe_bits (pe_op op_and (pv 1) (pe_un un_neg (pv 1)))) pe_int) pa_nil)))))))) rd
theorem ok_rowof (h : Here K mg "row_of" s_rowof) (b_range : mg "range" = none)
    (len : ∀ vs H Q E, sp_rowof K vs H Q E → vs.length = P_rowof.length)
    (rd : ∀ (vs : List V) (H : Hp) (Q : VK) (E : XK), sp_rowof K vs H Q E → r_rowof K { nx := fun _ H' => Q .non H', rt := Q } (start N_rowof vs) H) :
    Cal P w K mg base CX0 1 "row_of" P_rowof (sp_rowof K) := by
  exact h.cal sc_rowof len (fun _ _ _ _ _ _ us hl => match us, hl with | [_, _], _ => rfl)
    (fun f cdv A outer s H E hr => (show PSs _ _ _ from (pss_one (ps_ret (pe_lc (own := [("line", 2)]) rfl sc_rowof.nd (pi_range1 (by rfl) b_range (pa_cons (pv 0) pa_nil)) (blkOk_by (N := N_rowof) (sc := defScope s_rowof) (by decide +kernel)) (fun _ _ _ _ _ => (pg_name (i := 2) sc_rowof.nd rfl (Or.inl rfl))) (fun _ _ _ _ _ => pts_nil) (fun _ _ _ _ _ => (pe_op op_and (pe_op op_shr (pv 1) (pv 2)) pe_int))))))) rd
theorem ok_iswhole (h : Here K mg "is_whole" s_iswhole) (b_int : mg "int" = none) (b_type : mg "type" = none)
    (len : ∀ vs H Q E, sp_iswhole K vs H Q E → vs.length = P_iswhole.length)
    (rd : ∀ (vs : List V) (H : Hp) (Q : VK) (E : XK), sp_iswhole K vs H Q E → r_iswhole K { nx := fun _ H' => Q .non H', rt := Q } (start N_iswhole vs) H) :
    Cal P w K mg base CX0 1 "is_whole" P_iswhole (sp_iswhole K) := by
  exact h.cal sc_iswhole len (fun _ _ _ _ _ _ us hl => match us, hl with | [_], _ => rfl)
    (fun f cdv A outer s H E hr => (show PSs _ _ _ from (pss_one (ps_ret (pe_cmpR op_isTyB (pe_callTy call_type1 (by rfl) b_type (by decide +kernel) (pa_cons (pv 0) pa_nil)) (pe_bltn (v := .ty "int") (by rfl) b_int (by decide +kernel) rfl) (nomark _)))))) rd
theorem ok_iscomparer (h : Here K mg "is_comparer" s_iscomparer) (C_isline : Cal P w K mg base CX0 2 "_is_line" ["lines", "value"] (sp_isline K)) (b_len : mg "len" = none) (b_tuple : mg "tuple" = none) (b_type : mg "type" = none)
    (len : ∀ vs H Q E, sp_iscomparer K vs H Q E → vs.length = P_iscomparer.length)
    (rd : ∀ (vs : List V) (H : Hp) (Q : VK) (E : XK), sp_iscomparer K vs H Q E → r_iscomparer K { nx := fun _ H' => Q .non H', rt := Q } (start N_iscomparer vs) H) :
    Cal P w K mg base CX0 3 "is_comparer" P_iscomparer (sp_iscomparer K) := by
  exact h.cal sc_iscomparer len (fun _ _ _ _ _ _ us hl => match us, hl with | [_, _], _ => rfl)
    (fun f cdv A outer s H E hr => (show PSs _ _ _ from (pss_cons (ps_if (pw_or (pt_cmpR op_notTyB (pe_callTy call_type1 (by rfl) b_type (by decide +kernel) (pa_cons (pv 1) pa_nil)) (pe_bltn (v := .ty "tuple") (by rfl) b_tuple (by decide +kernel) rfl) (nomark _)) (pw_or1 (pt_cmpR op_ne (pe_callB cl_len (by rfl) b_len PySem.boot_len (pa_cons (pv 1) pa_nil)) pe_int (nomark _)))).pt (pss_one (ps_ret pe_bl)) pss_nil) (pss_cons (ps_asg (pv 1) (pg_tup rfl (pgs_cons (pg_name (i := 2) sc_iscomparer.nd rfl (Or.inl rfl)) (pgs_cons (pg_name (i := 3) sc_iscomparer.nd rfl (Or.inl rfl)) pgs_nil)))) (pss_one (ps_ret (pe_and (pe_cal C_isline (hr.mono (by decide)) (by rfl) (pa_cons (pv 0) (pa_cons (pv 2) pa_nil))) (pe_and (pe_cal C_isline (hr.mono (by decide)) (by rfl) (pa_cons (pv 0) (pa_cons (pv 3) pa_nil))) (pe_one (pe_cmpR op_ne (pv 2) (pv 3) (nomark _))))))))))) rd
theorem ok_isline (h : Here K mg "_is_line" s_isline) (C_iswhole : Cal P w K mg base CX0 1 "is_whole" ["value"] (sp_iswhole K))
    (len : ∀ vs H Q E, sp_isline K vs H Q E → vs.length = P_isline.length)
    (rd : ∀ (vs : List V) (H : Hp) (Q : VK) (E : XK), sp_isline K vs H Q E → r_isline K { nx := fun _ H' => Q .non H', rt := Q } (start N_isline vs) H) :
    Cal P w K mg base CX0 2 "_is_line" P_isline (sp_isline K) := by
  exact h.cal sc_isline len (fun _ _ _ _ _ _ us hl => match us, hl with | [_, _], _ => rfl)
    (fun f cdv A outer s H E hr => (show PSs _ _ _ from (pss_one (ps_ret (pe_and (pe_cal C_iswhole (hr.mono (by decide)) (by rfl) (pa_cons (pv 1) pa_nil)) (pe_one (pe_chain op_le op_lt pe_int (pv 1) (pv 0)))))))) rd
theorem ok_needlines (h : Here K mg "need_lines" s_needlines) (C_iswhole : Cal P w K mg base CX0 1 "is_whole" ["value"] (sp_iswhole K)) (c_MOST_LINES : ∃ t, mg "MOST_LINES" = some (.int 10 t))
    (len : ∀ vs H Q E, sp_needlines K vs H Q E → vs.length = P_needlines.length)
    (rd : ∀ (vs : List V) (H : Hp) (Q : VK) (E : XK), sp_needlines K vs H Q E → r_needlines K { nx := fun _ H' => Q .non H', rt := Q } (start N_needlines vs) H) :
    Cal P w K mg base CX0 2 "need_lines" P_needlines (sp_needlines K) := by
  exact h.cal sc_needlines len (fun _ _ _ _ _ _ us hl => match us, hl with | [_], _ => rfl)
    (fun f cdv A outer s H E hr => (show PSs _ _ _ from (pss_one (ps_if (pw_or (pt_not (pt_val (pe_cal C_iswhole (hr.mono (by decide)) (by rfl) (pa_cons (pv 0) pa_nil)))) (pw_or1 (pt_not (pt_chain op_le op_le pe_int (pv 0) (pe_gi c_MOST_LINES (by rfl)))))).pt (pss_one ps_off) pss_nil)))) rd
theorem ok_needweb (h : Here K mg "need_web" s_needweb) (C_iscomparer : Cal P w K mg base CX0 3 "is_comparer" ["lines", "value"] (sp_iscomparer K)) (C_needlines : Cal P w K mg base CX0 2 "need_lines" ["lines"] (sp_needlines K)) (b_enumerate : mg "enumerate" = none) (b_len : mg "len" = none) (b_list : mg "list" = none) (b_type : mg "type" = none) (c_MOST_COMPARERS : ∃ t, mg "MOST_COMPARERS" = some (.int 60 t))
    (len : ∀ vs H Q E, sp_needweb K vs H Q E → vs.length = P_needweb.length)
    (rd : ∀ (vs : List V) (H : Hp) (Q : VK) (E : XK), sp_needweb K vs H Q E → r_needweb K { nx := fun _ H' => Q .non H', rt := Q } (start N_needweb vs) H) :
    Cal P w K mg base CX0 4 "need_web" P_needweb (sp_needweb K) := by
  exact h.cal sc_needweb len (fun _ _ _ _ _ _ us hl => match us, hl with | [_, _], _ => rfl)
    (fun f cdv A outer s H E hr => (show PSs _ _ _ from (pss_cons (ps_expr (pe_cal C_needlines (hr.mono (by decide)) (by rfl) (pa_cons (pv 0) pa_nil))) (pss_cons (ps_if (pw_or (pt_cmpR op_notTyB (pe_callTy call_type1 (by rfl) b_type (by decide +kernel) (pa_cons (pv 1) pa_nil)) (pe_bltn (v := .ty "list") (by rfl) b_list (by decide +kernel) rfl) (nomark _)) (pw_or1 (pt_cmpR op_gt (pe_callB cl_len (by rfl) b_len PySem.boot_len (pa_cons (pv 1) pa_nil)) (pe_gi c_MOST_COMPARERS (by rfl)) (nomark _)))).pt (pss_one ps_off) pss_nil) (pss_one (ps_for PassesOwn.never rfl (pi_enum (by rfl) b_enumerate (pa_cons (pv 1) pa_nil)) (pg_tup rfl (pgs_cons (pg_name (i := 2) sc_needweb.nd rfl (Or.inl rfl)) (pgs_cons (pg_name (i := 3) sc_needweb.nd rfl (Or.inl rfl)) pgs_nil))) (pss_one (ps_if (pt_not (pt_val (pe_cal C_iscomparer (hr.mono (by decide)) (by rfl) (pa_cons (pv 0) (pa_cons (pv 3) pa_nil))))) (pss_one ps_off) pss_nil)))))))) rd
theorem ok_needrow (h : Here K mg "need_row" s_needrow) (C_iswhole : Cal P w K mg base CX0 1 "is_whole" ["value"] (sp_iswhole K)) (b_all : mg "all" = none) (b_len : mg "len" = none) (b_list : mg "list" = none) (b_type : mg "type" = none)
    (len : ∀ vs H Q E, sp_needrow K vs H Q E → vs.length = P_needrow.length)
    (rd : ∀ (vs : List V) (H : Hp) (Q : VK) (E : XK), sp_needrow K vs H Q E → r_needrow K { nx := fun _ H' => Q .non H', rt := Q } (start N_needrow vs) H) :
    Cal P w K mg base CX0 2 "need_row" P_needrow (sp_needrow K) := by
  exact h.cal sc_needrow len (fun _ _ _ _ _ _ us hl => match us, hl with | [_, _], _ => rfl)
    (fun f cdv A outer s H E hr => (show PSs _ _ _ from (pss_cons (ps_if (pw_or (pt_not (pt_val (pe_cal C_iswhole (hr.mono (by decide)) (by rfl) (pa_cons (pv 0) pa_nil)))) (pw_or (pt_cmpR op_notTyB (pe_callTy call_type1 (by rfl) b_type (by decide +kernel) (pa_cons (pv 1) pa_nil)) (pe_bltn (v := .ty "list") (by rfl) b_list (by decide +kernel) rfl) (nomark _)) (pw_or1 (pt_cmpR op_ne (pe_callB cl_len (by rfl) b_len PySem.boot_len (pa_cons (pv 1) pa_nil)) (pv 0) (nomark _))))).pt (pss_one ps_off) pss_nil) (pss_one (ps_if (pt_not (pt_val (pe_callB (cr_all rfl) (by rfl) b_all (by decide +kernel) (pa_cons (pe_lc (own := [("number", 2)]) rfl sc_needrow.nd (pi_list (pv 1)) (blkOk_by (N := N_needrow) (sc := defScope s_needrow) (by decide +kernel)) (fun _ _ _ _ _ => (pg_name (i := 2) sc_needrow.nd rfl (Or.inl rfl))) (fun _ _ _ _ _ => pts_nil) (fun _ _ _ _ _ => (pe_cal C_iswhole (hr.mono (by decide)) (by rfl) (pa_cons (pv 2) pa_nil)))) pa_nil)))) (pss_one ps_off) pss_nil))))) rd
theorem ok_unsorted (h : Here K mg "unsorted" s_unsorted) (C_greater : Cal P w K mg base CX0 1 "greater" ["columns", "a", "b"] (sp_greater K)) (C_columnsout : Cal P w K mg base CX0 2 "columns_out" ["lines", "comparers"] (sp_columnsout K)) (C_firstrow : Cal P w K mg base CX0 2 "first_row" ["lines", "rows"] (sp_firstrow K)) (C_needweb : Cal P w K mg base CX0 4 "need_web" ["lines", "comparers"] (sp_needweb K)) (b_range : mg "range" = none)
    (len : ∀ vs H Q E, sp_unsorted K vs H Q E → vs.length = P_unsorted.length)
    (rd : ∀ (vs : List V) (H : Hp) (Q : VK) (E : XK), sp_unsorted K vs H Q E → r_unsorted K { nx := fun _ H' => Q .non H', rt := Q } (start N_unsorted vs) H) :
    Cal P w K mg base CX0 5 "unsorted" P_unsorted (sp_unsorted K) := by
  exact h.cal sc_unsorted len (fun _ _ _ _ _ _ us hl => match us, hl with | [_, _], _ => rfl)
    (fun f cdv A outer s H E hr => (show PSs _ _ _ from (pss_cons (ps_expr (pe_cal C_needweb (hr.mono (by decide)) (by rfl) (pa_cons (pv 0) (pa_cons (pv 1) pa_nil)))) (pss_cons (ps_set (i := 2) sc_unsorted.nd rfl (Or.inl rfl) (pe_cal C_columnsout (hr.mono (by decide)) (by rfl) (pa_cons (pv 0) (pa_cons (pv 1) pa_nil)))) (pss_cons (ps_set (i := 3) sc_unsorted.nd rfl (Or.inl rfl) pe_int) (pss_cons (ps_for PassesOwn.never rfl (pi_range1 (by rfl) b_range (pa_cons (pe_op op_sub (pv 0) pe_int) pa_nil)) (pg_name (i := 4) sc_unsorted.nd rfl (Or.inl rfl)) (pss_one (ps_set (i := 3) sc_unsorted.nd rfl (Or.inl rfl) (pe_op op_or (pv 3) (pe_cal C_greater (hr.mono (by decide)) (by rfl) (pa_cons (pv 2) (pa_cons (pv 4) (pa_cons (pe_op op_add (pv 4) pe_int) pa_nil)))))))) (pss_one (ps_ret (pe_cal C_firstrow (hr.mono (by decide)) (by rfl) (pa_cons (pv 0) (pa_cons (pv 3) pa_nil))))))))))) rd
theorem ok_stirring (h : Here K mg "stirring" s_stirring) (C_greater : Cal P w K mg base CX0 1 "greater" ["columns", "a", "b"] (sp_greater K)) (C_columnsout : Cal P w K mg base CX0 2 "columns_out" ["lines", "comparers"] (sp_columnsout K)) (C_firstrow : Cal P w K mg base CX0 2 "first_row" ["lines", "rows"] (sp_firstrow K)) (C_needweb : Cal P w K mg base CX0 4 "need_web" ["lines", "comparers"] (sp_needweb K)) (C_needplace : Cal P w K mg base CX0 2 "_need_place" ["comparers", "place"] (sp_needplace K))
    (len : ∀ vs H Q E, sp_stirring K vs H Q E → vs.length = P_stirring.length)
    (rd : ∀ (vs : List V) (H : Hp) (Q : VK) (E : XK), sp_stirring K vs H Q E → r_stirring K { nx := fun _ H' => Q .non H', rt := Q } (start N_stirring vs) H) :
    Cal P w K mg base CX0 5 "stirring" P_stirring (sp_stirring K) := by
  exact h.cal sc_stirring len (fun _ _ _ _ _ _ us hl => match us, hl with | [_, _, _], _ => rfl)
    (fun f cdv A outer s H E hr => (show PSs _ _ _ from (pss_cons (ps_expr (pe_cal C_needweb (hr.mono (by decide)) (by rfl) (pa_cons (pv 0) (pa_cons (pv 1) pa_nil)))) (pss_cons (ps_expr (pe_cal C_needplace (hr.mono (by decide)) (by rfl) (pa_cons (pv 1) (pa_cons (pv 2) pa_nil)))) (pss_cons (ps_asg (pe_ix ix_list (pv 1) (pv 2) (fun _ _ => rfl)) (pg_tup rfl (pgs_cons (pg_name (i := 3) sc_stirring.nd rfl (Or.inl rfl)) (pgs_cons (pg_name (i := 4) sc_stirring.nd rfl (Or.inl rfl)) pgs_nil)))) (pss_one (ps_ret (pe_cal C_firstrow (hr.mono (by decide)) (by rfl) (pa_cons (pv 0) (pa_cons (pe_cal C_greater (hr.mono (by decide)) (by rfl) (pa_cons (pe_cal C_columnsout (hr.mono (by decide)) (by rfl) (pa_cons (pv 0) (pa_cons (pe_slice sl_list (pv 1) po_none (po_some (pv 2))) pa_nil))) (pa_cons (pv 3) (pa_cons (pv 4) pa_nil)))) pa_nil)))))))))) rd
theorem ok_needless (h : Here K mg "needless" s_needless) (C_allcolumns : Cal P w K mg base CX0 1 "all_columns" ["lines"] (sp_allcolumns K)) (C_greater : Cal P w K mg base CX0 1 "greater" ["columns", "a", "b"] (sp_greater K)) (C_behind : Cal P w K mg base CX0 1 "behind" ["columns", "comparer"] (sp_behind K)) (C_needweb : Cal P w K mg base CX0 4 "need_web" ["lines", "comparers"] (sp_needweb K)) (b_enumerate : mg "enumerate" = none)
    (len : ∀ vs H Q E, sp_needless K vs H Q E → vs.length = P_needless.length)
    (rd : ∀ (vs : List V) (H : Hp) (Q : VK) (E : XK), sp_needless K vs H Q E → r_needless K { nx := fun _ H' => Q .non H', rt := Q } (start N_needless vs) H) :
    Cal P w K mg base CX0 5 "needless" P_needless (sp_needless K) := by
  exact h.cal sc_needless len (fun _ _ _ _ _ _ us hl => match us, hl with | [_, _], _ => rfl)
    (fun f cdv A outer s H E hr => (show PSs _ _ _ from (pss_cons (ps_expr (pe_cal C_needweb (hr.mono (by decide)) (by rfl) (pa_cons (pv 0) (pa_cons (pv 1) pa_nil)))) (pss_cons (ps_set (i := 2) sc_needless.nd rfl (Or.inl rfl) (pe_lst pa_nil)) (pss_cons (ps_set (i := 3) sc_needless.nd rfl (Or.inl rfl) (pe_cal C_allcolumns (hr.mono (by decide)) (by rfl) (pa_cons (pv 0) pa_nil))) (pss_cons (ps_for PassesOwn.never rfl (pi_enum (by rfl) b_enumerate (pa_cons (pv 1) pa_nil)) (pg_tup rfl (pgs_cons (pg_name (i := 4) sc_needless.nd rfl (Or.inl rfl)) (pgs_cons (pg_name (i := 5) sc_needless.nd rfl (Or.inl rfl)) pgs_nil))) (pss_cons (ps_asg (pv 5) (pg_tup rfl (pgs_cons (pg_name (i := 6) sc_needless.nd rfl (Or.inl rfl)) (pgs_cons (pg_name (i := 7) sc_needless.nd rfl (Or.inl rfl)) pgs_nil)))) (pss_cons (ps_if (pt_cmpR op_eq (pe_cal C_greater (hr.mono (by decide)) (by rfl) (pa_cons (pv 3) (pa_cons (pv 6) (pa_cons (pv 7) pa_nil)))) pe_int (nomark _)) (pss_one (ps_expr (pe_bm PySem.F.plainAttrs_list PySem.F.slot_list_append PySem.F.type_list_append md_append (pv 2) (pa_cons (pv 4) pa_nil)))) pss_nil) (pss_one (ps_set (i := 3) sc_needless.nd rfl (Or.inl rfl) (pe_cal C_behind (hr.mono (by decide)) (by rfl) (pa_cons (pv 3) (pa_cons (pv 5) pa_nil)))))))) (pss_one (ps_ret (pv 2))))))))) rd
theorem ok_pruned (h : Here K mg "pruned" s_pruned) (C_needless : Cal P w K mg base CX0 5 "needless" ["lines", "comparers"] (sp_needless K)) (b_enumerate : mg "enumerate" = none)
    (len : ∀ vs H Q E, sp_pruned K vs H Q E → vs.length = P_pruned.length)
    (rd : ∀ (vs : List V) (H : Hp) (Q : VK) (E : XK), sp_pruned K vs H Q E → r_pruned K { nx := fun _ H' => Q .non H', rt := Q } (start N_pruned vs) H) :
    Cal P w K mg base CX0 6 "pruned" P_pruned (sp_pruned K) := by
  exact h.cal sc_pruned len (fun _ _ _ _ _ _ us hl => match us, hl with | [_, _], _ => rfl)
    (fun f cdv A outer s H E hr => (show PSs _ _ _ from (pss_cons (ps_set (i := 2) sc_pruned.nd rfl (Or.inr rfl) (pe_cal C_needless (hr.mono (by decide)) (by rfl) (pa_cons (pv 0) (pa_cons (pv 1) pa_nil)))) (pss_one (ps_ret (pe_lc (own := [("place", 3), ("comparer", 4)]) rfl sc_pruned.nd (pi_enum (by rfl) b_enumerate (pa_cons (pv 1) pa_nil)) (blkOk_by (N := N_pruned) (sc := defScope s_pruned) (by decide +kernel)) (fun _ _ _ _ _ => (pg_tup rfl (pgs_cons (pg_name (i := 3) sc_pruned.nd rfl (Or.inl rfl)) (pgs_cons (pg_name (i := 4) sc_pruned.nd rfl (Or.inl rfl)) pgs_nil)))) (fun _ _ _ _ _ => (pts_one (pt_cmpR op_notIn_seq (pv 3) (pv 2) (by with_unfolding_all rfl)))) (fun _ _ _ _ _ => (pv 4)))))))) rd
theorem ok_differing (h : Here K mg "differing" s_differing) (C_columnsout : Cal P w K mg base CX0 2 "columns_out" ["lines", "comparers"] (sp_columnsout K)) (C_firstrow : Cal P w K mg base CX0 2 "first_row" ["lines", "rows"] (sp_firstrow K)) (C_needweb : Cal P w K mg base CX0 4 "need_web" ["lines", "comparers"] (sp_needweb K)) (b_zip : mg "zip" = none)
    (len : ∀ vs H Q E, sp_differing K vs H Q E → vs.length = P_differing.length)
    (rd : ∀ (vs : List V) (H : Hp) (Q : VK) (E : XK), sp_differing K vs H Q E → r_differing K { nx := fun _ H' => Q .non H', rt := Q } (start N_differing vs) H) :
    Cal P w K mg base CX0 5 "differing" P_differing (sp_differing K) := by
  exact h.cal sc_differing len (fun _ _ _ _ _ _ us hl => match us, hl with | [_, _, _], _ => rfl)
    (fun f cdv A outer s H E hr => (show PSs _ _ _ from (pss_cons (ps_expr (pe_cal C_needweb (hr.mono (by decide)) (by rfl) (pa_cons (pv 0) (pa_cons (pv 1) pa_nil)))) (pss_cons (ps_expr (pe_cal C_needweb (hr.mono (by decide)) (by rfl) (pa_cons (pv 0) (pa_cons (pv 2) pa_nil)))) (pss_cons (ps_set (i := 3) sc_differing.nd rfl (Or.inl rfl) pe_int) (pss_cons (ps_for PassesOwn.never rfl (pi_zip (by rfl) b_zip (pa_cons (pe_cal C_columnsout (hr.mono (by decide)) (by rfl) (pa_cons (pv 0) (pa_cons (pv 1) pa_nil))) (pa_cons (pe_cal C_columnsout (hr.mono (by decide)) (by rfl) (pa_cons (pv 0) (pa_cons (pv 2) pa_nil))) pa_nil))) (pg_tup rfl (pgs_cons (pg_name (i := 4) sc_differing.nd rfl (Or.inl rfl)) (pgs_cons (pg_name (i := 5) sc_differing.nd rfl (Or.inl rfl)) pgs_nil))) (pss_one (ps_set (i := 3) sc_differing.nd rfl (Or.inl rfl) (pe_op op_or (pv 3) (pe_op op_xor (pv 4) (pv 5)))))) (pss_one (ps_ret (pe_cal C_firstrow (hr.mono (by decide)) (by rfl) (pa_cons (pv 0) (pa_cons (pv 3) pa_nil))))))))))) rd
theorem ok_needplace (h : Here K mg "_need_place" s_needplace) (C_iswhole : Cal P w K mg base CX0 1 "is_whole" ["value"] (sp_iswhole K)) (b_len : mg "len" = none)
    (len : ∀ vs H Q E, sp_needplace K vs H Q E → vs.length = P_needplace.length)
    (rd : ∀ (vs : List V) (H : Hp) (Q : VK) (E : XK), sp_needplace K vs H Q E → r_needplace K { nx := fun _ H' => Q .non H', rt := Q } (start N_needplace vs) H) :
    Cal P w K mg base CX0 2 "_need_place" P_needplace (sp_needplace K) := by
  exact h.cal sc_needplace len (fun _ _ _ _ _ _ us hl => match us, hl with | [_, _], _ => rfl)
    (fun f cdv A outer s H E hr => (show PSs _ _ _ from (pss_one (ps_if (pw_or (pt_not (pt_val (pe_cal C_iswhole (hr.mono (by decide)) (by rfl) (pa_cons (pv 1) pa_nil)))) (pw_or1 (pt_not (pt_chain op_le op_lt pe_int (pv 1) (pe_callB cl_len (by rfl) b_len PySem.boot_len (pa_cons (pv 0) pa_nil)))))).pt (pss_one ps_off) pss_nil)))) rd
theorem ok_run (h : Here K mg "run" s_run) (C_steps : Cal P w K mg base CX0 5 "steps" ["lines", "comparers", "row"] (sp_steps K))
    (len : ∀ vs H Q E, sp_run K vs H Q E → vs.length = P_run.length)
    (rd : ∀ (vs : List V) (H : Hp) (Q : VK) (E : XK), sp_run K vs H Q E → r_run K { nx := fun _ H' => Q .non H', rt := Q } (start N_run vs) H) :
    Cal P w K mg base CX0 6 "run" P_run (sp_run K) := by
  exact h.cal sc_run len (fun _ _ _ _ _ _ us hl => match us, hl with | [_, _, _], _ => rfl)
    (fun f cdv A outer s H E hr => (show PSs _ _ _ from (pss_one (ps_ret (pe_ix ix_list (pe_cal C_steps (hr.mono (by decide)) (by rfl) (pa_cons (pv 0) (pa_cons (pv 1) (pa_cons (pv 2) pa_nil)))) (pe_un un_neg pe_int) (fun _ _ => rfl)))))) rd
theorem ok_steps (h : Here K mg "steps" s_steps) (C_needweb : Cal P w K mg base CX0 4 "need_web" ["lines", "comparers"] (sp_needweb K)) (C_needrow : Cal P w K mg base CX0 2 "need_row" ["lines", "row"] (sp_needrow K)) (C_rbehind : Cal P w K mg base CX0 1 "_behind" ["row", "comparer"] (sp_rbehind K)) (b_list : mg "list" = none)
    (len : ∀ vs H Q E, sp_steps K vs H Q E → vs.length = P_steps.length)
    (rd : ∀ (vs : List V) (H : Hp) (Q : VK) (E : XK), sp_steps K vs H Q E → r_steps K { nx := fun _ H' => Q .non H', rt := Q } (start N_steps vs) H) :
    Cal P w K mg base CX0 5 "steps" P_steps (sp_steps K) := by
  exact h.cal sc_steps len (fun _ _ _ _ _ _ us hl => match us, hl with | [_, _, _], _ => rfl)
    (fun f cdv A outer s H E hr => (show PSs _ _ _ from (pss_cons (ps_expr (pe_cal C_needweb (hr.mono (by decide)) (by rfl) (pa_cons (pv 0) (pa_cons (pv 1) pa_nil)))) (pss_cons (ps_expr (pe_cal C_needrow (hr.mono (by decide)) (by rfl) (pa_cons (pv 0) (pa_cons (pv 2) pa_nil)))) (pss_cons (ps_set (i := 3) sc_steps.nd rfl (Or.inl rfl) (pe_lst (pa_cons (pe_callTy cl_list (by rfl) b_list (by decide +kernel) (pa_cons (pv 2) pa_nil)) pa_nil))) (pss_cons (ps_for PassesOwn.never rfl (pi_list (pv 1)) (pg_name (i := 4) sc_steps.nd rfl (Or.inl rfl)) (pss_one (ps_expr (pe_bm PySem.F.plainAttrs_list PySem.F.slot_list_append PySem.F.type_list_append md_append (pv 3) (pa_cons (pe_cal C_rbehind (hr.mono (by decide)) (by rfl) (pa_cons (pe_ix ix_list (pv 3) (pe_un un_neg pe_int) (fun _ _ => rfl)) (pa_cons (pv 4) pa_nil))) pa_nil))))) (pss_one (ps_ret (pv 3))))))))) rd
theorem ok_rbehind (h : Here K mg "_behind" s_rbehind) (b_list : mg "list" = none)
    (len : ∀ vs H Q E, sp_rbehind K vs H Q E → vs.length = P_rbehind.length)
    (rd : ∀ (vs : List V) (H : Hp) (Q : VK) (E : XK), sp_rbehind K vs H Q E → r_rbehind K { nx := fun _ H' => Q .non H', rt := Q } (start N_rbehind vs) H) :
    Cal P w K mg base CX0 1 "_behind" P_rbehind (sp_rbehind K) := by
  exact h.cal sc_rbehind len (fun _ _ _ _ _ _ us hl => match us, hl with | [_, _], _ => rfl)
    (fun f cdv A outer s H E hr => (show PSs _ _ _ from (pss_cons (ps_asg (pv 1) (pg_tup rfl (pgs_cons (pg_name (i := 2) sc_rbehind.nd rfl (Or.inl rfl)) (pgs_cons (pg_name (i := 3) sc_rbehind.nd rfl (Or.inl rfl)) pgs_nil)))) (pss_cons (ps_set (i := 4) sc_rbehind.nd rfl (Or.inl rfl) (pe_callTy cl_list (by rfl) b_list (by decide +kernel) (pa_cons (pv 0) pa_nil))) (pss_cons (ps_if (pt_cmpR op_gt (pe_ix ix_list (pv 0) (pv 2) (fun _ _ => rfl)) (pe_ix ix_list (pv 0) (pv 3) (fun _ _ => rfl)) (nomark _)) (pss_cons (ps_asg (pe_ix ix_list (pv 0) (pv 3) (fun _ _ => rfl)) (pg_sub (pv 4) (pv 2) set_list)) (pss_one (ps_asg (pe_ix ix_list (pv 0) (pv 2) (fun _ _ => rfl)) (pg_sub (pv 4) (pv 3) set_list)))) pss_nil) (pss_one (ps_ret (pv 4)))))))) rd
theorem ok_ldraw (h : Here K mg "_law_draw" s_ldraw) 
    (len : ∀ vs H Q E, sp_ldraw K vs H Q E → vs.length = P_ldraw.length)
    (rd : ∀ (vs : List V) (H : Hp) (Q : VK) (E : XK), sp_ldraw K vs H Q E → r_ldraw K { nx := fun _ H' => Q .non H', rt := Q } (start N_ldraw vs) H) :
    Cal P w K mg base CX0 1 "_law_draw" P_ldraw (sp_ldraw K) := by
  exact h.cal sc_ldraw len (fun _ _ _ _ _ _ us hl => match us, hl with | [_, _, _], _ => rfl)
    (fun f cdv A outer s H E hr => (show PSs _ _ _ from (pss_cons (ps_set (i := 3) sc_ldraw.nd rfl (Or.inl rfl) (pe_op op_add (pe_op op_mul (pe_op op_mul (pe_op op_add (pv 1) pe_int) (pe_op op_add (pv 1) pe_int)) pe_int) (pe_op op_mul (pe_op op_mul (pe_op op_add (pv 2) pe_int) (pe_op op_add (pv 2) pe_int)) pe_int))) (pss_one (ps_ret (pe_op op_fdiv (pe_op op_mod (pe_op op_mul (pe_op op_mod (pe_op op_add (pe_op op_mul (pe_op op_mod (pv 0) pe_int) pe_int) (pv 3)) pe_int) pe_int) pe_int) pe_int)))))) rd
theorem ok_lbricks (h : Here K mg "_law_bricks" s_lbricks) (b_range : mg "range" = none)
    (len : ∀ vs H Q E, sp_lbricks K vs H Q E → vs.length = P_lbricks.length)
    (rd : ∀ (vs : List V) (H : Hp) (Q : VK) (E : XK), sp_lbricks K vs H Q E → r_lbricks K { nx := fun _ H' => Q .non H', rt := Q } (start N_lbricks vs) H) :
    Cal P w K mg base CX0 1 "_law_bricks" P_lbricks (sp_lbricks K) := by
  exact h.cal sc_lbricks len (fun _ _ _ _ _ _ us hl => match us, hl with | [_], _ => rfl)
    (fun f cdv A outer s H E hr => (show PSs _ _ _ from (pss_cons (ps_set (i := 1) sc_lbricks.nd rfl (Or.inl rfl) (pe_lst pa_nil)) (pss_cons (ps_for PassesOwn.never rfl (pi_range1 (by rfl) b_range (pa_cons (pv 0) pa_nil)) (pg_name (i := 2) sc_lbricks.nd rfl (Or.inl rfl)) (pss_one (ps_set (i := 1) sc_lbricks.nd rfl (Or.inl rfl) (pe_op op_cat (pv 1) (pe_lc (own := [("_law_k", 3)]) rfl sc_lbricks.nd (pi_range3 (by rfl) b_range (pa_cons (pe_op op_mod (pv 2) pe_int) (pa_cons (pe_op op_sub (pv 0) pe_int) (pa_cons pe_int pa_nil)))) (blkOk_by (N := N_lbricks) (sc := defScope s_lbricks) (by decide +kernel)) (fun _ _ _ _ _ => (pg_name (i := 3) sc_lbricks.nd rfl (Or.inl rfl))) (fun _ _ _ _ _ => pts_nil) (fun _ _ _ _ _ => (pe_tup (pa_cons (pv 3) (pa_cons (pe_op op_add (pv 3) pe_int) pa_nil))))))))) (pss_one (ps_ret (pv 1))))))) rd
theorem ok_lcomparer (h : Here K mg "_law_comparer" s_lcomparer) (b_max : mg "max" = none) (b_min : mg "min" = none)
    (len : ∀ vs H Q E, sp_lcomparer K vs H Q E → vs.length = P_lcomparer.length)
    (rd : ∀ (vs : List V) (H : Hp) (Q : VK) (E : XK), sp_lcomparer K vs H Q E → r_lcomparer K { nx := fun _ H' => Q .non H', rt := Q } (start N_lcomparer vs) H) :
    Cal P w K mg base CX0 1 "_law_comparer" P_lcomparer (sp_lcomparer K) := by
  exact h.cal sc_lcomparer len (fun _ _ _ _ _ _ us hl => match us, hl with | [_, _], _ => rfl)
    (fun f cdv A outer s H E hr => (show PSs _ _ _ from (pss_cons (ps_set (i := 2) sc_lcomparer.nd rfl (Or.inl rfl) (pe_op op_mod (pv 0) (pv 1))) (pss_cons (ps_set (i := 3) sc_lcomparer.nd rfl (Or.inl rfl) (pe_op op_mod (pe_op op_add (pe_op op_add (pv 2) pe_int) (pe_op op_mod (pe_op op_fdiv (pv 0) pe_int) (pe_op op_sub (pv 1) pe_int))) (pv 1))) (pss_one (ps_ret (pe_ifExp (pt_cmpR op_gt (pe_op op_mod (pe_op op_fdiv (pv 0) pe_int) pe_int) pe_int (nomark _)) (pe_tup (pa_cons (pe_callB (cl_min rfl) (by rfl) b_min (by decide +kernel) (pa_cons (pv 2) (pa_cons (pv 3) pa_nil))) (pa_cons (pe_callB (cl_max rfl) (by rfl) b_max (by decide +kernel) (pa_cons (pv 2) (pa_cons (pv 3) pa_nil))) pa_nil))) (pe_tup (pa_cons (pv 2) (pa_cons (pv 3) pa_nil)))))))))) rd
theorem ok_lweb (h : Here K mg "_law_web" s_lweb) (C_ldraw : Cal P w K mg base CX0 1 "_law_draw" ["_law_cell", "_law_k", "_law_j"] (sp_ldraw K)) (C_lbricks : Cal P w K mg base CX0 1 "_law_bricks" ["_law_lines"] (sp_lbricks K)) (C_lcomparer : Cal P w K mg base CX0 1 "_law_comparer" ["_law_n", "_law_lines"] (sp_lcomparer K)) (b_enumerate : mg "enumerate" = none) (b_len : mg "len" = none) (b_sum : mg "sum" = none)
    (len : ∀ vs H Q E, sp_lweb K vs H Q E → vs.length = P_lweb.length)
    (rd : ∀ (vs : List V) (H : Hp) (Q : VK) (E : XK), sp_lweb K vs H Q E → r_lweb K { nx := fun _ H' => Q .non H', rt := Q } (start N_lweb vs) H) :
    Cal P w K mg base CX0 2 "_law_web" P_lweb (sp_lweb K) := by
  exact h.cal sc_lweb len (fun _ _ _ _ _ _ us hl => match us, hl with | [_], _ => rfl)
    (fun f cdv A outer s H E hr => (show PSs _ _ _ from (pss_cons (ps_set (i := 1) sc_lweb.nd rfl (Or.inl rfl) (pe_slice sl_list (pv 0) po_none (po_some pe_int))) (pss_cons (ps_set (i := 2) sc_lweb.nd rfl (Or.inl rfl) (pe_cal C_ldraw (hr.mono (by decide)) (by rfl) (pa_cons (pe_callB (cr_sum rfl) (by rfl) b_sum (by decide +kernel) (pa_cons (pe_slice sl_list (pv 1) po_none (po_some pe_int)) pa_nil)) (pa_cons (pe_callB cl_len (by rfl) b_len PySem.boot_len (pa_cons (pv 1) pa_nil)) (pa_cons pe_int pa_nil))))) (pss_cons (ps_set (i := 3) sc_lweb.nd rfl (Or.inr rfl) (pe_ix ix_list (pe_lst (pa_cons (pe_op op_add pe_int (pe_op op_mod (pe_op op_fdiv (pv 2) pe_int) pe_int)) (pa_cons (pe_op op_add pe_int (pe_op op_mod (pe_op op_fdiv (pv 2) pe_int) pe_int)) (pa_cons (pe_op op_add pe_int (pe_op op_mod (pe_op op_fdiv (pv 2) pe_int) pe_int)) (pa_cons pe_int pa_nil))))) (pe_op op_mod (pv 2) pe_int) (fun _ _ => rfl))) (pss_cons (ps_if (pt_cmpR op_eq (pv 3) pe_int (nomark _)) (pss_one (ps_ret (pe_tup (pa_cons pe_int (pa_cons (pe_lst pa_nil) pa_nil))))) pss_nil) (pss_cons (ps_if (pt_cmpR op_eq (pe_op op_mod (pe_op op_fdiv (pv 2) pe_int) pe_int) pe_int (nomark _)) (pss_one (ps_ret (pe_tup (pa_cons (pv 3) (pa_cons (pe_lc (own := [("_law_k", 4), ("_law_cell", 5)]) rfl sc_lweb.nd (pi_enum (by rfl) b_enumerate (pa_cons (pv 1) pa_nil)) (blkOk_by (N := N_lweb) (sc := defScope s_lweb) (by decide +kernel)) (fun _ _ _ _ _ => (pg_tup rfl (pgs_cons (pg_name (i := 4) sc_lweb.nd rfl (Or.inl rfl)) (pgs_cons (pg_name (i := 5) sc_lweb.nd rfl (Or.inl rfl)) pgs_nil)))) (fun _ _ _ _ _ => pts_nil) (fun _ _ _ _ _ => (pe_cal C_lcomparer (hr.mono (by decide)) (by rfl) (pa_cons (pe_cal C_ldraw (hr.mono (by decide)) (by rfl) (pa_cons (pv 5) (pa_cons (pv 4) (pa_cons pe_int pa_nil)))) (pa_cons (pv 3) pa_nil))))) pa_nil))))) pss_nil) (pss_cons (ps_set (i := 6) sc_lweb.nd rfl (Or.inl rfl) (pe_cal C_lbricks (hr.mono (by decide)) (by rfl) (pa_cons (pv 3) pa_nil))) (pss_cons (ps_for PassesOwn.never rfl (pi_enum (by rfl) b_enumerate (pa_cons (pv 1) pa_nil)) (pg_tup rfl (pgs_cons (pg_name (i := 4) sc_lweb.nd rfl (Or.inl rfl)) (pgs_cons (pg_name (i := 5) sc_lweb.nd rfl (Or.inl rfl)) pgs_nil))) (pss_cons (ps_set (i := 7) sc_lweb.nd rfl (Or.inl rfl) (pe_cal C_ldraw (hr.mono (by decide)) (by rfl) (pa_cons (pv 5) (pa_cons (pv 4) (pa_cons pe_int pa_nil))))) (pss_cons (ps_set (i := 8) sc_lweb.nd rfl (Or.inl rfl) (pe_op op_mod (pe_op op_fdiv (pv 7) pe_int) (pe_op op_add (pe_callB cl_len (by rfl) b_len PySem.boot_len (pa_cons (pv 6) pa_nil)) pe_int))) (pss_one (ps_if (pw_and (pt_cmpR op_lt (pe_op op_mod (pv 7) pe_int) pe_int (nomark _)) (pw_and1 (pt_cmpR op_lt (pv 8) (pe_callB cl_len (by rfl) b_len PySem.boot_len (pa_cons (pv 6) pa_nil)) (nomark _)))).pt (pss_one (ps_expr (pe_bm PySem.F.plainAttrs_list PySem.F.slot_list_pop PySem.F.type_list_pop md_popAt (pv 6) (pa_cons (pv 8) pa_nil)))) (pss_one (ps_if (pw_and (pt_cmpR op_lt (pe_op op_mod (pv 7) pe_int) pe_int (nomark _)) (pw_and1 (pt_cmpR op_lt (pe_callB cl_len (by rfl) b_len PySem.boot_len (pa_cons (pv 6) pa_nil)) pe_int (nomark _)))).pt (pss_one (ps_expr (pe_bm PySem.F.plainAttrs_list PySem.F.slot_list_insert PySem.F.type_list_insert md_insert (pv 6) (pa_cons (pv 8) (pa_cons (pe_cal C_lcomparer (hr.mono (by decide)) (by rfl) (pa_cons (pe_op op_fdiv (pv 7) pe_int) (pa_cons (pv 3) pa_nil))) pa_nil))))) (pss_one (ps_if (pw_and (pt_cmpR op_eq (pe_op op_mod (pv 7) pe_int) pe_int (nomark _)) (pw_and1 (pt_cmpR op_lt (pv 8) (pe_callB cl_len (by rfl) b_len PySem.boot_len (pa_cons (pv 6) pa_nil)) (nomark _)))).pt (pss_one (ps_asg (pe_turn (pe_ix ix_list (pv 6) (pv 8) (fun _ _ => rfl))) (pg_sub (pv 6) (pv 8) set_list))) pss_nil))))))))) (pss_one (ps_ret (pe_tup (pa_cons (pv 3) (pa_cons (pv 6) pa_nil)))))))))))))) rd
theorem ok_lrows (h : Here K mg "_law_rows" s_lrows) (C_ldraw : Cal P w K mg base CX0 1 "_law_draw" ["_law_cell", "_law_k", "_law_j"] (sp_ldraw K)) (b_len : mg "len" = none) (b_range : mg "range" = none)
    (len : ∀ vs H Q E, sp_lrows K vs H Q E → vs.length = P_lrows.length)
    (rd : ∀ (vs : List V) (H : Hp) (Q : VK) (E : XK), sp_lrows K vs H Q E → r_lrows K { nx := fun _ H' => Q .non H', rt := Q } (start N_lrows vs) H) :
    Cal P w K mg base CX0 2 "_law_rows" P_lrows (sp_lrows K) := by
  exact h.cal sc_lrows len (fun _ _ _ _ _ _ us hl => match us, hl with | [_, _], _ => rfl)
    (fun f cdv A outer s H E hr => (show PSs _ _ _ from (pss_cons (ps_set (i := 2) sc_lrows.nd rfl (Or.inl rfl) (pe_slice sl_list (pv 0) po_none (po_some pe_int))) (pss_cons (ps_set (i := 3) sc_lrows.nd rfl (Or.inl rfl) (pe_lst pa_nil)) (pss_cons (ps_for PassesOwn.never rfl (pi_range3 (by rfl) b_range (pa_cons pe_int (pa_cons (pe_op op_add (pe_callB cl_len (by rfl) b_len PySem.boot_len (pa_cons (pv 2) pa_nil)) (pv 1)) (pa_cons (pv 1) pa_nil)))) (pg_name (i := 4) sc_lrows.nd rfl (Or.inl rfl)) (pss_cons (ps_set (i := 5) sc_lrows.nd rfl (Or.inl rfl) (pe_lst pa_nil)) (pss_cons (ps_for PassesOwn.never rfl (pi_range1 (by rfl) b_range (pa_cons (pv 1) pa_nil)) (pg_name (i := 6) sc_lrows.nd rfl (Or.inl rfl)) (pss_cons (ps_set (i := 7) sc_lrows.nd rfl (Or.inl rfl) (pe_ifExp (pt_cmpR (op_neD (hu64 hr)) (pv 2) (pe_lst pa_nil) (nomark _)) (pe_ix ix_list (pv 2) (pe_op op_mod (pe_op op_add (pv 4) (pv 6)) (pe_callB cl_len (by rfl) b_len PySem.boot_len (pa_cons (pv 2) pa_nil))) (fun _ _ => rfl)) (pv 6))) (pss_cons (ps_set (i := 8) sc_lrows.nd rfl (Or.inl rfl) (pe_cal C_ldraw (hr.mono (by decide)) (by rfl) (pa_cons (pv 7) (pa_cons (pe_op op_add (pv 4) (pv 6)) (pa_cons pe_int pa_nil))))) (pss_one (ps_expr (pe_bm PySem.F.plainAttrs_list PySem.F.slot_list_append PySem.F.type_list_append md_append (pv 5) (pa_cons (pe_ix ix_list (pe_lst (pa_cons (pe_op op_mod (pv 7) (pe_op op_pow pe_int pe_int)) (pa_cons (pe_op op_sub pe_int (pe_op op_mod (pv 7) (pe_op op_pow pe_int pe_int))) (pa_cons (pe_op op_mod (pv 8) pe_int) (pa_cons (pe_op op_sub (pe_op op_mod (pv 7) pe_int) pe_int) pa_nil))))) (pe_op op_mod (pe_op op_fdiv (pv 8) pe_int) pe_int) (fun _ _ => rfl)) pa_nil))))))) (pss_one (ps_expr (pe_bm PySem.F.plainAttrs_list PySem.F.slot_list_append PySem.F.type_list_append md_append (pv 3) (pa_cons (pv 5) pa_nil))))))) (pss_one (ps_ret (pv 3)))))))) rd
theorem ok_llaid (h : Here K mg "_law_laid" s_llaid) (b_enumerate : mg "enumerate" = none) (b_sorted : mg "sorted" = none)
    (len : ∀ vs H Q E, sp_llaid K vs H Q E → vs.length = P_llaid.length)
    (rd : ∀ (vs : List V) (H : Hp) (Q : VK) (E : XK), sp_llaid K vs H Q E → r_llaid K { nx := fun _ H' => Q .non H', rt := Q } (start N_llaid vs) H) :
    Cal P w K mg base CX0 1 "_law_laid" P_llaid (sp_llaid K) := by
  exact h.cal sc_llaid len (fun _ _ _ _ _ _ us hl => match us, hl with | [_, _], _ => rfl)
    (fun f cdv A outer s H E hr => (show PSs _ _ _ from (pss_cons (ps_set (i := 2) sc_llaid.nd rfl (Or.inl rfl) (pe_callB cr_sortedI (by rfl) b_sorted (by decide +kernel) (pa_cons (pe_lc (own := [("_law_k", 7), ("_law_number", 8)]) rfl sc_llaid.nd (pi_enum (by rfl) b_enumerate (pa_cons (pv 1) pa_nil)) (blkOk_by (N := N_llaid) (sc := defScope s_llaid) (by decide +kernel)) (fun _ _ _ _ _ => (pg_tup rfl (pgs_cons (pg_name (i := 7) sc_llaid.nd rfl (Or.inl rfl)) (pgs_cons (pg_name (i := 8) sc_llaid.nd rfl (Or.inl rfl)) pgs_nil)))) (fun _ _ _ _ _ => pts_nil) (fun _ _ _ _ _ => (pe_op op_add (pe_op op_mul pe_int (pv 8)) (pv 7)))) pa_nil))) (pss_cons (ps_setLc (i := 2) (own := [("_law_k", 7), ("_law_number", 8)]) rfl sc_llaid.nd rfl rfl (sw_true rfl rfl rfl (by decide +kernel)) (pi_enum (by rfl) b_enumerate (pa_cons (pv 2) pa_nil)) (blkOk_by (N := N_llaid) (sc := defScope s_llaid) (by decide +kernel)) (fun _ _ _ _ _ => (pg_tup rfl (pgs_cons (pg_name (i := 7) sc_llaid.nd rfl (Or.inl rfl)) (pgs_cons (pg_name (i := 8) sc_llaid.nd rfl (Or.inl rfl)) pgs_nil)))) (fun _ _ _ _ _ => pts_nil) (fun _ _ _ _ _ => (pe_op op_add (pv 8) (pv 7)))) (pss_cons (ps_set (i := 3) sc_llaid.nd rfl (Or.inl rfl) (pe_slice sl_list (pv 2) po_none (po_some (pe_bm PySem.F.plainAttrs_list PySem.F.slot_list_count PySem.F.type_list_count md_count (pv 0) (pa_cons pe_int pa_nil))))) (pss_cons (ps_set (i := 4) sc_llaid.nd rfl (Or.inl rfl) (pe_slice sl_list (pv 2) (po_some (pe_bm PySem.F.plainAttrs_list PySem.F.slot_list_count PySem.F.type_list_count md_count (pv 0) (pa_cons pe_int pa_nil))) po_none)) (pss_cons (ps_set (i := 5) sc_llaid.nd rfl (Or.inl rfl) (pe_lst pa_nil)) (pss_cons (ps_for PassesOwn.never rfl (pi_list (pv 0)) (pg_name (i := 6) sc_llaid.nd rfl (Or.inl rfl)) (pss_one (ps_expr (pe_bm PySem.F.plainAttrs_list PySem.F.slot_list_append PySem.F.type_list_append md_append (pv 5) (pa_cons (pe_ifExp (pt_cmpR op_eq (pv 6) pe_int (nomark _)) (pe_bm0 PySem.F.plainAttrs_list PySem.F.slot_list_pop PySem.F.type_list_pop mt_pop (pv 3)) (pe_bm PySem.F.plainAttrs_list PySem.F.slot_list_pop PySem.F.type_list_pop md_popAt (pv 4) (pa_cons pe_int pa_nil))) pa_nil))))) (pss_one (ps_ret (pv 5))))))))))) rd
theorem ok_lplacesgood (h : Here K mg "_law_places_good" s_lplacesgood) (C_stirring : Cal P w K mg base CX0 5 "stirring" ["lines", "comparers", "place"] (sp_stirring K)) (C_needless : Cal P w K mg base CX0 5 "needless" ["lines", "comparers"] (sp_needless K)) (C_steps : Cal P w K mg base CX0 5 "steps" ["lines", "comparers", "row"] (sp_steps K)) (C_llaid : Cal P w K mg base CX0 1 "_law_laid" ["_law_row", "_law_numbers"] (sp_llaid K)) (b_len : mg "len" = none) (b_min : mg "min" = none) (b_range : mg "range" = none)
    (len : ∀ vs H Q E, sp_lplacesgood K vs H Q E → vs.length = P_lplacesgood.length)
    (rd : ∀ (vs : List V) (H : Hp) (Q : VK) (E : XK), sp_lplacesgood K vs H Q E → r_lplacesgood K { nx := fun _ H' => Q .non H', rt := Q } (start N_lplacesgood vs) H) :
    Cal P w K mg base CX0 6 "_law_places_good" P_lplacesgood (sp_lplacesgood K) := by
  exact h.cal sc_lplacesgood len (fun _ _ _ _ _ _ us hl => match us, hl with | [_, _, _, _], _ => rfl)
    (fun f cdv A outer s H E hr => (show PSs _ _ _ from (pss_cons (ps_set (i := 4) sc_lplacesgood.nd rfl (Or.inl rfl) (pe_cal C_needless (hr.mono (by decide)) (by rfl) (pa_cons (pv 0) (pa_cons (pv 1) pa_nil)))) (pss_cons (ps_for PassesOwn.never rfl (pi_range1 (by rfl) b_range (pa_cons (pe_callB (cl_min rfl) (by rfl) b_min (by decide +kernel) (pa_cons pe_int (pa_cons (pe_callB cl_len (by rfl) b_len PySem.boot_len (pa_cons (pv 1) pa_nil)) pa_nil))) pa_nil)) (pg_name (i := 5) sc_lplacesgood.nd rfl (Or.inl rfl)) (pss_cons (ps_set (i := 6) sc_lplacesgood.nd rfl (Or.inl rfl) (pe_op op_mod (pe_op op_add (pv 3) (pe_op op_mul pe_int (pv 5))) (pe_callB cl_len (by rfl) b_len PySem.boot_len (pa_cons (pv 1) pa_nil)))) (pss_cons (ps_asg (pe_ix ix_list (pv 1) (pv 6) (fun _ _ => rfl)) (pg_tup rfl (pgs_cons (pg_name (i := 7) sc_lplacesgood.nd rfl (Or.inl rfl)) (pgs_cons (pg_name (i := 8) sc_lplacesgood.nd rfl (Or.inl rfl)) pgs_nil)))) (pss_cons (ps_set (i := 9) sc_lplacesgood.nd rfl (Or.inr rfl) (pe_cal C_stirring (hr.mono (by decide)) (by rfl) (pa_cons (pv 0) (pa_cons (pv 1) (pa_cons (pv 6) pa_nil))))) (pss_cons (ps_if (pt_cmpR op_ne (pe_cmpR op_isN1 (pv 9) pe_non (nomark _)) (pe_cmpR op_in_seq (pv 6) (pv 4) (by with_unfolding_all rfl)) (nomark _)) (pss_one (ps_ret pe_bl)) pss_nil) (pss_cons (ps_set (i := 11) sc_lplacesgood.nd rfl (Or.inl rfl) (pe_ifExp (pt_cmpR op_isN1 (pv 9) pe_non (nomark _)) (pv 2) (pe_lc (own := [("_law_row", 10)]) rfl sc_lplacesgood.nd (pi_list (pe_slice sl_list (pv 2) po_none (po_some pe_int))) (blkOk_by (N := N_lplacesgood) (sc := defScope s_lplacesgood) (by decide +kernel)) (fun _ _ _ _ _ => (pg_name (i := 10) sc_lplacesgood.nd rfl (Or.inl rfl))) (fun _ _ _ _ _ => pts_nil) (fun _ _ _ _ _ => (pe_cal C_llaid (hr.mono (by decide)) (by rfl) (pa_cons (pv 9) (pa_cons (pv 10) pa_nil))))))) (pss_one (ps_for PassesOwn.never rfl (pi_list (pv 11)) (pg_name (i := 10) sc_lplacesgood.nd rfl (Or.inl rfl)) (pss_cons (ps_set (i := 12) sc_lplacesgood.nd rfl (Or.inl rfl) (pe_ix ix_list (pe_cal C_steps (hr.mono (by decide)) (by rfl) (pa_cons (pv 0) (pa_cons (pv 1) (pa_cons (pv 10) pa_nil)))) (pv 6) (fun _ _ => rfl))) (pss_one (ps_if (pt_cmpR op_eq (pe_cmpR op_gt (pe_ix ix_list (pv 12) (pv 7) (fun _ _ => rfl)) (pe_ix ix_list (pv 12) (pv 8) (fun _ _ => rfl)) (nomark _)) (pe_cmpR op_isN1 (pv 9) pe_non (nomark _)) (nomark _)) (pss_one (ps_ret pe_bl)) pss_nil))))))))))) (pss_one (ps_ret pe_bl)))))) rd
theorem ok_law (h : Here K mg "law" s_law) (C_unsorted : Cal P w K mg base CX0 5 "unsorted" ["lines", "comparers"] (sp_unsorted K)) (C_needless : Cal P w K mg base CX0 5 "needless" ["lines", "comparers"] (sp_needless K)) (C_pruned : Cal P w K mg base CX0 6 "pruned" ["lines", "comparers"] (sp_pruned K)) (C_differing : Cal P w K mg base CX0 5 "differing" ["lines", "one", "other"] (sp_differing K)) (C_run : Cal P w K mg base CX0 6 "run" ["lines", "comparers", "row"] (sp_run K)) (C_ldraw : Cal P w K mg base CX0 1 "_law_draw" ["_law_cell", "_law_k", "_law_j"] (sp_ldraw K)) (C_lweb : Cal P w K mg base CX0 2 "_law_web" ["_law_script"] (sp_lweb K)) (C_lrows : Cal P w K mg base CX0 2 "_law_rows" ["_law_script", "_law_lines"] (sp_lrows K)) (C_llaid : Cal P w K mg base CX0 1 "_law_laid" ["_law_row", "_law_numbers"] (sp_llaid K)) (C_lplacesgood : Cal P w K mg base CX0 6 "_law_places_good" ["_law_lines", "_law_comparers", "_law_rows_here", "_law_n"] (sp_lplacesgood K)) (b_sorted : mg "sorted" = none) (b_sum : mg "sum" = none)
    (len : ∀ vs H Q E, sp_law K vs H Q E → vs.length = P_law.length)
    (rd : ∀ (vs : List V) (H : Hp) (Q : VK) (E : XK), sp_law K vs H Q E → r_law K { nx := fun _ H' => Q .non H', rt := Q } (start N_law vs) H) :
    Cal P w K mg base CX0 7 "law" P_law (sp_law K) := by
  exact h.cal sc_law len (fun _ _ _ _ _ _ us hl => match us, hl with | [_], _ => rfl)
    (fun f cdv A outer s H E hr => (show PSs _ _ _ from (pss_cons (ps_asg (pe_cal C_lweb (hr.mono (by decide)) (by rfl) (pa_cons (pv 0) pa_nil)) (pg_tup rfl (pgs_cons (pg_name (i := 1) sc_law.nd rfl (Or.inr rfl)) (pgs_cons (pg_name (i := 2) sc_law.nd rfl (Or.inr rfl)) pgs_nil)))) (pss_cons (ps_set (i := 3) sc_law.nd rfl (Or.inl rfl) (pe_cal C_lrows (hr.mono (by decide)) (by rfl) (pa_cons (pv 0) (pa_cons (pv 1) pa_nil)))) (pss_cons (ps_set (i := 4) sc_law.nd rfl (Or.inl rfl) (pe_cal C_unsorted (hr.mono (by decide)) (by rfl) (pa_cons (pv 1) (pa_cons (pv 2) pa_nil)))) (pss_cons (ps_for PassesOwn.never rfl (pi_list (pv 3)) (pg_name (i := 5) sc_law.nd rfl (Or.inl rfl)) (pss_cons (ps_set (i := 6) sc_law.nd rfl (Or.inl rfl) (pe_ifExp (pt_cmpR op_isN1 (pv 4) pe_non (nomark _)) (pv 5) (pe_cal C_llaid (hr.mono (by decide)) (by rfl) (pa_cons (pv 4) (pa_cons (pv 5) pa_nil))))) (pss_cons (ps_set (i := 7) sc_law.nd rfl (Or.inl rfl) (pe_cal C_run (hr.mono (by decide)) (by rfl) (pa_cons (pv 1) (pa_cons (pv 2) (pa_cons (pv 6) pa_nil))))) (pss_one (ps_if (pt_cmpR op_ne (pe_cmpR (op_eqD (hu64 hr)) (pv 7) (pe_callB cr_sortedI (by rfl) b_sorted (by decide +kernel) (pa_cons (pv 7) pa_nil)) (nomark _)) (pe_cmpR op_isN1 (pv 4) pe_non (nomark _)) (nomark _)) (pss_one (ps_ret pe_bl)) pss_nil))))) (pss_cons (ps_if (pt_not (pt_val (pe_cal C_lplacesgood (hr.mono (by decide)) (by rfl) (pa_cons (pv 1) (pa_cons (pv 2) (pa_cons (pv 3) (pa_cons (pe_cal C_ldraw (hr.mono (by decide)) (by rfl) (pa_cons (pe_callB (cr_sum rfl) (by rfl) b_sum (by decide +kernel) (pa_cons (pe_slice sl_list (pv 0) po_none (po_some pe_int)) pa_nil)) (pa_cons pe_int (pa_cons pe_int pa_nil)))) pa_nil))))))) (pss_one (ps_ret pe_bl)) pss_nil) (pss_cons (ps_set (i := 8) sc_law.nd rfl (Or.inr rfl) (pe_cal C_pruned (hr.mono (by decide)) (by rfl) (pa_cons (pv 1) (pa_cons (pv 2) pa_nil)))) (pss_cons (ps_if (pw_or (pt_cmpR op_notN1 (pe_cal C_differing (hr.mono (by decide)) (by rfl) (pa_cons (pv 1) (pa_cons (pv 2) (pa_cons (pv 8) pa_nil)))) pe_non (nomark _)) (pw_or1 (pt_cmpR (op_neD (hu64 hr)) (pe_cal C_needless (hr.mono (by decide)) (by rfl) (pa_cons (pv 1) (pa_cons (pv 8) pa_nil))) (pe_lst pa_nil) (nomark _)))).pt (pss_one (ps_ret pe_bl)) pss_nil) (pss_one (ps_ret (pe_cmpR (op_eqD (hu64 hr)) (pe_lc (own := [("_law_row", 5)]) rfl sc_law.nd (pi_list (pv 3)) (blkOk_by (N := N_law) (sc := defScope s_law) (by decide +kernel)) (fun _ _ _ _ _ => (pg_name (i := 5) sc_law.nd rfl (Or.inl rfl))) (fun _ _ _ _ _ => (pts_one (pt_cmpR (op_neD (hu64 hr)) (pe_cal C_run (hr.mono (by decide)) (by rfl) (pa_cons (pv 1) (pa_cons (pv 8) (pa_cons (pv 5) pa_nil)))) (pe_cal C_run (hr.mono (by decide)) (by rfl) (pa_cons (pv 1) (pa_cons (pv 2) (pa_cons (pv 5) pa_nil)))) (nomark _)))) (fun _ _ _ _ _ => (pv 5))) (pe_lst pa_nil) (nomark _))))))))))))) rd
end
end Sw

set_option Elab.async false
set_option linter.all false
set_option maxRecDepth 100000
set_option maxHeartbeats 4000000
namespace Sw
open PySem PySem.Spec PyProof.Rows L2
local macro_rules | `(tactic| walk_at "ev") => `(tactic| simp only [tSeq, tAsg, tRet, tRetN, tOp, tUn, tVar, tC, tNil, tCons, tCB, tDrop, tNext, tCont, tBreak, tIfS, tIf, tTest, tChain, tB, tTup, tLst, tAnd, tOr, tNot, tAndV, tOrV, tNotV, tPart, tNoPart, tSl, tCal, tAug, ipI, rI0, rI, rU, rEq, rNe, kMin, kMax, gName, gCons, gNil, L2.start, wipe, List.map_cons, List.map_nil, List.length_cons, List.length_nil, List.cons_append, List.nil_append, List.append_nil, Nat.reduceAdd, Nat.reduceSub, List.replicate_succ, List.replicate_zero, List.getElem?_cons_zero, List.getElem?_cons_succ, List.set_cons_succ, List.set_cons_zero, Option.some.injEq, exists_eq_left', exists_eq_left, V.int.injEq, V.bl.injEq, V.str.injEq, V.ref.injEq, List.cons.injEq, exists_and_left, and_assoc, and_true, true_and, scal_ii, scal_ss, scal_nn, scal_bb, scal_ni, scal_in, decide_eq_true_eq, Bool.not_true, Bool.not_false, Bool.not_eq_true', decide_eq_false_iff_not, ite_not, reduceCtorEq, if_true, if_false, Bool.false_eq_true, ne_eq, not_true_eq_false, not_false_eq_true, Int.reduceLT, Int.reduceLE, Int.reduceNeg])
local macro_rules | `(tactic| walk_at "cm") => `(tactic| first | exact Or.inr ⟨by decide, by decide⟩ | exact Or.inl ⟨by decide, by decide⟩ | exact Or.inl ⟨by omega, by omega⟩ | exact Or.inr ⟨by omega, by omega⟩)
variable {K : PySem.W.Frag}

theorem rd_ldraw (vs : List V) (H : Hp) (Q : VK) (E : XK) (h : sp_ldraw K vs H Q E) : r_ldraw K { nx := fun _ H' => Q .non H', rt := Q } (L2.start N_ldraw vs) H := by
  obtain ⟨c, k, j, rfl, hk, hj, q⟩ := h
  unfold r_ldraw N_ldraw
  walk_at "ev"
  refine ⟨by walk_at "cm", by walk_at "cm", by walk_at "cm", by walk_at "cm", by walk_at "cm", by walk_at "cm", ⟨by decide, by decide⟩, ?_⟩
  refine q _ ?_ ?_ <;> omega
/-- a drawn pair of lines -/
theorem drawn_pair {m : Int} {n : Nat} (h2 : 2 ≤ n) : ∃ a b : Nat, m % (n : Int) = (a : Int) ∧ (m % (n : Int) + 1 + m / 10 % ((n : Int) - 1)) % (n : Int) = (b : Int) ∧ a < n ∧ b < n ∧ a ≠ b := by
  have p : (0 : Int) < n := by omega
  have p1 : (0 : Int) < (n : Int) - 1 := by omega
  have a0 := Int.emod_nonneg m (Int.ne_of_gt p)
  have a1 := Int.emod_lt_of_pos m p
  have r0 := Int.emod_nonneg (m / 10) (Int.ne_of_gt p1)
  have r1 := Int.emod_lt_of_pos (m / 10) p1
  generalize m % (n : Int) = a at a0 a1 ⊢
  generalize m / 10 % ((n : Int) - 1) = r at r0 r1 ⊢
  have b : (a + 1 + r) % (n : Int) = if a + 1 + r < n then a + 1 + r else a + 1 + r - n := by
    by_cases h : a + 1 + r < n
    · rw [if_pos h, Int.emod_eq_of_lt (by omega) h]
    · rw [if_neg h, ← Int.sub_emod_right, Int.emod_eq_of_lt (by omega) (by omega)]
  rw [b]
  refine ⟨a.toNat, (if a + 1 + r < n then a + 1 + r else a + 1 + r - n).toNat, by omega, by split <;> omega, by omega, by split <;> omega, by split <;> omega⟩
theorem rd_lcomparer (vs : List V) (H : Hp) (Q : VK) (E : XK) (h : sp_lcomparer K vs H Q E) : r_lcomparer K { nx := fun _ H' => Q .non H', rt := Q } (L2.start N_lcomparer vs) H := by
  obtain ⟨m, n, rfl, hm, h2, h10, q⟩ := h
  unfold r_lcomparer N_lcomparer
  obtain ⟨a, b, ea, eb, la, lb, ne⟩ := drawn_pair (m := m) h2
  walk_at "ev"
  refine ⟨by omega, ⟨by decide, by decide⟩, by omega, by omega, ⟨by decide, by decide⟩, ?_⟩
  rw [eb, ea]
  split
  · refine ⟨small_line (by decide), fun p hp => ?_⟩
    rcases Nat.lt_or_gt_of_ne ne with h | h
    · refine q _ p (a, b) (same_new hp) hp ?_ ⟨la, lb, ne⟩
      rw [upd_same, if_neg (by omega), if_pos (by omega)] <;> rfl
    · refine q _ p (b, a) (same_new hp) hp ?_ ⟨lb, la, ne.symm⟩
      rw [upd_same, if_pos (by omega), if_neg (by omega)] <;> rfl
  · exact ⟨small_line (by decide), fun p hp => q _ p (a, b) (same_new hp) hp upd_same ⟨la, lb, ne⟩⟩
theorem brick_count {n t : Nat} (hn : n ≤ 7) : upN (t : Int) ((n : Int) - 1) 2 ≤ 4 := by
  unfold upN
  split <;> omega
/-- the list so far: pairs, comparers of n lines, as many as cs -/
def Gcs (K : PySem.W.Frag) (n : Nat) (H0 : Hp) (k : Nat) (acc : List V) (H' : Hp) : Prop := ∃ ps cs, acc = Rfs ps ∧ Same H0 H' ∧ Prs K H' ps cs ∧ CmpsOk n cs ∧ cs.length = k
theorem Gcs.nil {n : Nat} {H0 : Hp} {D : Addr} (h : H0 D = none) : Gcs K n H0 0 [] (upd H0 D (.lst [])) := ⟨[], [], rfl, same_new h, .nil, (fun _ h => by cases h), rfl⟩
theorem Gcs.snoc {n k : Nat} {H0 H' H2 : Hp} {D p : Addr} {acc : List V} {c : Cmp} (g : Gcs K n H0 k acc H') (nD : H0 D = none) (s : Same H' H2) (hD : H2 D = some (.lst acc)) (hp : SqT K H2 p (V2 c)) (ok : CmpOk n c) :
    Gcs K n H0 (k + 1) (acc ++ [.ref p]) (upd H2 D (.lst (acc ++ [.ref p]))) := by
  obtain ⟨ps, cs, rfl, s0, h, oks, z⟩ := g
  refine ⟨ps ++ [p], cs ++ [c], ?_, same_mut (s0.trans s) nD, prs_upd hD ((Same.prs s h).snoc hp), ?_, ?_⟩
  · unfold Rfs
    rw [List.map_append] <;> rfl
  · intro d hd
    rcases List.mem_append.mp hd with h | h
    · exact oks d h
    · rw [List.mem_singleton] at h
      rw [h]
      exact ok
  · rw [List.length_append, z] <;> rfl
theorem Gcs.len {n k : Nat} {H0 H' : Hp} {acc : List V} (g : Gcs K n H0 k acc H') : acc.length = k := by
  obtain ⟨ps, cs, rfl, _, h, _, z⟩ := g
  show (ps.map V.ref).length = k
  rw [List.length_map, h.length, z]
def Wbricks (K : PySem.W.Frag) (n : Nat) (H : Hp) (i : Nat) (σ : L2.St) (H' : Hp) : Prop := ∃ y l ps cs, σ = [some (.int (n : Int)), some (.ref l), y, none] ∧ Same H H' ∧ H l = none ∧ H' l = some (.lst (Rfs ps)) ∧ Prs K H' ps cs ∧ CmpsOk n cs ∧ cs.length ≤ 4 * i
theorem rd_lbricks (vs : List V) (H : Hp) (Q : VK) (E : XK) (h : sp_lbricks K vs H Q E) : r_lbricks K { nx := fun _ H' => Q .non H', rt := Q } (L2.start N_lbricks vs) H := by
  obtain ⟨n, rfl, h7, q⟩ := h
  unfold r_lbricks N_lbricks
  walk_at "ev"
  refine ⟨Nat.zero_le _, fun l0 n0 => ?_⟩
  refine for_rng (n := n) (fun Q q => ?_) (by omega) (Wbricks K n H)
    ⟨none, l0, [], [], rfl, same_new n0, n0, upd_same, .nil, (fun _ h => by cases h), Nat.zero_le _⟩ (fun i σ H' hi hW => ?_) (fun σ H' hW => ?_)
  · walk_at "ev"
    exact q
  · obtain ⟨y, l, ps, cs, rfl, sm, nl, hl, hp, hc, hz⟩ := hW
    unfold r_lbricks_f1
    walk_at "ev"
    have e2 : (i : Int) % 2 = ((i % 2 : Nat) : Int) := by omega
    have hz' := brick_count (n := n) (t := i % 2) h7
    refine lc_rng3 (lo := ((i % 2 : Nat) : Int)) (hi := (n : Int) - 1) (c := 2) (n := upN ((i % 2 : Nat) : Int) ((n : Int) - 1) 2) (fun Q q => ?_) (upN_rgc (by omega) (by omega) (by omega)) (fun v => rfl)
      (fun D => Gcs K n H') (fun D nD => .nil nD) ?_ ?_
    · walk_at "ev"
      rw [e2]
      exact q
    · intro D k acc H3 nD hk hD g
      refine .yes ?_
      walk_at "ev"
      refine ⟨small_line (by decide), fun p np => ?_⟩
      have lt := upN_lt (by decide) hk
      have hDp : D ≠ p := ne_of_none hD np
      refine GoOn.mk (acc := acc) (by rw [upd_ne hDp]; exact hD) (by have := g.len; omega) ?_
      refine g.snoc (c := ((i % 2 + k * 2), (i % 2 + k * 2 + 1))) nD (same_new np) (by rw [upd_ne hDp]; exact hD) (.inl (.inl ?_)) ⟨by show i % 2 + k * 2 < n; omega, by show i % 2 + k * 2 + 1 < n; omega, by show i % 2 + k * 2 ≠ i % 2 + k * 2 + 1; omega⟩
      rw [upd_same] <;> rfl
    · intro D acc H3 nD hD g
      obtain ⟨ps', cs', rfl, s3, p3, c3, z3⟩ := g
      have hl3 := s3 _ _ hl
      have := p3.length
      have := hp.length
      refine ⟨l, D, Rfs ps, Rfs ps', rfl, rfl, hl3, hD, ?_, fun p np => ?_⟩
      · unfold Rfs
        rw [List.length_map, List.length_map]
        exact small_line (by omega)
      · have s4 := (same_new (o := .lst (Rfs ps ++ Rfs ps')) np)
        refine ⟨some (.int (i : Int)), p, ps ++ ps', cs ++ cs', rfl, (sm.trans s3).trans s4, (sm.trans s3).free np, ?_, (Same.prs s4 (Same.prs s3 hp)).append (Same.prs s4 p3), ?_, ?_⟩
        · rw [upd_same]
          unfold Rfs
          rw [List.map_append]
        · intro c hc'
          rcases List.mem_append.mp hc' with h | h
          · exact hc c h
          · exact c3 c h
        · rw [List.length_append]
          omega
  · obtain ⟨y, l, ps, cs, rfl, sm, nl, hl, hp, hc, hz⟩ := hW
    walk_at "ev"
    exact q H' l ps cs sm nl hl hp hc (by omega)

theorem lines_pick {n : Int} (h : 0 ≤ n) : ∃ L : Nat, 1 ≤ L ∧ L ≤ 7 ∧ atI [V.int (2 + n / 8 % 5), V.int (3 + n / 8 % 3), V.int (1 + n / 8 % 7), V.int 4] (n % 4) = some (.int (L : Int)) := by
  have c : n % 4 = ((0 : Nat) : Int) ∨ n % 4 = ((1 : Nat) : Int) ∨ n % 4 = ((2 : Nat) : Int) ∨ n % 4 = ((3 : Nat) : Int) := by omega
  rcases c with c | c | c | c <;> rw [c]
  · refine ⟨(2 + n / 8 % 5).toNat, by omega, by omega, ?_⟩
    rw [Int.toNat_of_nonneg (by omega)] <;> rfl
  · refine ⟨(3 + n / 8 % 3).toNat, by omega, by omega, ?_⟩
    rw [Int.toNat_of_nonneg (by omega)] <;> rfl
  · refine ⟨(1 + n / 8 % 7).toNat, by omega, by omega, ?_⟩
    rw [Int.toNat_of_nonneg (by omega)] <;> rfl
  · exact ⟨4, by decide, by decide, rfl⟩
def Wweb (K : PySem.W.Frag) (a c : Addr) (n : Int) (L : Nat) (H : Hp) (xs : List V) (i : Nat) (σ : L2.St) (H' : Hp) : Prop :=
  ∃ y4 y5 y7 y8 l ps cs, σ = [some (.ref a), some (.ref c), some (.int n), some (.int (L : Int)), y4, y5, some (.ref l), y7, y8] ∧ Same H H' ∧ H l = none ∧ H' l = some (.lst (Rfs ps)) ∧ Prs K H' ps cs ∧ WebOk L cs ∧ H' c = some (.lst xs) ∧ c ≠ l
theorem rd_lweb (vs : List V) (H : Hp) (Q : VK) (E : XK) (h : sp_lweb K vs H Q E) : r_lweb K { nx := fun _ H' => Q .non H', rt := Q } (L2.start N_lweb vs) H := by
  obtain ⟨a, ns, rfl, ha, hn, q⟩ := h
  unfold r_lweb N_lweb
  walk_at "ev"
  refine ⟨a, _, rfl, ha, fun c nc => ?_⟩
  have e40 : cutV (ns.map V.int) none (some 40) = (ns.take 40).map V.int := cut_ints_to ns 40
  rw [e40]
  have s1 : Same H (upd H c (.lst ((ns.take 40).map V.int))) := same_new nc
  walk_at "ev"
  refine ⟨c, _, rfl, .inl (.inl upd_same), fun d nd => ?_⟩
  have e3 : cutV ((ns.take 40).map V.int) none (some 3) = ((ns.take 40).take 3).map V.int := cut_ints_to _ 3
  rw [e3]
  have ncd : c ≠ d := ne_of_none upd_same nd
  have s2 := s1.trans (same_new (o := .lst (((ns.take 40).take 3).map V.int)) nd)
  generalize hH2 : upd (upd H c (.lst ((ns.take 40).map V.int))) d (.lst (((ns.take 40).take 3).map V.int)) = H2 at s2
  have hc2 : H2 c = some (.lst ((ns.take 40).map V.int)) := by rw [← hH2, upd_ne ncd, upd_same]
  have hd2 : H2 d = some (.lst (((ns.take 40).take 3).map V.int)) := by rw [← hH2, upd_same]
  clear hH2
  have hcl : ((ns.take 40).map V.int).length ≤ 40 := by rw [List.length_map, List.length_take]; omega
  refine ⟨d, (ns.take 40).take 3, rfl, .inl (.inl hd2), ?_⟩
  refine ⟨c, _, rfl, .inl (.inl (.inl hc2)), ?_⟩
  refine ⟨_, _, _, rfl, by omega, by decide, fun n n0 n1 => ?_⟩
  walk_at "ev"
  obtain ⟨L, L1, L7, eL⟩ := lines_pick n0
  refine ⟨⟨by decide, by decide⟩, ⟨by decide, by decide⟩, ⟨by decide, by decide⟩, small_line (by decide), fun e ne => ?_⟩
  refine ⟨e, _, _, _, rfl, rfl, .inl (.inl upd_same), eL, ?_⟩
  have s3 := s2.trans (same_new (o := .lst [V.int (2 + n / 8 % 5), V.int (3 + n / 8 % 3), V.int (1 + n / 8 % 7), V.int 4]) ne)
  have hce : c ≠ e := ne_of_none hc2 ne
  generalize hH3 : upd H2 e (.lst [V.int (2 + n / 8 % 5), V.int (3 + n / 8 % 3), V.int (1 + n / 8 % 7), V.int 4]) = H3 at s3
  have hc3 : H3 c = some (.lst ((ns.take 40).map V.int)) := by rw [← hH3, upd_ne hce, hc2]
  clear hH3
  walk_at "ev"
  split
  · -- one line
    rename_i e1
    refine ⟨Nat.zero_le _, fun l nl => ⟨small_line (by decide), fun p np => ?_⟩⟩
    have hlp : l ≠ p := ne_of_none upd_same np
    have s4 := s3.trans (same_new (o := .lst []) nl)
    refine q _ p l [] 1 [] (s4.trans (same_new np)) (s4.free np) (s3.free nl) (by rw [upd_same] <;> rfl) (by rw [upd_ne hlp, upd_same] <;> rfl) .nil ⟨Nat.zero_le _, fun _ h => by cases h⟩ (by decide) (by decide)
  · rename_i e1
    have L2' : 2 ≤ L := by omega
    refine ⟨⟨by decide, by decide⟩, ?_⟩
    split
    · -- each cell a comparer
      refine lc_enum2 (a := c) (xs := (ns.take 40).map V.int) rfl (.inl (.inl hc3)) (fun v w => rfl) (fun D i acc H' => Gcs K L H3 i acc H') (fun D nD => .nil nD) (fun D i acc H' nD g => ?_) ?_ ?_
      · obtain ⟨_, _, _, s, _⟩ := g
        exact .inl (.inl (s _ _ hc3))
      · intro D i x acc H4 H5 nD hx hi hD g s5
        obtain ⟨z, hz⟩ : ∃ z : Int, x = .int z := by
          rw [List.getElem?_map] at hx
          cases e : (ns.take 40)[i]? with
          | none => rw [e] at hx; cases hx
          | some z => rw [e] at hx; exact ⟨z, (Option.some.inj hx).symm⟩
        subst hz
        refine .yes ?_
        walk_at "ev"
        refine ⟨z, (i : Int), 2, rfl, by omega, by decide, fun m m0 m1 => ?_⟩
        refine ⟨m, L, rfl, m0, L2', by omega, fun H6 p cc s6 np hp ok => ?_⟩
        have hD5 := s5 _ _ hD
        have hD6 := s6 _ _ hD5
        exact GoOn.mk hD6 (by have := g.len; omega) (g.snoc nD (s5.trans s6) hD6 (.inl (.inl hp)) ok)
      · intro D acc H4 nD hD g
        obtain ⟨ps, cs, rfl, s4, hp, ok, z⟩ := g
        refine ⟨small_line (by decide), fun p np => ?_⟩
        have hDp : D ≠ p := ne_of_none hD np
        have s5 := same_new (o := .tup [.int (L : Int), .ref D]) np
        exact q _ p D ps L cs ((s3.trans s4).trans s5) ((s3.trans s4).free np) (s3.free nD) upd_same (s5 _ _ hD) (Same.prs s5 hp) ⟨by omega, ok⟩ L1 L7
    · -- bricks, changed
      refine ⟨L, rfl, L7, fun H4 l ps cs s4 nl hl hp ok hz => ?_⟩
      walk_at "ev"
      have cl0 : c ≠ l := ne_of_none hc3 nl
      refine for_enum2 (a := c) (xs := (ns.take 40).map V.int) rfl (.inl (.inl (s4 _ _ hc3))) (Wweb K a c n L H ((ns.take 40).map V.int))
        ⟨none, none, none, none, l, ps, cs, rfl, s3.trans s4, s3.free nl, hl, hp, ⟨by omega, ok⟩, s4 _ _ hc3, cl0⟩ (fun i σ H' hi hW => ?_) (fun i x σ H5 H6 hx hi hW s6 => ?_) (fun σ H' hW => ?_)
      · obtain ⟨_, _, _, _, _, _, _, _, _, _, _, _, _, hc, _⟩ := hW
        exact .inl (.inl hc)
      · obtain ⟨y4, y5, y7, y8, l, ps, cs, rfl, s, nl, hl, hp, ok, hc, ncl⟩ := hW
        obtain ⟨z, rfl, hz⟩ := ints_get hx
        have hl6 := s6 _ _ hl
        have hp6 := Same.prs s6 hp
        have nc6 := s6 _ _ hc
        have hlen := hp.length
        have lenok := ok.1
        unfold r_lweb_f1
        walk_at "ev"
        refine ⟨z, (i : Int), 3, rfl, by omega, by decide, fun m m0 m1 => ?_⟩
        walk_at "ev"
        refine ⟨⟨by decide, by decide⟩, l, _, rfl, .inl (.inl (.inl hl6)), ?_⟩
        walk_at "ev"
        rw [rfs_len]
        refine ⟨by omega, ?_⟩
        have p1 : (0 : Int) < (ps.length : Int) + 1 := by omega
        obtain ⟨at', ea, la⟩ : ∃ at' : Nat, m / 12 % ((ps.length : Int) + 1) = (at' : Int) ∧ at' ≤ ps.length := by
          have a0 := Int.emod_nonneg (m / 12) (Int.ne_of_gt p1)
          have a1 := Int.emod_lt_of_pos (m / 12) p1
          exact ⟨(m / 12 % ((ps.length : Int) + 1)).toNat, by omega, by omega⟩
        rw [ea]
        have fin : ∀ (H' : Hp) (ps' : List Addr) (cs' : List Cmp), (∀ b o, H6 b = some o → b ≠ l → H' b = some o) → H' l = some (.lst (Rfs ps')) → Prs K H' ps' cs' → WebOk L cs' →
            Wweb K a c n L H ((ns.take 40).map V.int) (i + 1) [some (.ref a), some (.ref c), some (.int n), some (.int (L : Int)), some (.int (i : Int)), some (.int z), some (.ref l), some (.int m), some (.int (at' : Int))] H' := fun H' ps' cs' st hl' hp' ok' =>
          ⟨_, _, _, _, l, ps', cs', rfl, fun b o e => st b o (s6 _ _ (s _ _ e)) (ne_of_none e nl), nl, hl', hp', ok', st _ _ nc6 ncl, ncl⟩
        have okc : ∀ {j : Nat} {cc : Cmp}, cs[j]? = some cc → CmpOk L cc := fun {j cc} e => ok.2 _ (List.mem_of_getElem? e)
        have third : ∀ D : Ends, D.nx = Wweb K a c n L H ((ns.take 40).map V.int) (i + 1) → r_lweb_e1 K D
            [some (.ref a), some (.ref c), some (.int n), some (.int (L : Int)), some (.int (i : Int)), some (.int z), some (.ref l), some (.int m), some (.int (at' : Int))] H6 := fun D eD => by
          unfold r_lweb_e1
          walk_at "ev"
          rw [eD]
          split
          · refine ⟨l, _, rfl, .inl (.inl (.inl hl6)), ?_⟩
            walk_at "ev"
            rw [rfs_len]
            split
            · rename_i q2
              obtain ⟨p, hpa⟩ := get_of (xs := ps) (i := at') (by omega)
              obtain ⟨cc, hcc, hpt⟩ := hp6.getL hpa
              refine ⟨.ref l, rfl, .int (at' : Int), rfl, l, _, _, _, rfl, rfl, .inl (.inl hl6), atI_nat (rfs_at hpa), p, _, _, rfl, hpt, fun r nr => ?_⟩
              have nlr : l ≠ r := ne_of_none hl6 nr
              have s7 := same_new (o := .tup [V.int (cc.2 : Int), V.int (cc.1 : Int)]) nr
              refine ⟨.ref l, rfl, .int (at' : Int), rfl, l, _, _, at', rfl, rfl, s7 _ _ hl6, Evl.ixN_nat (by rw [rfs_len]; omega), ?_⟩
              refine fin _ (ps.set at' r) (cs.set at' (cc.2, cc.1)) (fun b o e nb => by rw [upd_ne nb]; exact s7 _ _ e) ?_ ?_ ?_
              · rw [upd_same]
                unfold Rfs
                rw [List.map_set]
              · exact prs_upd (s7 _ _ hl6) ((Same.prs s7 hp6).set (.inl (.inl (by rw [upd_same] <;> rfl))) at')
              · refine ⟨by rw [List.length_set]; exact ok.1, fun d hd => ?_⟩
                rcases mem_set hd with h | h
                · exact ok.2 d h
                · have := okc hcc
                  rw [h]
                  exact ⟨this.2.1, this.1, this.2.2.symm⟩
            · exact fin H6 ps cs (fun b o e _ => e) hl6 hp6 ok
          · exact fin H6 ps cs (fun b o e _ => e) hl6 hp6 ok
        have second : ∀ D : Ends, D.nx = Wweb K a c n L H ((ns.take 40).map V.int) (i + 1) → r_lweb_e2 K D
            [some (.ref a), some (.ref c), some (.int n), some (.int (L : Int)), some (.int (i : Int)), some (.int z), some (.ref l), some (.int m), some (.int (at' : Int))] H6 := fun D eD => by
          unfold r_lweb_e2
          walk_at "ev"
          split
          · refine ⟨l, _, rfl, .inl (.inl (.inl hl6)), ?_⟩
            walk_at "ev"
            rw [rfs_len]
            split
            · rename_i q2
              refine ⟨.ref l, rfl, .inl ⟨rfl, _, .inl (.inl hl6)⟩, ?_⟩
              walk_at "ev"
              refine ⟨⟨by decide, by decide⟩, m / 1000, L, rfl, by omega, L2', by omega, fun H7 p cc s7 np hpt okp => ?_⟩
              rw [eD]
              refine ⟨l, Rfs ps, (at' : Int), .ref p, rfl, rfl, s7 _ _ hl6, by rw [rfs_len]; exact small_lt (by omega), by omega, by omega, ?_⟩
              refine fin _ (ps.take at' ++ [p] ++ ps.drop at') (cs.take at' ++ [cc] ++ cs.drop at') (fun b o e nb => by rw [upd_ne nb]; exact s7 _ _ e) ?_ ?_ ?_
              · rw [upd_same, Int.toNat_natCast]
                unfold Rfs
                rw [List.map_append, List.map_append, List.map_take, List.map_drop] <;> rfl
              · have h7 := Same.prs s7 hp6
                exact prs_upd (s7 _ _ hl6) (((h7.take at').snoc (.inl (.inl hpt))).append (h7.drop at'))
              · refine ⟨?_, fun d hd => ?_⟩
                · rw [List.length_append, List.length_append, List.length_take, List.length_drop]
                  show min at' cs.length + 1 + (cs.length - at') ≤ 60
                  omega
                · rcases List.mem_append.mp hd with h | h
                  · rcases List.mem_append.mp h with h | h
                    · exact ok.2 d (List.mem_of_mem_take h)
                    · rw [List.mem_singleton.mp h]
                      exact okp
                  · exact ok.2 d (List.mem_of_mem_drop h)
            · exact third D eD
          · exact third D eD
        split
        · refine ⟨l, _, rfl, .inl (.inl (.inl hl6)), ?_⟩
          walk_at "ev"
          rw [rfs_len]
          split
          · rename_i q2
            obtain ⟨p, hpa⟩ := get_of (xs := ps) (i := at') (by omega)
            refine ⟨.ref l, rfl, .inl ⟨rfl, _, .inl (.inl hl6)⟩, .int (at' : Int), rfl, l, _, _, at', _, rfl, rfl, hl6, by omega, by omega, seqIndex_nat (by rw [rfs_len]; omega), rfs_at hpa, ?_⟩
            refine fin _ (ps.eraseIdx at') (cs.eraseIdx at') (fun b o e nb => by rw [upd_ne nb]; exact e) ?_ (prs_upd hl6 (hp6.erase at')) ⟨?_, fun d hd => ok.2 d (List.mem_of_mem_eraseIdx hd)⟩
            · rw [upd_same, rfs_erase]
            · have := List.length_eraseIdx_le cs at'
              have := ok.1
              omega
          · exact second _ rfl
        · exact second _ rfl
      · obtain ⟨y4, y5, y7, y8, l, ps, cs, rfl, s, nl, hl, hp, ok, hc, ncl⟩ := hW
        walk_at "ev"
        refine ⟨small_line (by decide), fun p np => ?_⟩
        have s5 := same_new (o := .tup [.int (L : Int), .ref l]) np
        exact q _ p l ps L cs (s.trans s5) (s.free np) nl upd_same (s5 _ _ hl) (Same.prs s5 hp) ok L1 L7
/-- what the two places of a comparer hold -/
theorem cmp_at {n : Nat} {c : Cmp} {r : Row} (h : CmpOk n c) (hr : r.length = n) : (vis r)[c.1]? = some (.int (at0 r c.1)) ∧ (vis r)[c.2]? = some (.int (at0 r c.2)) := ⟨ints_at (by rw [hr]; exact h.1), ints_at (by rw [hr]; exact h.2.1)⟩
theorem ixN_cmp {n k : Nat} {r : Row} (h : k < n) (hr : r.length = n) : ixN (vis r).length (k : Int) = some k := Evl.ixN_nat (by rw [ints_len, hr]; exact h)
/-- xs[a], xs[b] = v, u, the pair at hand -/
theorem swap_run {σ : L2.St} {H : Hp} {p T : Addr} {k i j : Nat} {a b : Nat} {r : Row} {u v : Int} {Q : L2.St → Hp → Prop} (hk : σ[k]? = some (some (.ref p))) (hi : σ[i]? = some (some (.int (a : Int)))) (hj : σ[j]? = some (some (.int (b : Int))))
    (hp : H p = some (.lst (vis r))) (hT : SqT K H T [.int u, .int v]) (ha : a < r.length) (hb : b < r.length) (q : Q σ (upd H p (.lst (vis ((r.set a u).set b v))))) :
    gTup K 2 (gCons (gSub (tVar k) (tVar i) rSetL) (gCons (gSub (tVar k) (tVar j) rSetL) gNil)) (.ref T) σ H Q := by
  refine ⟨T, _, rfl, hT, rfl, .int u, _, rfl, .ref p, hk, .int (a : Int), hi, p, _, (a : Int), a, rfl, rfl, hp, Evl.ixN_nat (by rw [ints_len]; exact ha), ?_⟩
  rw [ints_set]
  refine ⟨.int v, _, rfl, .ref p, hk, .int (b : Int), hj, p, _, (b : Int), b, rfl, rfl, upd_same, Evl.ixN_nat (by rw [ints_len, List.length_set]; exact hb), rfl, ?_⟩
  rw [ints_set, upd_upd]
  exact q

theorem set_run {σ : L2.St} {H : Hp} {p : Addr} {k i a : Nat} {v : V} {xs : List V} {Q : L2.St → Hp → Prop} (hk : σ[k]? = some (some (.ref p))) (hi : σ[i]? = some (some (.int (a : Int)))) (hp : H p = some (.lst xs)) (ha : a < xs.length)
    (q : Q σ (upd H p (.lst (xs.set a v)))) : gSub (tVar k) (tVar i) rSetL v σ H Q :=
  ⟨.ref p, hk, .int (a : Int), hi, p, _, (a : Int), a, rfl, rfl, hp, Evl.ixN_nat ha, q⟩
theorem stirs_eq {cs : List Cmp} {k : Nat} {c : Cmp} (h : cs[k]? = some c) : stirsAt cs k = gtB (cs.take k) c.1 c.2 := by
  funext r
  unfold stirsAt gtB
  rw [h]
theorem webAt_take {H : Hp} {a : Addr} {n k : Nat} {ps : List Addr} {cs : List Cmp} (ha : SqL K H a (Rfs (ps.take k))) (hp : Prs K H ps cs) (ok : WebOk n cs) (n1 : 1 ≤ n) (n10 : n ≤ 10) : WebAt K H a n (cs.take k) :=
  ⟨ps.take k, ha, hp.take k, ⟨by rw [List.length_take]; have := ok.1; omega, fun c hc => ok.2 c (List.mem_of_mem_take hc)⟩, n1, n10⟩
theorem rfs_take (ps : List Addr) (k : Nat) : cutV (Rfs ps) none (some (k : Int)) = Rfs (ps.take k) := by
  rw [cutV_to]
  unfold Rfs
  rw [List.map_take]
theorem any_first {n : Nat} {f : Row → Bool} : (bares n).any f = (firstB n f).isSome := by
  unfold firstB
  rw [Bool.eq_iff_iff, List.any_eq_true, List.find?_isSome]
theorem first_get {n : Nat} {f : Row → Bool} {r : Row} (h : firstB n f = some r) : r ∈ bares n ∧ f r = true := ⟨List.mem_of_find?_eq_some h, List.find?_some h⟩
theorem eq_rows {H : Hp} {a b : Addr} {r : Row} {Q : VK} (h1 : SqL K H a (vis r)) (h2 : SqL K H b (vis r)) (q : Q (.bl true) H) : rEqD K (.ref a) (.ref b) H Q :=
  ⟨dI r, dI r, dp_row h1, dp_row h2, enc_row.shaped (by decide) _, enc_row.shaped (by decide) _, by rw [enc_row.eq, decide_eq_true rfl]; exact q⟩
theorem webAt_same {H H' : Hp} {a : Addr} {n : Nat} {cs : List Cmp} (s : Same H H') (w : WebAt K H a n cs) : WebAt K H' a n cs := by
  obtain ⟨ps, ha, hp, r⟩ := w
  exact ⟨ps, s.seq ha, Same.prs s hp, r⟩
end Sw

set_option Elab.async false
set_option linter.all false
set_option maxRecDepth 100000
set_option maxHeartbeats 4000000
namespace Sw
open PySem PySem.Spec PyProof.Rows L2
local macro_rules | `(tactic| walk_at "ev") => `(tactic| simp only [tSeq, tCalW, quiet, tRzA, tRzO, tTryT, tTryK, tJoin, tJs, tBM, tBits, kStrI, kIntS, kLenS, mSplit, mPart, mIndex, tAsg, tRet, tRetN, tOp, tUn, tVar, tC, tNil, tCons, tCB, tDrop, tNext, tCont, tBreak, tIfS, tIf, tTest, tChain, tChain3, tB, tTup, tLst, tAnd, tOr, tNot, tAndV, tOrV, tNotV, tPart, tNoPart, tSl, tCal, tAug, ipI, rI0, rI, rU, rEq, rNe, kMin, kMax, gName, gCons, gNil, L2.start, wipe, List.map_cons, List.map_nil, List.length_cons, List.length_nil, List.cons_append, List.nil_append, List.append_nil, Nat.reduceAdd, Nat.reduceSub, List.replicate_succ, List.replicate_zero, List.getElem?_cons_zero, List.getElem?_cons_succ, List.set_cons_succ, List.set_cons_zero, Option.some.injEq, exists_eq_left', exists_eq_left, V.int.injEq, V.bl.injEq, V.str.injEq, V.ref.injEq, List.cons.injEq, exists_and_left, and_assoc, and_true, true_and, scal_ii, scal_ss, scal_nn, scal_bb, scal_ni, scal_in, decide_eq_true_eq, Bool.not_true, Bool.not_false, Bool.not_eq_true', decide_eq_false_iff_not, ite_not, reduceCtorEq, if_true, if_false, Bool.false_eq_true, ne_eq, not_true_eq_false, not_false_eq_true, Int.reduceLT, Int.reduceLE, Int.reduceNeg])
local macro_rules | `(tactic| walk_at "cm") => `(tactic| first | exact Or.inr ⟨by decide, by decide⟩ | exact Or.inl ⟨by decide, by decide⟩ | exact Or.inl ⟨by omega, by omega⟩ | exact Or.inr ⟨by omega, by omega⟩)
variable {K : PySem.W.Frag}
theorem low_of : ∀ hi : List Int, ∃ t : Int, ∀ y ∈ hi, t ≤ y
  | [] => ⟨0, fun y h => nomatch h⟩
  | z :: hi => by
    obtain ⟨t, h⟩ := low_of hi
    refine ⟨min t z, fun y hy => ?_⟩
    rcases List.mem_cons.mp hy with e | e
    · omega
    · have := h y e
      omega
theorem between : ∀ (lo hi : List Int), (∀ x ∈ lo, ∀ y ∈ hi, x < y) → ∃ t : Int, (∀ x ∈ lo, x < t) ∧ ∀ y ∈ hi, t ≤ y
  | [], hi, _ => by
    obtain ⟨t, h⟩ := low_of hi
    exact ⟨t, fun x h => (nomatch h), h⟩
  | z :: lo, hi, h => by
    obtain ⟨t, h1, h2⟩ := between lo hi fun x hx => h x (.tail _ hx)
    refine ⟨max t (z + 1), fun x hx => ?_, fun y hy => ?_⟩
    · rcases List.mem_cons.mp hx with e | e
      · omega
      · have := h1 x e
        omega
    · have := h z (.head _) y hy
      have := h2 y hy
      omega
def spread (ns : Row) : Row := (List.range ns.length).map fun k => at0 ns k + (k : Int)
theorem spread_lt {ns : Row} (h : ns.Pairwise (· ≤ ·)) : (spread ns).Pairwise (· < ·) := by
  rw [List.pairwise_iff_getElem] at h ⊢
  intro i j hi hj hij
  have li : (spread ns).length = ns.length := by
    unfold spread
    rw [List.length_map, List.length_range]
  have g : ∀ (k : Nat) (hk : k < (spread ns).length), (spread ns)[k] = at0 ns k + (k : Int) := fun k hk => by
    have z : (spread ns)[k]? = some (at0 ns k + (k : Int)) := by
      unfold spread
      rw [List.getElem?_map, List.getElem?_range (by omega)] <;> rfl
    rw [List.getElem?_eq_getElem hk] at z
    exact Option.some.inj z
  have a : ∀ (k : Nat) (hk : k < ns.length), ns[k] = at0 ns k := fun k hk => by
    unfold at0
    rw [List.getD_eq_getElem?_getD, List.getElem?_eq_getElem hk] <;> rfl
  rw [g, g]
  have := h i j (by omega) (by omega) hij
  rw [a, a] at this
  omega
theorem spread_cut {ns : Row} (h : ns.Pairwise (· ≤ ·)) (c : Nat) : ∃ t : Int, (∀ x ∈ (spread ns).take c, x < t) ∧ ∀ y ∈ (spread ns).drop c, t ≤ y := by
  refine between _ _ ?_
  have z := spread_lt h
  rw [← List.take_append_drop c (spread ns), List.pairwise_append] at z
  exact z.2.2
theorem vis_to (l : Row) (k : Nat) : cutV (vis l) none (some (k : Int)) = vis (l.take k) := by
  rw [cutV_to]
  unfold vis
  rw [List.map_take]
theorem vis_from (l : Row) (k : Nat) : cutV (vis l) (some (k : Int)) none = vis (l.drop k) := by
  rw [cutV_from]
  unfold vis
  rw [List.map_drop]
def Wlaid (a b S L M F : Addr) (n : Nat) (bs : Row) (t : Int) (H : Hp) (i : Nat) (σ : L2.St) (H' : Hp) : Prop :=
  ∃ y6 y7 y8 lo hi s, σ = [some (.ref a), some (.ref b), some (.ref S), some (.ref L), some (.ref M), some (.ref F), y6, y7, y8] ∧ Same H H' ∧ H' L = some (.lst (vis lo)) ∧ H' M = some (.lst (vis hi)) ∧ H' F = some (.lst (vis s)) ∧
    s.map (thr t) = bs.take i ∧ (∀ x ∈ lo, x < t) ∧ (∀ y ∈ hi, t ≤ y) ∧ lo.length = (bs.drop i).count 0 ∧ lo.length + hi.length + i = n
theorem count_le (bs : Row) : bs.count 0 ≤ bs.length := List.count_le_length
theorem rd_llaid (vs : List V) (H : Hp) (Q : VK) (E : XK) (h : sp_llaid K vs H Q E) : r_llaid K { nx := fun _ H' => Q .non H', rt := Q } (L2.start N_llaid vs) H := by
  obtain ⟨a, b, n, bs, rs, rfl, ha, hb, hbl, hrl, n10, bits, q⟩ := h
  unfold r_llaid N_llaid
  walk_at "ev"
  refine lc_enum2 (a := b) (xs := vis rs) rfl hb (fun v w => rfl) (fun D i acc H' => Same H H' ∧ ∃ ms : Row, acc = vis ms ∧ ms.length = i) (fun D nD => ⟨same_new nD, [], rfl, rfl⟩) (fun D i acc H' nD g => g.1.seq hb) ?_ ?_
  · intro D i x acc H2 H3 nD hx hi hD g s3
    obtain ⟨s2, ms, rfl, hm⟩ := g
    obtain ⟨z, rfl, _⟩ := ints_get hx
    rw [ints_len] at hi
    refine .yes ?_
    walk_at "ev"
    refine ⟨.inl ⟨by decide, by decide⟩, ?_⟩
    refine GoOn.mk (s3 _ _ hD) (by rw [ints_len]; omega) ⟨same_mut (s2.trans s3) nD, ms ++ [3 * z + (i : Int)], ?_, by rw [List.length_append, List.length_singleton, hm]⟩
    unfold vis
    rw [List.map_append] <;> rfl
  · intro D acc H2 nD hD g
    obtain ⟨s2, ms, rfl, hm⟩ := g
    rw [ints_len] at hm
    refine ⟨D, ms, rfl, .inl (.inl hD), fun ns S0 hperm hsort nS0 => ?_⟩
    have nl : ns.length = n := by rw [hperm.length_eq]; omega
    have s3 := s2.trans (same_new (o := .lst (ns.map V.int)) nS0)
    have hS0 : (upd H2 S0 (.lst (ns.map V.int))) S0 = some (.lst (vis ns)) := upd_same
    generalize upd H2 S0 (.lst (ns.map V.int)) = H3 at s3 hS0
    refine lc_enum2 (a := S0) (xs := vis ns) rfl (.inl (.inl hS0)) (fun v w => rfl) (fun D i acc H' => Same H3 H' ∧ acc = vis ((List.range i).map fun k => at0 ns k + (k : Int))) (fun D nD => ⟨same_new nD, rfl⟩) (fun D i acc H' nD g => g.1.seq (.inl (.inl hS0))) ?_ ?_
    · intro D i x acc H4 H5 nD hx hi hD g s5
      obtain ⟨s4, rfl⟩ := g
      rw [ints_len] at hi
      rw [ints_at hi] at hx
      cases hx
      refine .yes ?_
      walk_at "ev"
      refine GoOn.mk (s5 _ _ hD) (by rw [ints_len, List.length_map, List.length_range]; omega) ⟨same_mut (s4.trans s5) nD, ?_⟩
      unfold vis
      rw [List.range_succ, List.map_append, List.map_append] <;> rfl
    · intro S acc H4 nS hS g
      obtain ⟨s4, rfl⟩ := g
      rw [ints_len] at hS
      have hS' : H4 S = some (.lst (vis (spread ns))) := hS
      have s34 := s3.trans s4
      have sl : (spread ns).length = n := by
        unfold spread
        rw [List.length_map, List.length_range, nl]
      obtain ⟨t, t1, t2⟩ := spread_cut hsort (bs.count 0)
      have cl := count_le bs
      refine ⟨.inl ⟨rfl, _, s34.seq ha⟩, a, bs, 0, rfl, rfl, s34.seq ha, ?_⟩
      refine ⟨_, rfl, ?_⟩
      refine ⟨S, _, rfl, .inl (.inl hS'), fun L nL => ?_⟩
      rw [vis_to]
      have sL := same_new (o := .lst (vis ((spread ns).take (bs.count 0)))) nL
      have hSL := sL _ _ hS'
      have hL : (upd H4 L (.lst (vis ((spread ns).take (bs.count 0))))) L = some (.lst (vis ((spread ns).take (bs.count 0)))) := upd_same
      have nLH := s34.free nL
      generalize upd H4 L (.lst (vis ((spread ns).take (bs.count 0)))) = H5 at sL hSL hL
      have s35 := s34.trans sL
      refine ⟨.inl ⟨rfl, _, s35.seq ha⟩, a, bs, 0, rfl, rfl, s35.seq ha, ?_⟩
      refine ⟨_, rfl, ?_⟩
      refine ⟨S, _, rfl, .inl (.inl hSL), fun M nM => ?_⟩
      rw [vis_from]
      have sM := same_new (o := .lst (vis ((spread ns).drop (bs.count 0)))) nM
      have hLM := sM _ _ hL
      have hM : (upd H5 M (.lst (vis ((spread ns).drop (bs.count 0))))) M = some (.lst (vis ((spread ns).drop (bs.count 0)))) := upd_same
      have nMH := s35.free nM
      have LM : L ≠ M := ne_of_none hL nM
      generalize upd H5 M (.lst (vis ((spread ns).drop (bs.count 0)))) = H6 at sM hLM hM
      have s36 := s35.trans sM
      refine ⟨small_line (by decide), fun F nF => ?_⟩
      have sF := same_new (o := .lst []) nF
      have hLF := sF _ _ hLM
      have hMF := sF _ _ hM
      have hF : (upd H6 F (.lst [])) F = some (.lst []) := upd_same
      have nFH := s36.free nF
      have LF : L ≠ F := ne_of_none hLM nF
      have MF : M ≠ F := ne_of_none hM nF
      generalize upd H6 F (.lst []) = H7 at sF hLF hMF hF
      have s37 := s36.trans sF
      refine for_each (a := a) (xs := vis bs) rfl (s37.seq ha) (Wlaid a b S L M F n bs t H) ⟨_, _, _, _, _, [], rfl, s37, hLF, hMF, hF, rfl, t1, t2, ?_, ?_⟩ (fun i σ H' _ hW => ?_) (fun i x σ H' hx hi hW => ?_) (fun σ H' hW => ?_)
      · rw [List.length_take, sl, List.drop_zero]
        omega
      · rw [List.length_take, List.length_drop, sl]
        omega
      · obtain ⟨_, _, _, _, _, _, _, s, _⟩ := hW
        exact s.seq ha
      · obtain ⟨y6, y7, y8, lo, hi', s, rfl, st, hL', hM', hF', ms, b1, b2, c1, c2⟩ := hW
        rw [ints_len] at hi
        obtain ⟨z, rfl, hz⟩ := ints_get hx
        have bz := bits z (List.mem_of_getElem? hz)
        have hd : bs.drop i = z :: bs.drop (i + 1) := by
          rw [← List.getElem_cons_drop hi]
          congr 1
          rw [List.getElem?_eq_getElem hi] at hz
          exact Option.some.inj hz
        rw [hd, List.count_cons] at c1
        have sl' : s.length = i := by
          have := congrArg List.length ms
          rw [List.length_map, List.length_take] at this
          omega
        have tk : bs.take (i + 1) = bs.take i ++ [z] := by rw [List.take_add_one, hz] <;> rfl
        unfold r_llaid_f1
        walk_at "ev"
        refine ⟨.inl ⟨rfl, _, .inl (.inl hF')⟩, ?_⟩
        have cle := count_le (bs.drop (i + 1))
        rw [List.length_drop] at cle
        split
        · rename_i z0
          subst z0
          rw [if_pos (by decide)] at c1
          unfold tBM0
          walk_at "ev"
          obtain ⟨w, hw⟩ := get_of (xs := lo) (i := lo.length - 1) (by omega)
          have hwv : (vis lo)[(vis lo).length - 1]? = some (.int w) := by
            rw [ints_len]
            unfold vis
            rw [List.getElem?_map, hw] <;> rfl
          have wlt := b1 w (List.mem_of_getElem? hw)
          refine ⟨.inl ⟨rfl, _, .inl (.inl hL')⟩, L, _, _, rfl, rfl, hL', hwv, ?_⟩
          have hF2 : (upd H' L (.lst (vis lo).dropLast)) F = some (.lst (vis s)) := by rw [upd_ne LF.symm]; exact hF'
          have hM2 : (upd H' L (.lst (vis lo).dropLast)) M = some (.lst (vis hi')) := by rw [upd_ne LM.symm]; exact hM'
          have hL2 : (upd H' L (.lst (vis lo).dropLast)) L = some (.lst (vis lo.dropLast)) := by
            rw [upd_same]
            unfold vis
            rw [List.map_dropLast]
          have st2 := same_mut (o := .lst (vis lo).dropLast) st nLH
          generalize upd H' L (.lst (vis lo).dropLast) = H8 at hF2 hM2 hL2 st2
          refine ⟨F, _, _, rfl, rfl, hF2, by rw [ints_len]; exact small_lt (by omega), ?_⟩
          refine ⟨_, _, _, lo.dropLast, hi', s ++ [w], rfl, same_mut st2 nFH, by rw [upd_ne LF]; exact hL2, by rw [upd_ne MF]; exact hM2, ?_, ?_, fun x hx => b1 x ((List.dropLast_sublist lo).subset hx), b2, ?_, ?_⟩
          · rw [upd_same]
            unfold vis
            rw [List.map_append] <;> rfl
          · rw [tk, List.map_append, ms]
            show _ ++ [thr t w] = _
            have : thr t w = 0 := by
              unfold thr
              rw [if_neg (by omega)]
            rw [this]
          · rw [List.length_dropLast]
            omega
          · rw [List.length_dropLast]
            omega
        · rename_i z0
          have z1 : z = 1 := by
            rcases bz with e | e
            · exact absurd e z0
            · exact e
          subst z1
          rw [if_neg (by decide)] at c1
          cases hi' with
          | nil =>
            exfalso
            have : ([] : Row).length = 0 := rfl
            omega
          | cons w hs =>
            have wge := b2 w (.head _)
            refine ⟨.inl ⟨rfl, _, .inl (.inl hM')⟩, M, _, 0, 0, .int w, rfl, rfl, hM', by decide, by decide, seqIndex_nat (k := 0) (by show 0 < (vis (w :: hs)).length; rw [ints_len]; exact Nat.zero_lt_succ _), rfl, ?_⟩
            have e0 : (vis (w :: hs)).eraseIdx 0 = vis hs := rfl
            rw [e0]
            have hF2 : (upd H' M (.lst (vis hs))) F = some (.lst (vis s)) := by rw [upd_ne MF.symm]; exact hF'
            have hL2 : (upd H' M (.lst (vis hs))) L = some (.lst (vis lo)) := by rw [upd_ne LM]; exact hL'
            have hM2 : (upd H' M (.lst (vis hs))) M = some (.lst (vis hs)) := upd_same
            have st2 := same_mut (o := .lst (vis hs)) st nMH
            generalize upd H' M (.lst (vis hs)) = H8 at hF2 hM2 hL2 st2
            refine ⟨F, _, _, rfl, rfl, hF2, by rw [ints_len]; exact small_lt (by omega), ?_⟩
            refine ⟨_, _, _, lo, hs, s ++ [w], rfl, same_mut st2 nFH, by rw [upd_ne LF]; exact hL2, by rw [upd_ne MF]; exact hM2, ?_, ?_, b1, fun y hy => b2 y (.tail _ hy), ?_, ?_⟩
            · rw [upd_same]
              unfold vis
              rw [List.map_append] <;> rfl
            · rw [tk, List.map_append, ms]
              show _ ++ [thr t w] = _
              have : thr t w = 1 := by
                unfold thr
                rw [if_pos wge]
              rw [this]
            · omega
            · rw [List.length_cons] at c2
              omega
      · obtain ⟨y6, y7, y8, lo, hi', s, rfl, st, hL', hM', hF', ms, b1, b2, c1, c2⟩ := hW
        walk_at "ev"
        rw [ints_len, List.take_length] at ms
        refine q H' F s t st nFH hF' ?_ ms
        rw [ints_len] at c2
        have := congrArg List.length ms
        rw [List.length_map] at this
        omega
end Sw

set_option Elab.async false
set_option linter.all false
set_option maxRecDepth 100000
set_option maxHeartbeats 4000000
namespace Sw
open PySem PySem.Spec PyProof.Rows L2
local macro_rules | `(tactic| walk_at "ev") => `(tactic| simp only [tSeq, tCalW, quiet, tRzA, tRzO, tTryT, tTryK, tJoin, tJs, tBM, tBits, kStrI, kIntS, kLenS, mSplit, mPart, mIndex, tAsg, tRet, tRetN, tOp, tUn, tVar, tC, tNil, tCons, tCB, tDrop, tNext, tCont, tBreak, tIfS, tIf, tTest, tChain, tChain3, tB, tTup, tLst, tAnd, tOr, tNot, tAndV, tOrV, tNotV, tPart, tNoPart, tSl, tCal, tAug, ipI, rI0, rI, rU, rEq, rNe, kMin, kMax, gName, gCons, gNil, L2.start, wipe, List.map_cons, List.map_nil, List.length_cons, List.length_nil, List.cons_append, List.nil_append, List.append_nil, Nat.reduceAdd, Nat.reduceSub, List.replicate_succ, List.replicate_zero, List.getElem?_cons_zero, List.getElem?_cons_succ, List.set_cons_succ, List.set_cons_zero, Option.some.injEq, exists_eq_left', exists_eq_left, V.int.injEq, V.bl.injEq, V.str.injEq, V.ref.injEq, List.cons.injEq, exists_and_left, and_assoc, and_true, true_and, scal_ii, scal_ss, scal_nn, scal_bb, scal_ni, scal_in, decide_eq_true_eq, Bool.not_true, Bool.not_false, Bool.not_eq_true', decide_eq_false_iff_not, ite_not, reduceCtorEq, if_true, if_false, Bool.false_eq_true, ne_eq, not_true_eq_false, not_false_eq_true, Int.reduceLT, Int.reduceLE, Int.reduceNeg])
local macro_rules | `(tactic| walk_at "cm") => `(tactic| first | exact Or.inr ⟨by decide, by decide⟩ | exact Or.inl ⟨by decide, by decide⟩ | exact Or.inl ⟨by omega, by omega⟩ | exact Or.inr ⟨by omega, by omega⟩)
variable {K : PySem.W.Frag}

theorem rd_iswhole (vs : List V) (H : Hp) (Q : VK) (E : XK) (h : sp_iswhole K vs H Q E) : r_iswhole K { nx := fun _ H' => Q .non H', rt := Q } (L2.start N_iswhole vs) H := by
  obtain ⟨v, T, rfl, ht, q⟩ := h
  unfold r_iswhole N_iswhole
  walk_at "ev"
  exact ⟨v, T, rfl, ht, _, _, rfl, rfl, q⟩
theorem rd_isline (vs : List V) (H : Hp) (Q : VK) (E : XK) (h : sp_isline K vs H Q E) : r_isline K { nx := fun _ H' => Q .non H', rt := Q } (L2.start N_isline vs) H := by
  obtain ⟨n, i, rfl, q⟩ := h
  unfold r_isline N_isline
  walk_at "ev"
  refine ⟨.int i, "int", rfl, .int i, ?_⟩
  rw [decide_eq_true rfl]
  refine ⟨true, rfl, ?_⟩
  walk_at "ev"
  split
  · rename_i h
    have e : decide (i < n) = decide (0 ≤ i ∧ i < n) := decide_eq_decide.mpr ⟨fun z => ⟨h, z⟩, fun z => z.2⟩
    rw [e]
    exact q
  · rename_i h
    have e : decide (0 ≤ i ∧ i < n) = false := decide_eq_false fun z => h z.1
    rw [← e]
    exact q
theorem rd_iscomparer (vs : List V) (H : Hp) (Q : VK) (E : XK) (h : sp_iscomparer K vs H Q E) : r_iscomparer K { nx := fun _ H' => Q .non H', rt := Q } (L2.start N_iscomparer vs) H := by
  obtain ⟨n, p, c, rfl, hp, ⟨h1, h2, h3⟩, q⟩ := h
  unfold r_iscomparer N_iscomparer
  walk_at "ev"
  refine ⟨.ref p, "tuple", rfl, .tup hp, _, _, rfl, rfl, ?_⟩
  walk_at "ev"
  refine ⟨p, _, rfl, .inr hp, ?_⟩
  unfold V2
  walk_at "ev"
  refine g2_run hp ?_
  walk_at "ev"
  refine ⟨(n : Int), (c.1 : Int), rfl, true, ?_, ?_⟩
  · rw [decide_eq_true (show (0 : Int) ≤ (c.1 : Int) ∧ (c.1 : Int) < (n : Int) by omega)]
  walk_at "ev"
  refine ⟨(n : Int), (c.2 : Int), rfl, true, ?_, ?_⟩
  · rw [decide_eq_true (show (0 : Int) ≤ (c.2 : Int) ∧ (c.2 : Int) < (n : Int) by omega)]
  rw [if_pos rfl, decide_eq_false (show ¬ (c.1 : Int) = (c.2 : Int) by omega)]
  exact q
theorem rd_needlines (vs : List V) (H : Hp) (Q : VK) (E : XK) (h : sp_needlines K vs H Q E) : r_needlines K { nx := fun _ H' => Q .non H', rt := Q } (L2.start N_needlines vs) H := by
  obtain ⟨n, rfl, h1, h2, q⟩ := h
  unfold r_needlines N_needlines
  walk_at "ev"
  refine ⟨.int (n : Int), "int", rfl, .int _, true, ?_, ?_⟩
  · rw [decide_eq_true rfl]
  walk_at "ev"
  rw [if_pos (by omega), if_pos (by omega)]
  exact q
theorem webAt_get {H : Hp} {a : Addr} {n : Nat} {cs : List Cmp} (h : WebAt K H a n cs) : n ≤ 10 := h.choose_spec.2.2.2.2
theorem rd_needweb (vs : List V) (H : Hp) (Q : VK) (E : XK) (h : sp_needweb K vs H Q E) : r_needweb K { nx := fun _ H' => Q .non H', rt := Q } (L2.start N_needweb vs) H := by
  obtain ⟨n, a, cs, rfl, ⟨ps, ha, hp, ok, n1, n10⟩, q⟩ := h
  have hl := hp.length
  have h60 := ok.1
  unfold r_needweb N_needweb
  walk_at "ev"
  refine ⟨n, rfl, n1, n10, ?_⟩
  walk_at "ev"
  refine ⟨.ref a, "list", rfl, .lst ha, _, _, rfl, rfl, ?_⟩
  walk_at "ev"
  refine ⟨a, _, rfl, .inl ha, ?_⟩
  rw [rfs_len]
  walk_at "ev"
  rw [if_neg (by omega)]
  refine for_enum2 (a := a) (xs := Rfs ps) rfl ha (fun i σ H' => ∃ y z, σ = [some (.int (n : Int)), some (.ref a), y, z] ∧ Same H H') ⟨none, none, rfl, .refl H⟩ (fun i σ H' _ hW => ?_) (fun i x σ H1 H2 hx hi hW s2 => ?_) (fun σ H' hW => ?_)
  · obtain ⟨_, _, _, s⟩ := hW
    exact s.seq ha
  · obtain ⟨y, z, rfl, s⟩ := hW
    obtain ⟨p, rfl, gp⟩ := rfs_get hx
    obtain ⟨c, gc, hc⟩ := hp.getL gp
    unfold r_needweb_f1
    walk_at "ev"
    refine ⟨n, p, c, rfl, Same.sqt (s.trans s2) hc, ok.2 c (List.mem_of_getElem? gc), true, rfl, ?_⟩
    exact s.trans s2
  · obtain ⟨y, z, rfl, s⟩ := hW
    exact q H' s
def Wallc (n : Nat) (H : Hp) (i : Nat) (σ : L2.St) (H' : Hp) : Prop :=
  ∃ p y3 y4, σ = [some (.int (n : Int)), some (.ref p), some (.int ((2 ^ i : Nat) : Int)), y3, y4] ∧ Same H H' ∧ H p = none ∧ H' p = some (.lst (vis (mkCs i)))
theorem shl_mk {i k : Nat} (hi : i ≤ 10) : CShl (mkC i k) ((2 ^ i : Nat) : Int) := by
  have h := mkC_lt i k
  have hp : 2 ^ i ≤ 1024 := Nat.pow_le_pow_right (by decide) hi
  refine shl_ok (n := 2 ^ i) ?_ (by omega)
  have e := PySem.W.kbt_cast (2 ^ i)
  omega
theorem rd_allcolumns (vs : List V) (H : Hp) (Q : VK) (E : XK) (h : sp_allcolumns K vs H Q E) : r_allcolumns K { nx := fun _ H' => Q .non H', rt := Q } (L2.start N_allcolumns vs) H := by
  obtain ⟨n, rfl, n10, q⟩ := h
  unfold r_allcolumns N_allcolumns
  walk_at "ev"
  refine ⟨small_line (by decide), fun p np => ?_⟩
  have np0 := np
  refine for_rng (n := n) (fun Q q => ?_) (by omega) (Wallc n H) ⟨p, none, none, rfl, same_new np, np, by rw [upd_same] <;> rfl⟩ (fun i σ H1 hi hW => ?_) (fun σ H1 hW => ?_)
  · walk_at "ev"
    exact q
  · obtain ⟨p, y3, y4, rfl, s, np, hp⟩ := hW
    have hpw : 2 ^ i ≤ 1024 := Nat.pow_le_pow_right (by decide) (show i ≤ 10 by omega)
    have hlen : (mkCs i).length = i := by unfold mkCs; rw [List.length_map, List.length_range]
    unfold r_allcolumns_f1
    walk_at "ev"
    refine lc_each (a := p) (xs := vis (mkCs i)) rfl (.inl (.inl hp)) (fun v => rfl) (fun D k acc H' => Same H1 H' ∧ acc = vis ((List.range k).map (mkC (i + 1)))) (fun D nD => ⟨same_new nD, rfl⟩) (fun D k acc H' nD g => g.1.seq (.inl (.inl hp))) ?_ ?_
    · intro D k x acc H2 nD hx hk hD g
      obtain ⟨s2, rfl⟩ := g
      rw [ints_len, hlen] at hk
      obtain ⟨z, rfl, hz⟩ := ints_get hx
      have ez : z = mkC i k := by
        unfold mkCs at hz
        rw [List.getElem?_map, List.getElem?_range hk] at hz
        exact (Option.some.inj hz).symm
      subst ez
      refine .yes ?_
      walk_at "ev"
      refine ⟨shl_mk (by omega), ?_⟩
      rw [Int.toNat_natCast, mkC_step hk]
      refine GoOn.mk hD (by rw [ints_len, List.length_map, List.length_range]; omega) ⟨same_mut s2 nD, ?_⟩
      unfold vis
      rw [List.range_succ, List.map_append, List.map_append] <;> rfl
    · intro D acc H2 nD hD g
      obtain ⟨s2, rfl⟩ := g
      rw [ints_len, hlen] at hD
      refine ⟨.inl ⟨rfl, _, .inl (.inl hD)⟩, shl_ok (i := 1) (j := 2 ^ i) (n := 1) (by decide) (by omega), ?_⟩
      rw [Int.toNat_natCast]
      refine ⟨?_, ?_⟩
      · refine shl_ok (j := 2 ^ i) (n := 2 ^ i) ?_ (by omega)
        have e := PySem.W.kbt_cast (2 ^ i)
        have := Nat.two_pow_pos (2 ^ i)
        rw [Int.one_mul]
        omega
      rw [mkC_new]
      refine ⟨D, _, _, rfl, rfl, hD, by rw [ints_len, List.length_map, List.length_range]; exact small_lt (by omega), ?_⟩
      refine ⟨by walk_at "cm", ?_⟩
      refine ⟨D, some (.int (i : Int)), y4, ?_, same_mut (s.trans s2) (s.free nD), s.free nD, ?_⟩
      · have e2 : (2 : Int) * ((2 ^ i : Nat) : Int) = ((2 ^ (i + 1) : Nat) : Int) := by
          rw [Nat.pow_succ]
          omega
        rw [e2]
      · rw [upd_same]
        unfold mkCs vis
        rw [List.range_succ, List.map_append, List.map_append] <;> rfl
  · obtain ⟨p, y3, y4, rfl, s, np, hp⟩ := hW
    walk_at "ev"
    rw [mkCs_cols] at hp
    exact q H1 p s np hp
theorem col_get {n k : Nat} {cs : List Cmp} (h : k < n) : (vis (cols n cs))[k]? = some (.int (colV n cs k)) := by
  rw [ints_at (by rw [cols_len]; exact h), cols_at h]
theorem rd_greater (vs : List V) (H : Hp) (Q : VK) (E : XK) (h : sp_greater K vs H Q E) : r_greater K { nx := fun _ H' => Q .non H', rt := Q } (L2.start N_greater vs) H := by
  obtain ⟨x, n, a, b, cs, rfl, hx, ha, hb, q⟩ := h
  unfold r_greater N_greater
  walk_at "ev"
  refine ⟨x, _, _, _, rfl, rfl, hx, atI_nat (col_get ha), ?_⟩
  refine ⟨x, _, _, _, rfl, rfl, hx, atI_nat (col_get hb), ?_⟩
  walk_at "ev"
  rw [col_gt]
  exact q
theorem rd_behind (vs : List V) (H : Hp) (Q : VK) (E : XK) (h : sp_behind K vs H Q E) : r_behind K { nx := fun _ H' => Q .non H', rt := Q } (L2.start N_behind vs) H := by
  obtain ⟨x, y, n, cs, c, rfl, hx, hy, ok, q⟩ := h
  unfold r_behind N_behind
  walk_at "ev"
  refine g2_run hy ?_
  walk_at "ev"
  refine ⟨x, _, rfl, .inl hx, fun p np => ?_⟩
  have s0 := same_new (o := .lst (vis (cols n cs))) np
  refine ⟨x, _, _, _, rfl, rfl, s0.seq hx, atI_nat (col_get ok.1), x, _, _, _, rfl, rfl, s0.seq hx, atI_nat (col_get ok.2.1), ?_⟩
  walk_at "ev"
  refine set_run (a := c.1) rfl rfl upd_same (by rw [ints_len, cols_len]; exact ok.1) ?_
  walk_at "ev"
  have s1 := same_mut (o := .lst ((vis (cols n cs)).set c.1 (V.int (Builtin.bitAnd (colV n cs c.1) (colV n cs c.2))))) s0 np
  refine ⟨x, _, _, _, rfl, rfl, s1.seq hx, atI_nat (col_get ok.1), x, _, _, _, rfl, rfl, s1.seq hx, atI_nat (col_get ok.2.1), ?_⟩
  walk_at "ev"
  refine set_run (a := c.2) rfl rfl upd_same (by rw [List.length_set, ints_len, cols_len]; exact ok.2.1) ?_
  walk_at "ev"
  refine q _ p (same_mut s1 np) np ?_
  rw [upd_same, ints_set, ints_set, col_behind ok]
def Wcolo (n : Nat) (a : Addr) (cs : List Cmp) (H : Hp) (i : Nat) (σ : L2.St) (H' : Hp) : Prop :=
  ∃ p y3, σ = [some (.int (n : Int)), some (.ref a), some (.ref p), y3] ∧ Same H H' ∧ H p = none ∧ H' p = some (.lst (vis (cols n (cs.take i))))
theorem rd_columnsout (vs : List V) (H : Hp) (Q : VK) (E : XK) (h : sp_columnsout K vs H Q E) : r_columnsout K { nx := fun _ H' => Q .non H', rt := Q } (L2.start N_columnsout vs) H := by
  obtain ⟨n, a, cs, rfl, hw, q⟩ := h
  obtain ⟨ps, ha, hp, ok, n1, n10⟩ := hw
  have hpl := hp.length
  unfold r_columnsout N_columnsout
  walk_at "ev"
  refine ⟨n, rfl, n10, fun H1 p s1 np hp1 => ?_⟩
  refine for_each (a := a) (xs := Rfs ps) rfl (s1.seq ha) (Wcolo n a cs H) ⟨p, none, rfl, s1, np, hp1⟩ (fun i σ H' _ hW => ?_) (fun i x σ H' hx hi hW => ?_) (fun σ H' hW => ?_)
  · obtain ⟨_, _, _, s, _⟩ := hW
    exact s.seq ha
  · obtain ⟨p, y3, rfl, s, np, hp'⟩ := hW
    obtain ⟨g, rfl, hg⟩ := rfs_get hx
    obtain ⟨c, hc, ht⟩ := hp.getL hg
    unfold r_columnsout_f1
    walk_at "ev"
    refine ⟨p, g, n, cs.take i, c, rfl, .inl (.inl hp'), Same.sqt s ht, ok.2 c (List.mem_of_getElem? hc), fun H2 p2 s2 np2 hp2 => ?_⟩
    refine ⟨p2, _, rfl, s.trans s2, s.free np2, ?_⟩
    rw [hp2, List.take_add_one, hc] <;> rfl
  · obtain ⟨p, y3, rfl, s, np, hp'⟩ := hW
    walk_at "ev"
    rw [rfs_len, hpl, List.take_length] at hp'
    exact q H' p s np hp'
theorem rd_rowof (vs : List V) (H : Hp) (Q : VK) (E : XK) (h : sp_rowof K vs H Q E) : r_rowof K { nx := fun _ H' => Q .non H', rt := Q } (L2.start N_rowof vs) H := by
  obtain ⟨n, t, rfl, n10, q⟩ := h
  unfold r_rowof N_rowof
  walk_at "ev"
  refine lc_rng (n := n) (fun Q q => ⟨_, rfl, q⟩) (by omega) (fun v => rfl) (fun D k acc H' => Same H H' ∧ acc = vis ((List.range k).map fun k => ((t / 2 ^ k % 2 : Nat) : Int))) (fun D nD => ⟨same_new nD, rfl⟩) ?_ ?_
  · intro D k acc H2 nD hk hD g2
    obtain ⟨s2, rfl⟩ := g2
    refine .yes ?_
    walk_at "ev"
    refine ⟨by omega, ?_⟩
    have e : Builtin.bitAnd ((t : Int) / 2 ^ (k : Int).toNat) 1 = ((t / 2 ^ k % 2 : Nat) : Int) := by
      rw [bitAnd_m1, Int.toNat_natCast]
      norm_cast
    rw [e]
    refine GoOn.mk hD (by rw [ints_len, List.length_map, List.length_range]; omega) ⟨same_mut s2 nD, ?_⟩
    unfold vis
    rw [List.range_succ, List.map_append, List.map_append] <;> rfl
  · intro D acc H2 nD hD g2
    obtain ⟨s2, rfl⟩ := g2
    exact q H2 D s2 nD hD
theorem rd_firstrow (vs : List V) (H : Hp) (Q : VK) (E : XK) (h : sp_firstrow K vs H Q E) : r_firstrow K { nx := fun _ H' => Q .non H', rt := Q } (L2.start N_firstrow vs) H := by
  obtain ⟨n, f, rfl, n10, q1, q2⟩ := h
  unfold r_firstrow N_firstrow
  walk_at "ev"
  by_cases z : maskN f (bares n) = 0
  · rw [if_pos (by rw [z] <;> rfl)]
    refine q1 ?_ H (.refl H)
    unfold firstB
    rw [List.find?_eq_none]
    intro x hx
    rw [mask_zero.mp z x hx]
    decide
  · rw [if_neg (by omega)]
    obtain ⟨t, x, h1, h2, h3⟩ := low_bit z
    rw [h3, bits_pow]
    refine ⟨n, t, by rw [show (((t + 1 : Nat) : Int) - 1) = (t : Int) by omega], n10, fun H2 D s2 nD hD => ?_⟩
    refine q2 x h2 H2 D s2 nD ?_
    have ex : x = bareR n t := by
      unfold bares at h1
      rw [List.getElem?_map] at h1
      cases e : (List.range (2 ^ n))[t]? with
      | none => rw [e] at h1; cases h1
      | some u =>
        rw [e] at h1
        obtain ⟨hl, e2⟩ := List.getElem?_eq_some_iff.mp e
        rw [List.getElem_range] at e2
        rw [← e2] at h1
        exact (Option.some.inj h1).symm
    rw [hD, ex]
end Sw

set_option Elab.async false
set_option linter.all false
set_option maxRecDepth 100000
set_option maxHeartbeats 4000000
namespace Sw
open PySem PySem.Spec PyProof.Rows L2
local macro_rules | `(tactic| walk_at "ev") => `(tactic| simp only [tSeq, tCalW, quiet, tRzA, tRzO, tTryT, tTryK, tJoin, tJs, tBM, tBits, kStrI, kIntS, kLenS, mSplit, mPart, mIndex, tAsg, tRet, tRetN, tOp, tUn, tVar, tC, tNil, tCons, tCB, tDrop, tNext, tCont, tBreak, tIfS, tIf, tTest, tChain, tChain3, tB, tTup, tLst, tAnd, tOr, tNot, tAndV, tOrV, tNotV, tPart, tNoPart, tSl, tCal, tAug, ipI, rI0, rI, rU, rEq, rNe, kMin, kMax, gName, gCons, gNil, L2.start, wipe, List.map_cons, List.map_nil, List.length_cons, List.length_nil, List.cons_append, List.nil_append, List.append_nil, Nat.reduceAdd, Nat.reduceSub, List.replicate_succ, List.replicate_zero, List.getElem?_cons_zero, List.getElem?_cons_succ, List.set_cons_succ, List.set_cons_zero, Option.some.injEq, exists_eq_left', exists_eq_left, V.int.injEq, V.bl.injEq, V.str.injEq, V.ref.injEq, List.cons.injEq, exists_and_left, and_assoc, and_true, true_and, scal_ii, scal_ss, scal_nn, scal_bb, scal_ni, scal_in, decide_eq_true_eq, Bool.not_true, Bool.not_false, Bool.not_eq_true', decide_eq_false_iff_not, ite_not, reduceCtorEq, if_true, if_false, Bool.false_eq_true, ne_eq, not_true_eq_false, not_false_eq_true, Int.reduceLT, Int.reduceLE, Int.reduceNeg])
local macro_rules | `(tactic| walk_at "cm") => `(tactic| first | exact Or.inr ⟨by decide, by decide⟩ | exact Or.inl ⟨by decide, by decide⟩ | exact Or.inl ⟨by omega, by omega⟩ | exact Or.inr ⟨by omega, by omega⟩)
variable {K : PySem.W.Frag}
theorem rd_needplace (vs : List V) (H : Hp) (Q : VK) (E : XK) (h : sp_needplace K vs H Q E) : r_needplace K { nx := fun _ H' => Q .non H', rt := Q } (L2.start N_needplace vs) H := by
  obtain ⟨a, xs, k, rfl, ha, hk, q⟩ := h
  unfold r_needplace N_needplace
  walk_at "ev"
  refine ⟨.int (k : Int), "int", rfl, .int _, true, ?_, ?_⟩
  · rw [decide_eq_true rfl]
  walk_at "ev"
  rw [if_pos (by omega)]
  refine ⟨a, _, rfl, .inl ha, _, rfl, ?_⟩
  rw [if_pos (by omega)]
  exact q
theorem rd_stirring (vs : List V) (H : Hp) (Q : VK) (E : XK) (h : sp_stirring K vs H Q E) : r_stirring K { nx := fun _ H' => Q .non H', rt := Q } (L2.start N_stirring vs) H := by
  obtain ⟨n, a, cs, k, rfl, hw, hk, q⟩ := h
  unfold r_stirring N_stirring
  walk_at "ev"
  refine ⟨n, a, cs, rfl, hw, fun H1 s1 => ?_⟩
  obtain ⟨ps, ha, hp, ok, n1, n10⟩ := hw
  have hpl := hp.length
  refine ⟨a, _, k, rfl, s1.seq ha, by rw [rfs_len]; omega, ?_⟩
  walk_at "ev"
  obtain ⟨c, hc⟩ := get_of hk
  obtain ⟨g, hg, ht⟩ := hp.get hc
  refine ⟨a, _, _, _, rfl, rfl, s1.seq ha, atI_nat (rfs_at hg), ?_⟩
  refine g2_run (Same.sqt s1 ht) ?_
  walk_at "ev"
  refine ⟨a, _, rfl, s1.seq ha, fun x nx => ?_⟩
  rw [rfs_take]
  have s2 := s1.trans (same_new (o := .lst (Rfs (ps.take k))) nx)
  refine ⟨n, x, cs.take k, rfl, webAt_take (.inl (.inl upd_same)) (Same.prs s2 hp) ok n1 n10, fun H2 y s3 ny hy => ?_⟩
  have okc := ok.2 c (List.mem_of_getElem? hc)
  refine ⟨y, n, c.1, c.2, cs.take k, rfl, .inl (.inl hy), okc.1, okc.2.1, ?_⟩
  refine ⟨n, gtB (cs.take k) c.1 c.2, rfl, n10, ?_⟩
  rw [stirs_eq hc] at q
  exact q.on (s2.trans s3)
def Wneedl (n : Nat) (a f : Addr) (cs : List Cmp) (H : Hp) (i : Nat) (σ : L2.St) (H' : Hp) : Prop :=
  ∃ p y4 y5 y6 y7, σ = [some (.int (n : Int)), some (.ref a), some (.ref f), some (.ref p), y4, y5, y6, y7] ∧ Same H H' ∧ H p = none ∧ H f = none ∧ p ≠ f ∧ H' p = some (.lst (vis (cols n (cs.take i)))) ∧
    H' f = some (.lst (natL ((List.range i).filter fun k => !(bares n).any (stirsAt cs k))))
theorem rd_needless (vs : List V) (H : Hp) (Q : VK) (E : XK) (h : sp_needless K vs H Q E) : r_needless K { nx := fun _ H' => Q .non H', rt := Q } (L2.start N_needless vs) H := by
  obtain ⟨n, a, cs, rfl, hw, q⟩ := h
  unfold r_needless N_needless
  walk_at "ev"
  refine ⟨n, a, cs, rfl, hw, fun H1 s1 => ?_⟩
  obtain ⟨ps, ha, hp, ok, n1, n10⟩ := hw
  have hpl := hp.length
  have h60 := ok.1
  refine ⟨small_line (by decide), fun f nf => ?_⟩
  have s2 := s1.trans (same_new (o := .lst []) nf)
  refine ⟨n, rfl, n10, fun H2 p s3 np hp2 => ?_⟩
  have pf : p ≠ f := fun e => by rw [e, upd_same] at np; cases np
  have s4 := s2.trans s3
  refine for_enum2 (a := a) (xs := Rfs ps) rfl (s4.seq ha) (Wneedl n a f cs H) ⟨p, none, none, none, none, rfl, s4, s2.free np, s1.free nf, pf, hp2, s3 _ _ (by rw [upd_same] <;> rfl)⟩ (fun i σ H' _ hW => ?_) (fun i x σ H3 H4 hx hi hW s5 => ?_) (fun σ H' hW => ?_)
  · obtain ⟨_, _, _, _, _, _, s, _⟩ := hW
    exact s.seq ha
  · obtain ⟨p, y4, y5, y6, y7, rfl, s, np, nf, pf, hp3, hf3⟩ := hW
    obtain ⟨g, rfl, hg⟩ := rfs_get hx
    obtain ⟨c, hc, ht⟩ := hp.getL hg
    have okc := ok.2 c (List.mem_of_getElem? hc)
    have st := s.trans s5
    have ft : (List.range (i + 1)).filter (fun k => !(bares n).any (stirsAt cs k)) = (List.range i).filter (fun k => !(bares n).any (stirsAt cs k)) ++ (if (bares n).any (stirsAt cs i) then [] else [i]) := by
      rw [List.range_succ, List.filter_append]
      congr 1
      cases z : (bares n).any (stirsAt cs i) with
      | false => rw [List.filter_cons_of_pos (by rw [z] <;> rfl)] <;> rfl
      | true => rw [List.filter_cons_of_neg (by rw [z]; decide)] <;> rfl
    have lf : ((List.range i).filter fun k => !(bares n).any (stirsAt cs k)).length ≤ i := Nat.le_trans (List.length_filter_le ..) (by rw [List.length_range]; exact Nat.le_refl _)
    rw [rfs_len] at hi
    unfold r_needless_f1
    walk_at "ev"
    refine g2_run (Same.sqt st ht) ?_
    walk_at "ev"
    refine ⟨p, n, c.1, c.2, cs.take i, rfl, .inl (.inl (s5 _ _ hp3)), okc.1, okc.2.1, ?_⟩
    walk_at "ev"
    have fin : ∀ (H5 : Hp), Same H H5 → H5 p = some (.lst (vis (cols n (cs.take i)))) → H5 f = some (.lst (natL ((List.range (i + 1)).filter fun k => !(bares n).any (stirsAt cs k)))) →
        ∃ (x y : Addr) (m : Nat) (ds : List Cmp) (c' : Cmp), [V.ref p, V.ref g] = [.ref x, .ref y] ∧ SqL K H5 x (vis (cols m ds)) ∧ SqT K H5 y (V2 c') ∧ CmpOk m c' ∧ ∀ H' p', Same H5 H' → H5 p' = none → H' p' = some (.lst (vis (cols m (ds ++ [c'])))) →
          Wneedl n a f cs H (i + 1) [some (.int (n : Int)), some (.ref a), some (.ref f), some (.ref p'), some (.int (i : Int)), some (.ref g), some (.int (c.1 : Int)), some (.int (c.2 : Int))] H' := fun H5 sH hp5 hf5 => by
      refine ⟨p, g, n, cs.take i, c, rfl, .inl (.inl hp5), Same.sqt sH ht, okc, fun H6 p6 s6 np6 hp6 => ?_⟩
      refine ⟨p6, _, _, _, _, rfl, sH.trans s6, sH.free np6, nf, fun e => ?_, ?_, s6 _ _ hf5⟩
      · rw [e, hf5] at np6
        cases np6
      · rw [hp6, List.take_add_one, hc] <;> rfl
    split
    · rename_i z
      have z' : maskN (gtB (cs.take i) c.1 c.2) (bares n) = 0 := by omega
      have anyF : (bares n).any (stirsAt cs i) = false := by
        rw [stirs_eq hc, List.any_eq_false]
        intro x hx
        rw [mask_zero.mp z' x hx]
        decide
      refine ⟨.inl ⟨rfl, _, .inl (.inl (s5 _ _ hf3))⟩, f, _, _, rfl, rfl, s5 _ _ hf3, by rw [nat_len]; exact small_lt (by omega), ?_⟩
      refine fin _ (same_mut st nf) (by rw [upd_ne pf]; exact s5 _ _ hp3) ?_
      rw [upd_same, ft, anyF]
      unfold natL
      rw [List.map_append] <;> rfl
    · rename_i z
      have anyT : (bares n).any (stirsAt cs i) = true := by
        rw [stirs_eq hc]
        cases e : (bares n).any (gtB (cs.take i) c.1 c.2) with
        | true => rfl
        | false =>
          rw [List.any_eq_false] at e
          refine absurd ?_ z
          rw [mask_zero.mpr fun x hx => by have := e x hx; cases e2 : gtB (cs.take i) c.1 c.2 x with | false => rfl | true => exact absurd e2 this] <;> rfl
      refine fin _ st (s5 _ _ hp3) ?_
      rw [s5 _ _ hf3, ft, anyT, if_pos rfl, List.append_nil]
  · obtain ⟨p, y4, y5, y6, y7, rfl, s, np, nf, pf, hp3, hf3⟩ := hW
    walk_at "ev"
    rw [rfs_len, hpl] at hf3
    exact q H' f s nf hf3
theorem nat_flat (l : List Nat) : (natL l).all flatV = true := by
  rw [List.all_eq_true]
  intro x hx
  obtain ⟨t, _, rfl⟩ := List.mem_map.mp hx
  rfl
theorem idle_in {n i : Nat} {cs : List Cmp} (hi : i < cs.length) : inV (.int (i : Int)) (natL (idle n cs)) = !(bares n).any (stirsAt cs i) := by
  rw [Bool.eq_iff_iff]
  unfold inV
  rw [List.any_eq_true]
  constructor
  · rintro ⟨y, hy, e⟩
    obtain ⟨t, ht, rfl⟩ := List.mem_map.mp hy
    unfold idle at ht
    obtain ⟨h1, h2⟩ := List.mem_filter.mp ht
    have e2 : ((t : Int) == (i : Int)) = true := e
    have e3 : t = i := by
      have := beq_iff_eq.mp e2
      omega
    rw [← e3]
    exact h2
  · intro h
    refine ⟨.int (i : Int), List.mem_map.mpr ⟨i, ?_, rfl⟩, ?_⟩
    · unfold idle
      exact List.mem_filter.mpr ⟨List.mem_range.mpr hi, h⟩
    · show ((i : Int) == (i : Int)) = true
      exact beq_self_eq_true _
theorem rd_pruned (vs : List V) (H : Hp) (Q : VK) (E : XK) (h : sp_pruned K vs H Q E) : r_pruned K { nx := fun _ H' => Q .non H', rt := Q } (L2.start N_pruned vs) H := by
  obtain ⟨n, a, cs, rfl, hw, q⟩ := h
  unfold r_pruned N_pruned
  walk_at "ev"
  refine ⟨n, a, cs, rfl, hw, fun H1 f s1 nf hf => ?_⟩
  obtain ⟨ps, ha, hp, ok, n1, n10⟩ := hw
  have hpl := hp.length
  have h60 := ok.1
  refine lc_enum2 (a := a) (xs := Rfs ps) rfl (s1.seq ha) (fun v w => rfl) (fun D i acc H' => Same H1 H' ∧ acc = Rfs (pick (fun k => (bares n).any (stirsAt cs k)) 0 (ps.take i)))
    (fun D nD => ⟨same_new nD, rfl⟩) (fun D i acc H' nD g => g.1.seq (s1.seq ha)) ?_ ?_
  · intro D i x acc H2 H3 nD hx hi hD g s3
    obtain ⟨s2, rfl⟩ := g
    obtain ⟨p, rfl, gp⟩ := rfs_get hx
    rw [rfs_len] at hi
    have st := s2.trans s3
    unfold Turn
    walk_at "ev"
    refine ⟨f, _, rfl, .inl (.inl (.inl (st _ _ hf))), rfl, nat_flat _, _, rfl, ?_⟩
    have e : inV (.int (i : Int)) (natL (idle n cs)) = !(bares n).any (stirsAt cs i) := idle_in (by omega)
    have hD3 := s3 _ _ hD
    have lp := pick_len (fun k => (bares n).any (stirsAt cs k)) (ps.take i) 0
    rw [List.length_take] at lp
    rw [show (if true = true then !inV (.int (i : Int)) (natL (idle n cs)) else inV (.int (i : Int)) (natL (idle n cs))) = (bares n).any (stirsAt cs i) by rw [if_pos rfl, e, Bool.not_not]]
    split
    · rename_i z
      refine GoOn.mk hD3 (by rw [rfs_len]; omega) ⟨same_mut st nD, ?_⟩
      rw [pick_take gp, if_pos z]
      unfold Rfs
      rw [List.map_append] <;> rfl
    · rename_i z
      refine ⟨_, hD3, st, ?_⟩
      rw [pick_take gp, if_neg z, List.append_nil]
  · intro D acc H2 nD hD g
    obtain ⟨s2, rfl⟩ := g
    rw [rfs_len, List.take_length] at hD
    refine q H2 D _ (s1.trans s2) (s1.free nD) hD ?_
    exact pick_all2 _ (Same.prs (s1.trans s2) hp) 0
theorem chain_srt {r : Row} (h : ∀ k, k + 1 < r.length → at0 r k ≤ at0 r (k + 1)) : Srt r := by
  rw [Srt, List.pairwise_iff_getElem]
  have g : ∀ (k : Nat) (hk : k < r.length), r[k] = at0 r k := fun k hk => by
    unfold at0
    rw [List.getD_eq_getElem?_getD, List.getElem?_eq_getElem hk] <;> rfl
  have key : ∀ (d i : Nat), i + d < r.length → at0 r i ≤ at0 r (i + d) := by
    intro d
    induction d with
    | zero => intro i _; exact Int.le_refl _
    | succ d ih =>
      intro i hi
      have h1 := ih i (by omega)
      have h2 := h (i + d) (by omega)
      rw [show i + (d + 1) = i + d + 1 by omega]
      omega
  intro i j hi hj hij
  rw [g, g]
  have := key (j - i) i (by omega)
  rw [show i + (j - i) = j by omega] at this
  exact this
theorem srt_chain {r : Row} (h : Srt r) (k : Nat) (hk : k + 1 < r.length) : at0 r k ≤ at0 r (k + 1) := by
  rw [Srt, List.pairwise_iff_getElem] at h
  have g : ∀ (k : Nat) (hk : k < r.length), r[k] = at0 r k := fun k hk => by
    unfold at0
    rw [List.getD_eq_getElem?_getD, List.getElem?_eq_getElem hk] <;> rfl
  have := h k (k + 1) (by omega) hk (by omega)
  rw [g, g] at this
  exact this
theorem sorts_iff {cs : List Cmp} {n : Nat} {r : Row} (hr : r.length = n) : sortsB cs n r = false ↔ Srt (gone cs r) := by
  have hl : (gone cs r).length = n := by rw [gone_len, hr]
  unfold sortsB
  rw [List.any_eq_false]
  constructor
  · intro h
    refine chain_srt fun k hk => ?_
    have := h k (List.mem_range.mpr (by omega))
    unfold gtB at this
    rw [decide_eq_true_eq] at this
    omega
  · intro h k hk
    have hk' := List.mem_range.mp hk
    have := srt_chain h k (by omega)
    unfold gtB
    rw [decide_eq_true_eq]
    omega
def Wuns (n : Nat) (a p : Addr) (cs : List Cmp) (H1 : Hp) (i : Nat) (σ : L2.St) (H' : Hp) : Prop :=
  ∃ y4, σ = [some (.int (n : Int)), some (.ref a), some (.ref p), some (.int (maskN (fun r => (List.range i).any fun k => gtB cs k (k + 1) r) (bares n) : Nat)), y4] ∧ Same H1 H'
theorem rd_unsorted (vs : List V) (H : Hp) (Q : VK) (E : XK) (h : sp_unsorted K vs H Q E) : r_unsorted K { nx := fun _ H' => Q .non H', rt := Q } (L2.start N_unsorted vs) H := by
  obtain ⟨n, a, cs, rfl, hw, q⟩ := h
  have n1 : 1 ≤ n := hw.choose_spec.2.2.2.1
  have n10 := webAt_get hw
  unfold r_unsorted N_unsorted
  walk_at "ev"
  refine ⟨n, a, cs, rfl, hw, fun H1 s1 => ?_⟩
  refine ⟨n, a, cs, rfl, webAt_same s1 hw, fun H2 p s2 np hp => ?_⟩
  refine for_rng (n := n - 1) (fun Q q => ?_) (by omega) (Wuns n a p cs H2) ⟨none, ?_, .refl _⟩ (fun i σ H' hi hW => ?_) (fun σ H' hW => ?_)
  · walk_at "ev"
    rw [show (n : Int) - 1 = ((n - 1 : Nat) : Int) by omega]
    exact q
  · have z : maskN (fun r => (List.range 0).any fun k => gtB cs k (k + 1) r) (bares n) = 0 := mask_zero.mpr fun x _ => rfl
    rw [z] <;> rfl
  · obtain ⟨y4, rfl, s⟩ := hW
    unfold r_unsorted_f1
    walk_at "ev"
    refine ⟨p, n, i, i + 1, cs, by rw [Int.natCast_add] <;> rfl, .inl (.inl (s _ _ hp)), by omega, by omega, ?_⟩
    walk_at "ev"
    refine ⟨some (.int (i : Int)), ?_, s⟩
    rw [i_or, mask_congr fun r _ => ?_]
    rw [List.range_succ, List.any_append]
    show _ = (_ || (gtB cs i (i + 1) r || false))
    rw [Bool.or_false]
  · obtain ⟨y4, rfl, s⟩ := hW
    walk_at "ev"
    refine ⟨n, _, rfl, n10, ?_⟩
    exact q.on (s1.trans (s2.trans s))
def Wdiff (n : Nat) (a b : Addr) (cs ds : List Cmp) (H1 : Hp) (i : Nat) (σ : L2.St) (H' : Hp) : Prop :=
  ∃ y4 y5, σ = [some (.int (n : Int)), some (.ref a), some (.ref b), some (.int (maskN (fun r => (List.range i).any fun k => one0 (gone cs r) k != one0 (gone ds r) k) (bares n) : Nat)), y4, y5] ∧ Same H1 H'
theorem zip_in {σ : L2.St} {H : Hp} {a b : Addr} {xs ys : List V} {j1 j2 : Nat} {tb : TS} {D : Ends} (hx : SqL K H a xs) (hy : SqL K H b ys) (hz : xs.length = ys.length) (Pv : Nat → L2.St → Hp → Prop) (h0 : Pv 0 σ H) (hl : ∀ i σ H, i ≤ xs.length → Pv i σ H → SqL K H a xs ∧ SqL K H b ys)
    (turn : ∀ i x y σ H H', xs[i]? = some x → ys[i]? = some y → i < xs.length → Pv i σ H → Same H H' → tb { D with nx := Pv (i + 1), ct := Pv (i + 1), bk := D.nx } ((σ.set j1 (some x)).set j2 (some y)) H')
    (done : ∀ σ H, Pv xs.length σ H → D.nx σ H) :
    ForK (gTup K 2 (gCons (gName j1) (gCons (gName j2) gNil))) tb D σ (Itz K a b) H := by
  refine it_for (n := xs.length) Pv h0 (fun i σ H hi p => ?_) (fun σ H p => ?_) (fun i σ H hi p v H' y => ?_) done
  · obtain ⟨x, gx⟩ := get_of hi
    obtain ⟨y, gy⟩ := get_of (xs := ys) (i := i) (by omega)
    obtain ⟨q1, q2⟩ := hl i σ H (Nat.le_of_lt hi) p
    exact ⟨xs, ys, x, y, q1, q2, gx, gy⟩
  · obtain ⟨q1, q2⟩ := hl _ σ H (Nat.le_refl _) p
    exact ⟨xs, ys, q1, q2, .inl (Nat.le_refl _)⟩
  · obtain ⟨T, x, y, rfl, nT, rfl, f1, f2⟩ := y
    obtain ⟨q1, q2⟩ := hl i σ H (Nat.le_of_lt hi) p
    exact g2_run (.inl (.inl upd_same)) (turn i x y σ H _ (f1 xs q1) (f2 ys q2) hi p (same_new nT))
theorem rd_differing (vs : List V) (H : Hp) (Q : VK) (E : XK) (h : sp_differing K vs H Q E) : r_differing K { nx := fun _ H' => Q .non H', rt := Q } (L2.start N_differing vs) H := by
  obtain ⟨n, a, b, cs, ds, rfl, hw, hw2, q⟩ := h
  have n10 := webAt_get hw
  unfold r_differing N_differing
  walk_at "ev"
  refine ⟨n, a, cs, rfl, hw, fun H1 s1 => ?_⟩
  refine ⟨n, b, ds, rfl, webAt_same s1 hw2, fun H2 s2 => ?_⟩
  have s12 := s1.trans s2
  show tFor _ _ _ _ _ _
  rw [for_def]
  unfold iZip
  walk_at "ev"
  refine ⟨n, a, cs, rfl, webAt_same s12 hw, fun H3 p s3 np hp => ?_⟩
  have s13 := s12.trans s3
  refine ⟨n, b, ds, rfl, webAt_same s13 hw2, fun H4 p2 s4 np2 hp2 => ?_⟩
  have s14 := s13.trans s4
  refine ⟨p, rfl, p2, rfl, _, .inl (.inl (s4 _ _ hp)), _, .inl (.inl hp2), ?_⟩
  refine zip_in (xs := vis (cols n cs)) (ys := vis (cols n ds)) (.inl (.inl (s4 _ _ hp))) (.inl (.inl hp2)) (by rw [ints_len, ints_len, cols_len, cols_len]) (Wdiff n a b cs ds H4) ⟨none, none, ?_, .refl _⟩ (fun i σ H' _ hW => ?_) (fun i x y σ H5 H6 hx hy hi hW s6 => ?_) (fun σ H' hW => ?_)
  · have z : maskN (fun r => (List.range 0).any fun k => one0 (gone cs r) k != one0 (gone ds r) k) (bares n) = 0 := mask_zero.mpr fun x _ => rfl
    rw [z] <;> rfl
  · obtain ⟨_, _, _, s⟩ := hW
    exact ⟨.inl (.inl ((s4.trans s) _ _ hp)), .inl (.inl (s _ _ hp2))⟩
  · obtain ⟨y4, y5, rfl, s⟩ := hW
    rw [ints_len, cols_len] at hi
    rw [col_get hi] at hx hy
    cases hx
    cases hy
    unfold r_differing_f1
    walk_at "ev"
    refine ⟨some (.int (colV n cs i)), some (.int (colV n ds i)), ?_, s.trans s6⟩
    unfold colV
    rw [i_xor, i_or, mask_congr fun r _ => ?_]
    rw [List.range_succ, List.any_append]
    show _ = (_ || ((one0 (gone cs r) i != one0 (gone ds r) i) || false))
    rw [Bool.or_false]
  · obtain ⟨y4, y5, rfl, s⟩ := hW
    walk_at "ev"
    rw [ints_len, cols_len]
    refine ⟨n, _, rfl, n10, ?_⟩
    exact q.on (s14.trans s)
end Sw

set_option Elab.async false
set_option linter.all false
set_option maxRecDepth 100000
set_option maxHeartbeats 4000000
namespace Sw
open PySem PySem.Spec PyProof.Rows L2
local macro_rules | `(tactic| walk_at "ev") => `(tactic| simp only [tSeq, tCalW, quiet, tRzA, tRzO, tTryT, tTryK, tJoin, tJs, tBM, tBits, kStrI, kIntS, kLenS, mSplit, mPart, mIndex, tAsg, tRet, tRetN, tOp, tUn, tVar, tC, tNil, tCons, tCB, tDrop, tNext, tCont, tBreak, tIfS, tIf, tTest, tChain, tChain3, tB, tTup, tLst, tAnd, tOr, tNot, tAndV, tOrV, tNotV, tPart, tNoPart, tSl, tCal, tAug, ipI, rI0, rI, rU, rEq, rNe, kMin, kMax, gName, gCons, gNil, L2.start, wipe, List.map_cons, List.map_nil, List.length_cons, List.length_nil, List.cons_append, List.nil_append, List.append_nil, Nat.reduceAdd, Nat.reduceSub, List.replicate_succ, List.replicate_zero, List.getElem?_cons_zero, List.getElem?_cons_succ, List.set_cons_succ, List.set_cons_zero, Option.some.injEq, exists_eq_left', exists_eq_left, V.int.injEq, V.bl.injEq, V.str.injEq, V.ref.injEq, List.cons.injEq, exists_and_left, and_assoc, and_true, true_and, scal_ii, scal_ss, scal_nn, scal_bb, scal_ni, scal_in, decide_eq_true_eq, Bool.not_true, Bool.not_false, Bool.not_eq_true', decide_eq_false_iff_not, ite_not, reduceCtorEq, if_true, if_false, Bool.false_eq_true, ne_eq, not_true_eq_false, not_false_eq_true, Int.reduceLT, Int.reduceLE, Int.reduceNeg])
local macro_rules | `(tactic| walk_at "cm") => `(tactic| first | exact Or.inr ⟨by decide, by decide⟩ | exact Or.inl ⟨by decide, by decide⟩ | exact Or.inl ⟨by omega, by omega⟩ | exact Or.inr ⟨by omega, by omega⟩)
variable {K : PySem.W.Frag}
theorem idle_mem {n i : Nat} {cs : List Cmp} (hi : i < cs.length) : inV (.int (i : Int)) (natL (idle n cs)) = (firstB n (stirsAt cs i)).isNone := by
  rw [idle_in hi, any_first]
  cases firstB n (stirsAt cs i) <;> rfl
theorem isN_false {p : Addr} : decide (V.ref p = V.non) = false := decide_eq_false fun z => nomatch z
theorem laid_gt {n : Nat} {cs : List Cmp} {c : Cmp} {t : Int} {s b : Row} (ok : CmpsOk n cs) (hc : CmpOk n c) (hs : s.length = n) (e : s.map (thr t) = b) (g : at0 (gone cs b) c.1 > at0 (gone cs b) c.2) : at0 (gone cs s) c.1 > at0 (gone cs s) c.2 := by
  have hl : (gone cs s).length = n := by rw [gone_len, hs]
  rw [laid_goes ok hs e, at0_map (by rw [hl]; exact hc.1), at0_map (by rw [hl]; exact hc.2.1)] at g
  rcases Int.lt_or_le (at0 (gone cs s) c.2) (at0 (gone cs s) c.1) with z | z
  · exact z
  · have := thr_mono t _ _ z
    omega
theorem take_ok {n k : Nat} {cs : List Cmp} (ok : CmpsOk n cs) : CmpsOk n (cs.take k) := fun c hc => ok c (List.mem_of_mem_take hc)
def Wpl (n : Nat) (a R I : Addr) (m : Int) (H1 : Hp) (i : Nat) (σ : L2.St) (H' : Hp) : Prop :=
  ∃ y5 y6 y7 y8 y9 y10 y11 y12, σ = [some (.int (n : Int)), some (.ref a), some (.ref R), some (.int m), some (.ref I), y5, y6, y7, y8, y9, y10, y11, y12] ∧ Same H1 H'
theorem rd_lpg_f2 {n k : Nat} {a R I L : Addr} {cs : List Cmp} {c : Cmp} {m : Int} {i : Nat} {tv : V} {H1 H3 : Hp} {qs : List Addr} {rs : List Row} {y10 y12 : Option V} {D : Ends} (hw : WebAt K H1 a n cs) (hk : k < cs.length) (okc : CmpOk n c)
    (hL : SqL K H3 L (Rfs qs)) (hq : Rws K H3 qs rs) (hr : ∀ r ∈ rs, r.length = n ∧ decide (at0 (gone (cs.take k) r) c.1 > at0 (gone (cs.take k) r) c.2) = !decide (tv = .non)) (s3 : Same H1 H3) (eD : D.nx = Wpl n a R I m H1 (i + 1)) :
    tFor (iList K (tVar 11)) (gName 10) (r_lplacesgood_f2 K) D
      [some (.int (n : Int)), some (.ref a), some (.ref R), some (.int m), some (.ref I), some (.int (i : Int)), some (.int (k : Int)), some (.int (c.1 : Int)), some (.int (c.2 : Int)), some tv, y10, some (.ref L), y12] H3 := by
  refine for_each (a := L) (xs := Rfs qs) rfl hL (fun _ σ H' => ∃ y10 y12, σ = [some (.int (n : Int)), some (.ref a), some (.ref R), some (.int m), some (.ref I), some (.int (i : Int)), some (.int (k : Int)), some (.int (c.1 : Int)), some (.int (c.2 : Int)), some tv, y10, some (.ref L), y12] ∧ Same H3 H') ⟨_, _, rfl, .refl H3⟩ (fun j σ H' _ hW => ?_) (fun j x σ H' hx hj hW => ?_) (fun σ H' hW => ?_)
  · obtain ⟨_, _, _, s⟩ := hW
    exact s.seq hL
  · obtain ⟨y10, y12, rfl, s⟩ := hW
    obtain ⟨p, rfl, hp⟩ := rfs_get hx
    obtain ⟨r, hrr, hrp⟩ := hq.getL hp
    obtain ⟨rl, gt⟩ := hr r (List.mem_of_getElem? hrr)
    have st := s3.trans s
    unfold r_lplacesgood_f2
    walk_at "ev"
    refine ⟨n, a, p, cs, r, rfl, webAt_same st hw, s.seq hrp, rl, fun H4 f fs s4 nf hf own => ?_⟩
    obtain ⟨q0, hq0, o0⟩ := own.get (trace_get cs r k (by omega))
    have hgl : (gone (cs.take k) r).length = n := by rw [gone_len, rl]
    obtain ⟨e1, e2⟩ := cmp_at okc hgl
    refine ⟨f, _, _, _, rfl, rfl, .inl (.inl hf), atI_nat (rfs_at hq0), ?_⟩
    walk_at "ev"
    refine ⟨q0, _, _, _, rfl, rfl, .inl (.inl o0.2), atI_nat e1, q0, _, _, _, rfl, rfl, .inl (.inl o0.2), atI_nat e2, ?_⟩
    refine ⟨_, rfl, _, rfl, rfl, rfl, ?_⟩
    have ne : ¬ V.bl (decide (at0 (gone (cs.take k) r) c.2 < at0 (gone (cs.take k) r) c.1)) = V.bl (decide (tv = V.non)) := fun z => by
      have z' := V.bl.inj z
      rw [show decide (at0 (gone (cs.take k) r) c.2 < at0 (gone (cs.take k) r) c.1) = !decide (tv = V.non) from gt] at z'
      revert z'
      generalize decide (tv = V.non) = bb
      intro z'
      revert z'
      cases bb <;> decide
    rw [if_neg ne]
    exact s.trans s4
  · obtain ⟨y10, y12, rfl, s⟩ := hW
    rw [eD]
    exact ⟨_, _, _, _, _, _, _, _, rfl, s3.trans s⟩
theorem rd_lplacesgood (vs : List V) (H : Hp) (Q : VK) (E : XK) (h : sp_lplacesgood K vs H Q E) : r_lplacesgood K { nx := fun _ H' => Q .non H', rt := Q } (L2.start N_lplacesgood vs) H := by
  obtain ⟨n, a, R, cs, m, qs, rs, rfl, m0, hw, hR, hq, hrs, few, q⟩ := h
  obtain ⟨ps, ha, hps, ok, n1, n10⟩ := id hw
  have h60 := ok.1
  have lq := hq.length
  have lp := hps.length
  unfold r_lplacesgood N_lplacesgood
  walk_at "ev"
  refine ⟨n, a, cs, rfl, hw, fun H1 I s1 nI hI => ?_⟩
  have ha1 := s1.seq ha
  have hmin : ∀ Qt : List V → Hp → Prop, Qt [V.int (min 4 cs.length : Nat)] H1 → (tCons (tCB kMin (tCons (tC (.int 4)) (tCons (tCB (kLen K) (tCons (tVar 1) (tNil))) (tNil)))) (tNil)) [some (.int (n : Int)), some (.ref a), some (.ref R), some (.int m), some (.ref I), none, none, none, none, none, none, none, none] H1 Qt := fun Qt hQ => by
    walk_at "ev"
    refine ⟨a, _, rfl, .inl ha1, _, rfl, ?_⟩
    rw [rfs_len, show (if ((ps.length : Nat) : Int) < 4 then ((ps.length : Nat) : Int) else 4) = ((min 4 cs.length : Nat) : Int) by split <;> omega]
    exact hQ
  refine for_rng (n := min 4 cs.length) hmin (by omega) (Wpl n a R I m H1) ⟨_, _, _, _, _, _, _, _, rfl, .refl H1⟩ (fun i σ H2 hi hW => ?_) (fun σ H2 hW => ?_)
  · obtain ⟨y5, y6, y7, y8, y9, y10, y11, y12, rfl, s2⟩ := hW
    have t2 := s1.trans s2
    unfold r_lplacesgood_f1
    walk_at "ev"
    refine ⟨by walk_at "cm", a, _, rfl, .inl (t2.seq ha), _, rfl, ?_⟩
    rw [rfs_len]
    refine ⟨by omega, ?_⟩
    obtain ⟨k, ek, hk⟩ := drawn_at (n := m + 5 * (i : Int)) (m := (ps.length : Int)) (by omega)
    rw [ek]
    have hkc : k < cs.length := by omega
    obtain ⟨c, hc⟩ := get_of hkc
    obtain ⟨g, hg, hgc⟩ := hps.get hc
    have okc := ok.2 c (List.mem_of_getElem? hc)
    refine ⟨a, _, _, _, rfl, rfl, t2.seq ha, atI_nat (rfs_at hg), ?_⟩
    refine g2_run (Same.sqt t2 hgc) ?_
    walk_at "ev"
    refine ⟨n, a, cs, k, rfl, webAt_same t2 hw, hkc, fun hn H3 s3 => ?_, fun r hr H3 w s3 nw hw3 => ?_⟩
    · have s13 := s2.trans s3
      have t3 := s1.trans s13
      refine ⟨rfl, I, _, rfl, .inl (.inl (.inl (s13 _ _ hI))), rfl, nat_flat _, ?_⟩
      dsimp only
      refine ⟨rfl, ?_⟩
      rw [show (if false = true then !inV (.int (k : Int)) (natL (idle n cs)) else inV (.int (k : Int)) (natL (idle n cs))) = inV (.int (k : Int)) (natL (idle n cs)) from rfl, idle_mem hkc, hn, if_pos (by rw [decide_eq_true rfl] <;> rfl)]
      refine ⟨rfl, _, rfl, ?_⟩
      rw [if_pos (decide_eq_true rfl)]
      refine rd_lpg_f2 (cs := cs) (qs := qs) (rs := rs) (webAt_same s1 hw) hkc okc (t3.seq hR) (Same.rws t3 hq) (fun r hr => ⟨hrs r hr, ?_⟩) s13 rfl
      rw [decide_eq_true rfl, decide_eq_false fun z => ?_]
      · rfl
      · obtain ⟨b, hb, gb⟩ := zero_one_stir ok.2 okc (hrs r hr) z
        have e : firstB n (stirsAt cs k) ≠ none := by
          unfold firstB
          intro y
          rw [List.find?_eq_none] at y
          refine y b hb ?_
          rw [stirs_eq hc]
          exact decide_eq_true gb
        exact e hn
    · have s13 := s2.trans s3
      have t3 := s1.trans s13
      obtain ⟨hm, hf⟩ := first_get hr
      obtain ⟨hl, hb⟩ := bares_ok hm
      refine ⟨rfl, I, _, rfl, .inl (.inl (.inl (s13 _ _ hI))), rfl, nat_flat _, ?_⟩
      dsimp only
      refine ⟨rfl, ?_⟩
      rw [show (if false = true then !inV (.int (k : Int)) (natL (idle n cs)) else inV (.int (k : Int)) (natL (idle n cs))) = inV (.int (k : Int)) (natL (idle n cs)) from rfl, idle_mem hkc, hr, if_pos (by rw [isN_false] <;> rfl)]
      refine ⟨rfl, _, rfl, ?_⟩
      rw [if_neg (by rw [isN_false]; decide)]
      rw [lc_def]
      unfold iList
      walk_at "ev"
      refine ⟨R, _, rfl, t3.seq hR, fun T nT => ?_⟩
      have e2 : cutV (Rfs qs) none (some 2) = Rfs (qs.take 2) := rfs_take qs 2
      rw [e2]
      have sT := same_new (o := .lst (Rfs (qs.take 2))) nT
      have hT : (upd H3 T (.lst (Rfs (qs.take 2)))) T = some (.lst (Rfs (qs.take 2))) := upd_same
      have hw3' := sT _ _ hw3
      generalize upd H3 T (.lst (Rfs (qs.take 2))) = H4 at sT hT hw3'
      have t4 := t3.trans sT
      refine ⟨T, rfl, ⟨_, .inl (.inl hT)⟩, ?_⟩
      refine lck_list (xs := Rfs (qs.take 2)) (.inl (.inl hT)) (fun v => rfl) (fun D i acc H' => Same H4 H' ∧ ∃ (ss : List Addr) (sr : List Row), acc = Rfs ss ∧ Own H4 H' ss sr ∧ sr.length = i ∧ ∀ s ∈ sr, s.length = n ∧ ∃ t, s.map (thr t) = r) (fun D nD => ⟨same_new nD, [], [], rfl, .nil, rfl, fun s hs => nomatch hs⟩) (fun D i acc H' nD g => .inl (.inl (g.1 _ _ hT))) ?_ ?_
      · intro D j x acc H' nD hx hj hD g
        obtain ⟨s, ss, sr, rfl, own, lsr, hsr⟩ := g
        obtain ⟨p, rfl, hp⟩ := rfs_get hx
        rw [rfs_len, List.length_take] at hj
        rw [List.getElem?_take_of_lt (by omega)] at hp
        obtain ⟨rr, hrr, hrp⟩ := hq.getL hp
        have ls := own.length
        refine .yes ?_
        walk_at "ev"
        refine ⟨w, p, n, r, rr, rfl, .inl (.inl (s _ _ hw3')), (t4.trans s).seq hrp, hl, hrs rr (List.mem_of_getElem? hrr), n10, hb, fun H5 z sl t s5 nz hz lsl est => ?_⟩
        have zD : z ≠ D := fun y => by rw [y, hD] at nz; cases nz
        refine GoOn.mk (s5 _ _ hD) (by rw [rfs_len]; omega) ⟨same_mut (s.trans s5) nD, ss ++ [z], ?_, sr ++ [sl], ?_, by rw [List.length_append, List.length_singleton, lsr], fun s' hs' => ?_⟩
        · unfold Rfs
          rw [List.map_append] <;> rfl
        · exact ((own.same s5).upd (s5 _ _ hD) fun r' hr' => ne_of_len (hsr r' hr').1 n1).snoc ⟨s.free nz, by rw [upd_ne zD]; exact hz⟩
        · rcases List.mem_append.mp hs' with y | y
          · exact hsr s' y
          · rw [List.mem_singleton.mp y]
            exact ⟨lsl, t, est⟩
      · intro D acc H5 nD hD g
        obtain ⟨s, ss, sr, rfl, own, _, hsr⟩ := g
        refine rd_lpg_f2 (cs := cs) (qs := ss) (rs := sr) (webAt_same s1 hw) hkc okc (.inl (.inl hD)) own.rws (fun sl hs => ?_) (s13.trans (sT.trans s)) rfl
        obtain ⟨l1, t, et⟩ := hsr sl hs
        refine ⟨l1, ?_⟩
        rw [isN_false, decide_eq_true]
        · rfl
        · rw [stirs_eq hc] at hf
          exact laid_gt (take_ok ok.2) okc l1 et (of_decide_eq_true hf)
  · obtain ⟨y5, y6, y7, y8, y9, y10, y11, y12, rfl, s2⟩ := hW
    walk_at "ev"
    exact q _ (s1.trans s2)
end Sw

set_option Elab.async false
set_option linter.all false
set_option maxRecDepth 100000
set_option maxHeartbeats 4000000
namespace Sw
open PySem PySem.Spec PyProof.Rows L2
local macro_rules | `(tactic| walk_at "ev") => `(tactic| simp only [tSeq, tCalW, quiet, tRzA, tRzO, tTryT, tTryK, tJoin, tJs, tBM, tBits, kStrI, kIntS, kLenS, mSplit, mPart, mIndex, tAsg, tRet, tRetN, tOp, tUn, tVar, tC, tNil, tCons, tCB, tDrop, tNext, tCont, tBreak, tIfS, tIf, tTest, tChain, tChain3, tB, tTup, tLst, tAnd, tOr, tNot, tAndV, tOrV, tNotV, tPart, tNoPart, tSl, tCal, tAug, ipI, rI0, rI, rU, rEq, rNe, kMin, kMax, gName, gCons, gNil, L2.start, wipe, List.map_cons, List.map_nil, List.length_cons, List.length_nil, List.cons_append, List.nil_append, List.append_nil, Nat.reduceAdd, Nat.reduceSub, List.replicate_succ, List.replicate_zero, List.getElem?_cons_zero, List.getElem?_cons_succ, List.set_cons_succ, List.set_cons_zero, Option.some.injEq, exists_eq_left', exists_eq_left, V.int.injEq, V.bl.injEq, V.str.injEq, V.ref.injEq, List.cons.injEq, exists_and_left, and_assoc, and_true, true_and, scal_ii, scal_ss, scal_nn, scal_bb, scal_ni, scal_in, decide_eq_true_eq, Bool.not_true, Bool.not_false, Bool.not_eq_true', decide_eq_false_iff_not, ite_not, reduceCtorEq, if_true, if_false, Bool.false_eq_true, ne_eq, not_true_eq_false, not_false_eq_true, Int.reduceLT, Int.reduceLE, Int.reduceNeg])
local macro_rules | `(tactic| walk_at "cm") => `(tactic| first | exact Or.inr ⟨by decide, by decide⟩ | exact Or.inl ⟨by decide, by decide⟩ | exact Or.inl ⟨by omega, by omega⟩ | exact Or.inr ⟨by omega, by omega⟩)
variable {K : PySem.W.Frag}
/-! ## What is pruned -/
theorem lean_take {n : Nat} {cs : List Cmp} {r : Row} (hr : r ∈ bares n) : ∀ i, i ≤ cs.length → gone (pick (fun k => (bares n).any (stirsAt cs k)) 0 (cs.take i)) r = gone (cs.take i) r
  | 0, _ => rfl
  | i + 1, hi => by
    have ih := lean_take (cs := cs) hr i (by omega)
    obtain ⟨c, hc⟩ := get_of (xs := cs) (i := i) (by omega)
    rw [pick_take hc, gone_take hc]
    cases z : (bares n).any (stirsAt cs i) with
    | true => rw [if_pos rfl, gone_snoc, ih]
    | false =>
      rw [if_neg (by decide), List.append_nil, ih]
      rw [List.any_eq_false] at z
      have := z r hr
      rw [stirs_eq hc] at this
      unfold gtB at this
      rw [decide_eq_true_eq] at this
      unfold goC
      rw [if_neg this]
theorem lean_goes {n : Nat} {cs : List Cmp} {r : Row} (hr : r ∈ bares n) : gone (lean n cs) r = gone cs r := by
  have := lean_take (cs := cs) hr cs.length (Nat.le_refl _)
  rw [List.take_length] at this
  exact this
theorem lean_ok {n m : Nat} {cs : List Cmp} (ok : WebOk n cs) : WebOk n (lean m cs) :=
  ⟨Nat.le_trans (pick_len _ _ _) ok.1, fun c hc => ok.2 c (pick_mem hc)⟩
theorem stirs_app {l m : List Cmp} {j : Nat} (h : j < l.length) : stirsAt (l ++ m) j = stirsAt l j := by
  funext r
  unfold stirsAt
  rw [List.getElem?_append_left h, List.take_append_of_le_length (by omega)]
theorem lean_stirs {n : Nat} {cs : List Cmp} : ∀ i, i ≤ cs.length → ∀ j, j < (pick (fun k => (bares n).any (stirsAt cs k)) 0 (cs.take i)).length → (bares n).any (stirsAt (pick (fun k => (bares n).any (stirsAt cs k)) 0 (cs.take i)) j) = true
  | 0, _, j, hj => by
    have : (pick (fun k => (bares n).any (stirsAt cs k)) 0 (cs.take 0)).length = 0 := rfl
    omega
  | i + 1, hi, j, hj => by
    have ih := lean_stirs (cs := cs) (n := n) i (by omega)
    obtain ⟨c, hc⟩ := get_of (xs := cs) (i := i) (by omega)
    have lt := fun r hr => lean_take (n := n) (cs := cs) (r := r) hr i (by omega)
    rw [pick_take hc] at hj ⊢
    cases z : (bares n).any (stirsAt cs i) with
    | false =>
      rw [z, if_neg (by decide), List.append_nil] at hj
      rw [if_neg (by decide), List.append_nil]
      exact ih j hj
    | true =>
      rw [z, if_pos rfl, List.length_append, List.length_singleton] at hj
      rw [if_pos rfl]
      rcases Nat.lt_or_ge j (pick (fun k => (bares n).any (stirsAt cs k)) 0 (cs.take i)).length with h | h
      · rw [stirs_app h]
        exact ih j h
      · have e : j = (pick (fun k => (bares n).any (stirsAt cs k)) 0 (cs.take i)).length := by omega
        rw [List.any_eq_true] at z ⊢
        obtain ⟨r, hr, hf⟩ := z
        refine ⟨r, hr, ?_⟩
        rw [stirs_eq hc] at hf
        rw [stirs_eq (c := c) (by rw [e, List.getElem?_append_right (Nat.le_refl _), Nat.sub_self] <;> rfl), e, List.take_left]
        unfold gtB at hf ⊢
        rw [lt r hr]
        exact hf
theorem lean_idle {n : Nat} {cs : List Cmp} : idle n (lean n cs) = [] := by
  unfold idle
  rw [List.filter_eq_nil_iff]
  intro j hj
  have hj' := List.mem_range.mp hj
  have := lean_stirs (n := n) (cs := cs) cs.length (Nat.le_refl _) j (by rw [List.take_length]; exact hj')
  rw [List.take_length] at this
  have e : (bares n).any (stirsAt (lean n cs) j) = true := this
  rw [e]
  decide
theorem lean_diff {n : Nat} {cs : List Cmp} : firstB n (diffB cs (lean n cs) n) = none := by
  unfold firstB
  rw [List.find?_eq_none]
  intro r hr
  unfold diffB
  rw [lean_goes hr]
  rw [Bool.not_eq_true, List.any_eq_false]
  intro k _
  simp
/-! ## The law -/
def ToldB (H : Hp) (n : Nat) (cs : List Cmp) (tv : V) : Prop := (tv = .non ∧ firstB n (sortsB cs n) = none) ∨ ∃ w r, tv = .ref w ∧ firstB n (sortsB cs n) = some r ∧ H w = some (.lst (vis r))
theorem ToldB.same {H H' : Hp} {n : Nat} {cs : List Cmp} {tv : V} (s : Same H H') (h : ToldB H n cs tv) : ToldB H' n cs tv := by
  rcases h with h | ⟨w, r, a, b, c⟩
  · exact .inl h
  · exact .inr ⟨w, r, a, b, s _ _ c⟩
theorem perm_srt {r s : Row} (hp : s.Perm r) (hs : s.Pairwise (· ≤ ·)) : r = s ↔ Srt r := by
  constructor
  · intro e
    rw [e]
    exact hs
  · intro h
    exact (List.Perm.eq_of_pairwise (fun a b _ _ h1 h2 => Int.le_antisymm h1 h2) hs h hp).symm
theorem eq_rows2 {H : Hp} {a b : Addr} {r s : Row} {Q : VK} (h1 : SqL K H a (vis r)) (h2 : SqL K H b (vis s)) (q : Q (.bl (decide (r = s))) H) : rEqD K (.ref a) (.ref b) H Q :=
  ⟨dI r, dI s, dp_row h1, dp_row h2, enc_row.shaped (by decide) _, enc_row.shaped (by decide) _, by rw [enc_row.eq]; exact q⟩
theorem ne_rows {H : Hp} {a b : Addr} {r s : Row} {Q : VK} (h1 : SqL K H a (vis r)) (h2 : SqL K H b (vis s)) (q : Q (.bl (!decide (r = s))) H) : rNeD K (.ref a) (.ref b) H Q :=
  ⟨dI r, dI s, dp_row h1, dp_row h2, enc_row.shaped (by decide) _, enc_row.shaped (by decide) _, by rw [enc_row.eq]; exact q⟩
/-- what is told sorts just where the rows at hand come out in order -/
theorem sorts_all {n : Nat} {cs : List Cmp} {r : Row} (ok : CmpsOk n cs) (h : firstB n (sortsB cs n) = none) (hr : r.length = n) : Srt (gone cs r) := by
  refine zero_one ok (fun b hb => ?_) hr
  unfold firstB at h
  rw [List.find?_eq_none] at h
  have := h b hb
  rw [Bool.not_eq_true] at this
  exact (sorts_iff (bares_ok hb).1).mp this
theorem sorts_not {n : Nat} {cs : List Cmp} {b s : Row} {t : Int} (ok : CmpsOk n cs) (h : firstB n (sortsB cs n) = some b) (hs : s.length = n) (e : s.map (thr t) = b) : ¬ Srt (gone cs s) := by
  intro z
  obtain ⟨hm, hf⟩ := first_get h
  have : Srt (gone cs b) := by
    rw [laid_goes ok hs e]
    exact List.Pairwise.map _ (fun x y k => thr_mono t x y k) z
  rw [(sorts_iff (bares_ok hm).1).mpr this] at hf
  cases hf
def Wlaw12 (a : Addr) (n : Nat) (c R : Addr) (tv : V) (H1 : Hp) (σ : L2.St) (H' : Hp) : Prop :=
  ∃ y5 y6 y7 y8, σ = [some (.ref a), some (.int (n : Int)), some (.ref c), some (.ref R), some tv, y5, y6, y7, y8] ∧ Same H1 H'
theorem rd_law_f1 {a c R : Addr} {n : Nat} {cs : List Cmp} {tv : V} {H1 H3 : Hp} {p : Addr} {r : Row} {D : Ends} {σ : L2.St} (hw : WebAt K H1 c n cs) (ht : ToldB H1 n cs tv) (hp : SqL K H1 p (vis r)) (hr : r.length = n)
    (hW : Wlaw12 a n c R tv H1 σ H3) :
    r_law_f1 K { D with nx := Wlaw12 a n c R tv H1, ct := Wlaw12 a n c R tv H1, bk := D.nx } (σ.set 5 (some (.ref p))) H3 := by
  obtain ⟨y5, y6, y7, y8, rfl, s⟩ := hW
  have n10 := webAt_get hw
  obtain ⟨_, _, _, ok, n1, _⟩ := id hw
  -- behind the row that goes in
  have go : ∀ (H4 : Hp) (x : Addr) (sl : Row), Same H1 H4 → SqL K H4 x (vis sl) → sl.length = n → (Srt (gone cs sl) ↔ tv = .non) → sp_run K [.int (n : Int), .ref c, .ref x] H4 (fun x1 Hb => rSortedI K [x1] Hb fun y H2 => rEqD K x1 y H2 fun x2 Hc => rIsN tv .non Hc fun y H2 => scal x2 y = true ∧ if x2 = y then Wlaw12 a n c R tv H1 [some (.ref a), some (.int (n : Int)), some (.ref c), some (.ref R), some tv, some (.ref p), some (.ref x), some x1, y8] H2 else D.rt (.bl false) H2) E0 := fun H4 x sl s4 hx hl hs => by
    refine ⟨n, c, x, cs, sl, rfl, webAt_same s4 hw, hx, hl, fun H5 e s5 ne he => ?_⟩
    refine ⟨e, gone cs sl, rfl, .inl (.inl he), fun r' t hperm hsort nt => ?_⟩
    have st := same_new (o := .lst (r'.map V.int)) nt
    refine eq_rows2 (.inl (.inl (st _ _ he))) (.inl (.inl upd_same)) ?_
    refine ⟨rfl, rfl, ?_⟩
    have e1 : decide (gone cs sl = r') = decide (tv = V.non) := decide_eq_decide.mpr ((perm_srt hperm hsort).trans hs)
    rw [e1, if_pos rfl]
    exact ⟨_, _, _, _, rfl, s4.trans (s5.trans st)⟩
  unfold r_law_f1
  rcases ht with ⟨rfl, hn⟩ | ⟨w, b, rfl, hb, hwb⟩
  · walk_at "ev"
    refine ⟨rfl, _, rfl, ?_⟩
    rw [if_pos (decide_eq_true rfl)]
    exact go H3 p r s (s.seq hp) hr ⟨fun _ => rfl, fun _ => sorts_all ok.2 hn hr⟩
  · obtain ⟨hm, _⟩ := first_get hb
    obtain ⟨hl, bits⟩ := bares_ok hm
    walk_at "ev"
    refine ⟨rfl, _, rfl, ?_⟩
    rw [if_neg (by rw [isN_false]; decide)]
    refine ⟨w, p, n, b, r, rfl, .inl (.inl (s _ _ hwb)), s.seq hp, hl, hr, n10, bits, fun H4 x sl t s4 nx hx lsl e => ?_⟩
    have z := go H4 x sl (s.trans s4) (.inl (.inl hx)) lsl ⟨fun y => absurd y (sorts_not ok.2 hb lsl e), fun y => nomatch y⟩
    exact z
theorem rd_law (vs : List V) (H : Hp) (Q : VK) (E : XK) (h : sp_law K vs H Q E) : r_law K { nx := fun _ H' => Q .non H', rt := Q } (L2.start N_law vs) H := by
  obtain ⟨a, ns, rfl, ha, hn, q⟩ := h
  unfold r_law N_law
  walk_at "ev"
  refine ⟨a, ns, rfl, ha, hn, fun H1 p c ps n cs s1 np nc hp1 hc1 prs ok n1 n7 => ?_⟩
  refine g2_run (.inl (.inl hp1)) ?_
  walk_at "ev"
  have hw1 : WebAt K H1 c n cs := ⟨ps, .inl (.inl hc1), prs, ok, n1, by omega⟩
  refine ⟨a, ns, n, rfl, s1.seq ha, hn, n1, by omega, fun H2 R qs rs s2 nR hR own hrs few _ => ?_⟩
  have hw2 := webAt_same s2 hw1
  -- behind what is told
  have rest : ∀ (tv : V) (H3 : Hp), Same H2 H3 → ToldB H3 n cs tv → tFor (iList K (tVar 3)) (gName 5) (r_law_f1 K) { nx := fun σ H' => tSeq (tIfS (tNot (tB (tCal (sp_lplacesgood K) (tCons (tVar 1) (tCons (tVar 2) (tCons (tVar 3) (tCons (tCal (sp_ldraw K) (tCons (tCB (rSum K) (tCons (tSl (rSlL K) (tVar 0) (tNoPart) (tPart (tC (.int 9)))) (tNil))) (tCons (tC (.int 5)) (tCons (tC (.int 110)) (tNil))))) (tNil)))))))) (tRet (tC (.bl false))) (tNext)) (tSeq (tAsg (tCal (sp_pruned K) (tCons (tVar 1) (tCons (tVar 2) (tNil)))) (gName 8)) (tSeq (tIfS (tOr (tTest (tOp rNotN (tCal (sp_differing K) (tCons (tVar 1) (tCons (tVar 2) (tCons (tVar 8) (tNil))))) (tC .non))) (tTest (tOp (rNeD K) (tCal (sp_needless K) (tCons (tVar 1) (tCons (tVar 8) (tNil)))) (tLst (tNil))))) (tRet (tC (.bl false))) (tNext)) (tRet (tOp (rEqD K) (tLc (iList K (tVar 3)) (gName 5) (tTest (tOp (rNeD K) (tCal (sp_run K) (tCons (tVar 1) (tCons (tVar 8) (tCons (tVar 5) (tNil))))) (tCal (sp_run K) (tCons (tVar 1) (tCons (tVar 2) (tCons (tVar 5) (tNil))))))) (tVar 5) [5]) (tLst (tNil)))))) { nx := fun _ H' => Q .non H', rt := Q } σ H', rt := Q }
      [some (.ref a), some (.int (n : Int)), some (.ref c), some (.ref R), some tv, none, none, none, none] H3 := fun tv H3 s3 ht => by
    have hR3 := s3 _ _ hR
    have own3 := own.same s3
    have hw3 := webAt_same s3 hw2
    refine for_each (a := R) (xs := Rfs qs) rfl (.inl (.inl hR3)) (fun _ => Wlaw12 a n c R tv H3) ⟨_, _, _, _, rfl, .refl H3⟩ (fun i σ H' _ hW => ?_) (fun i x σ H' hx hi hW => ?_) (fun σ H4 hW => ?_)
    · obtain ⟨_, _, _, _, _, s⟩ := hW
      exact .inl (.inl (s _ _ hR3))
    · obtain ⟨p, rfl, hp⟩ := rfs_get hx
      obtain ⟨r, hr, hpr⟩ := own3.rws.getL hp
      exact rd_law_f1 hw3 ht hpr (hrs r (List.mem_of_getElem? hr)) hW
    · obtain ⟨y5, y6, y7, y8, rfl, s4⟩ := hW
      have t4 := s3.trans s4
      walk_at "ev"
      refine ⟨a, _, rfl, ((s1.trans s2).trans t4).seq ha, fun x nx => ?_⟩
      have s5 := same_new (o := .lst (cutV (ns.map V.int) none (some 9))) nx
      refine ⟨x, ns.take 9, rfl, .inl (.inl (by rw [upd_same]; exact congrArg (fun z => some (HO.lst z)) (cut_ints_to ns 9))), ?_⟩
      refine ⟨_, 5, 110, rfl, ⟨by decide, by decide⟩, ⟨by decide, by decide⟩, fun m m0 mlt => ?_⟩
      have t5 := t4.trans s5
      refine ⟨n, c, R, cs, m, qs, rs, rfl, m0, webAt_same t5 hw2, .inl (.inl (t5 _ _ hR)), Same.rws t5 own.rws, hrs, by omega, fun H6 s6 => ⟨true, rfl, ?_⟩⟩
      rw [if_neg (by decide)]
      have t6 := t5.trans s6
      refine ⟨n, c, cs, rfl, webAt_same t6 hw2, fun H7 L ls s7 nL hL hls => ?_⟩
      have t7 := t6.trans s7
      have wl : ∀ H', Same H7 H' → WebAt K H' L n (lean n cs) := fun H' t => ⟨ls, .inl (.inl (t _ _ hL)), Same.prs t hls, lean_ok ok, n1, by omega⟩
      refine ⟨n, c, L, cs, lean n cs, rfl, webAt_same t7 hw2, wl _ (.refl _), ⟨fun _ H8 s8 => ?_, fun r hr => by rw [lean_diff] at hr; cases hr⟩⟩
      have t8 := t7.trans s8
      refine ⟨rfl, false, by rw [decide_eq_true rfl] <;> rfl, ?_⟩
      rw [if_neg (by decide)]
      refine ⟨n, L, lean n cs, rfl, wl _ s8, fun H9 I s9 nI hI => ⟨small_line (by decide), fun u nu => ?_⟩⟩
      rw [lean_idle] at hI
      have su := same_new (o := .lst []) nu
      refine ⟨.list [], .list [], .lst (.inl (.inl (su _ _ hI))) .nil, .lst (.inl (.inl upd_same)) .nil, by decide +kernel, by decide +kernel, false, rfl, ?_⟩
      rw [if_neg (by decide)]
      have t10 := t8.trans (s9.trans su)
      have s810 := s8.trans (s9.trans su)
      generalize upd H9 u (.lst []) = H10 at t10 s810
      have hR10 := t10 _ _ hR
      have own10 := own.same t10
      refine lc_each (a := R) (xs := Rfs qs) rfl (.inl (.inl hR10)) (fun v => rfl) (fun D i acc H' => Same H10 H' ∧ acc = []) (fun D nD => ⟨same_new nD, rfl⟩) (fun D i acc H' nD g => .inl (.inl (g.1 _ _ hR10))) ?_ ?_
      · intro D i x acc H' nD hx hi hD g
        obtain ⟨s, rfl⟩ := g
        obtain ⟨p, rfl, hp⟩ := rfs_get hx
        obtain ⟨r, hr, hpr⟩ := own10.rws.getL hp
        have rl := hrs r (List.mem_of_getElem? hr)
        unfold Turn
        walk_at "ev"
        refine ⟨n, L, p, lean n cs, r, rfl, wl _ (s810.trans s), s.seq hpr, rl, fun H11 e1 s11 ne1 he1 => ?_⟩
        refine ⟨n, c, p, cs, r, rfl, webAt_same (t10.trans (s.trans s11)) hw2, (s.trans s11).seq hpr, rl, fun H12 e2 s12 ne2 he2 => ?_⟩
        have eg : gone (lean n cs) r = gone cs r := zero_one_eq (lean_ok ok).2 ok.2 (fun b hb => lean_goes hb) rl
        refine ne_rows (.inl (.inl (s12 _ _ he1))) (.inl (.inl he2)) ?_
        rw [decide_eq_true eg]
        refine ⟨false, rfl, ?_⟩
        rw [if_neg (by decide)]
        exact ⟨[], s12 _ _ (s11 _ _ hD), s.trans (s11.trans s12), rfl⟩
      · intro D acc H' nD hD g
        obtain ⟨s, rfl⟩ := g
        refine ⟨small_line (by decide), fun z nz => ?_⟩
        have sz := same_new (o := .lst []) nz
        exact ⟨.list [], .list [], .lst (.inl (.inl (sz _ _ hD))) .nil, .lst (.inl (.inl upd_same)) .nil, by decide +kernel, by decide +kernel, q _⟩
  refine ⟨n, c, cs, rfl, hw2, fun hn H3 s3 => ?_, fun r hr H3 w s3 nw hw3 => ?_⟩
  · exact rest _ H3 s3 (.inl ⟨rfl, hn⟩)
  · exact rest _ H3 s3 (.inr ⟨w, r, rfl, hr, hw3⟩)
end Sw

set_option Elab.async false
set_option linter.all false
set_option maxRecDepth 100000
set_option maxHeartbeats 4000000
namespace Sw
open PySem PySem.Spec PyProof.Rows L2
local macro_rules | `(tactic| walk_at "ev") => `(tactic| simp only [tSeq, tAsg, tRet, tRetN, tOp, tUn, tVar, tC, tNil, tCons, tCB, tDrop, tNext, tCont, tBreak, tIfS, tIf, tTest, tChain, tB, tTup, tLst, tAnd, tOr, tNot, tAndV, tOrV, tNotV, tPart, tNoPart, tSl, tCal, tAug, ipI, rI0, rI, rU, rEq, rNe, kMin, kMax, gName, gCons, gNil, L2.start, wipe, List.map_cons, List.map_nil, List.length_cons, List.length_nil, List.cons_append, List.nil_append, List.append_nil, Nat.reduceAdd, Nat.reduceSub, List.replicate_succ, List.replicate_zero, List.getElem?_cons_zero, List.getElem?_cons_succ, List.set_cons_succ, List.set_cons_zero, Option.some.injEq, exists_eq_left', exists_eq_left, V.int.injEq, V.bl.injEq, V.str.injEq, V.ref.injEq, List.cons.injEq, exists_and_left, and_assoc, and_true, true_and, scal_ii, scal_ss, scal_nn, scal_bb, scal_ni, scal_in, decide_eq_true_eq, Bool.not_true, Bool.not_false, Bool.not_eq_true', decide_eq_false_iff_not, ite_not, reduceCtorEq, if_true, if_false, Bool.false_eq_true, ne_eq, not_true_eq_false, not_false_eq_true, Int.reduceLT, Int.reduceLE, Int.reduceNeg])
local macro_rules | `(tactic| walk_at "cm") => `(tactic| first | exact Or.inr ⟨by decide, by decide⟩ | exact Or.inl ⟨by decide, by decide⟩ | exact Or.inl ⟨by omega, by omega⟩ | exact Or.inr ⟨by omega, by omega⟩)
variable {K : PySem.W.Frag}
theorem rd_needrow (vs : List V) (H : Hp) (Q : VK) (E : XK) (h : sp_needrow K vs H Q E) : r_needrow K { nx := fun _ H' => Q .non H', rt := Q } (L2.start N_needrow vs) H := by
  obtain ⟨n, a, r, rfl, ha, hr, n10, q⟩ := h
  unfold r_needrow N_needrow
  walk_at "ev"
  refine ⟨.int (n : Int), "int", rfl, .int _, true, ?_, ?_⟩
  · rw [decide_eq_true rfl]
  walk_at "ev"
  refine ⟨.ref a, "list", rfl, .lst ha, _, _, rfl, rfl, ?_⟩
  walk_at "ev"
  refine ⟨a, _, rfl, .inl ha, ?_⟩
  rw [ints_len, hr]
  walk_at "ev"
  refine lc_each (a := a) (xs := vis r) rfl ha (fun v => rfl) (fun D i acc H' => Same H H' ∧ acc = List.replicate i (.bl true)) (fun D nD => ⟨same_new nD, rfl⟩) (fun D i acc H' nD g => g.1.seq ha) ?_ ?_
  · intro D i x acc H' nD hx hi hD g
    obtain ⟨s, rfl⟩ := g
    obtain ⟨z, rfl, _⟩ := ints_get hx
    refine .yes ?_
    walk_at "ev"
    refine ⟨.int z, "int", rfl, .int z, ?_⟩
    refine GoOn.mk hD (by rw [List.length_replicate]; rw [ints_len] at hi; omega) ⟨same_mut s nD, ?_⟩
    rw [decide_eq_true rfl, List.replicate_succ']
  · intro D acc H' nD hD g
    obtain ⟨s, rfl⟩ := g
    refine ⟨D, List.replicate (vis r).length true, rfl, .inl (.inl (by rw [hD, List.map_replicate])), true, ?_, ?_⟩
    · congr 1
      rw [List.all_eq_true.mpr]
      intro b hb
      rw [(List.mem_replicate.mp hb).2] <;> rfl
    · walk_at "ev"
      exact q H' s
/-! ### a comparer over a list of one's own -/
theorem rd_rbehind (vs : List V) (H : Hp) (Q : VK) (E : XK) (h : sp_rbehind K vs H Q E) : r_rbehind K { nx := fun _ H' => Q .non H', rt := Q } (L2.start N_rbehind vs) H := by
  obtain ⟨a, b, n, r, c, rfl, ha, hr, hb, okc, q⟩ := h
  obtain ⟨e1, e2⟩ := cmp_at okc hr
  unfold r_rbehind N_rbehind
  walk_at "ev"
  refine g2_run hb ?_
  walk_at "ev"
  refine ⟨a, _, rfl, .inl ha, fun p np => ?_⟩
  have s0 := same_new (o := .lst (vis r)) np
  refine ⟨a, _, _, _, rfl, rfl, s0.seq ha, atI_nat e1, a, _, _, _, rfl, rfl, s0.seq ha, atI_nat e2, ?_⟩
  walk_at "ev"
  split
  · rename_i gt
    refine ⟨a, _, _, _, rfl, rfl, s0.seq ha, atI_nat e2, ?_⟩
    refine set_run (a := c.1) rfl rfl upd_same (by rw [ints_len, hr]; exact okc.1) ?_
    walk_at "ev"
    have s1 := same_mut (o := .lst ((vis r).set c.1 (V.int (at0 r c.2)))) s0 np
    refine ⟨a, _, _, _, rfl, rfl, s1.seq ha, atI_nat e1, ?_⟩
    refine set_run (a := c.2) rfl rfl upd_same (by rw [List.length_set, ints_len, hr]; exact okc.2.1) ?_
    walk_at "ev"
    refine q _ p (same_mut s1 np) np ?_
    rw [upd_same]
    unfold goC
    rw [if_pos gt, ints_set, ints_set]
  · rename_i gt
    refine q _ p s0 np ?_
    rw [upd_same]
    unfold goC
    rw [if_neg gt]
def Wsteps (n : Nat) (a b f : Addr) (cs : List Cmp) (r : Row) (H : Hp) (i : Nat) (σ : L2.St) (H' : Hp) : Prop :=
  ∃ y qs, σ = [some (.int (n : Int)), some (.ref a), some (.ref b), some (.ref f), y] ∧ Same H H' ∧ H' f = some (.lst (Rfs qs)) ∧ Own H H' qs (trace (cs.take i) r)
theorem rd_steps (vs : List V) (H : Hp) (Q : VK) (E : XK) (h : sp_steps K vs H Q E) : r_steps K { nx := fun _ H' => Q .non H', rt := Q } (L2.start N_steps vs) H := by
  obtain ⟨n, a, b, cs, r, rfl, hw, hb, hr, q⟩ := h
  have n10 := webAt_get hw
  unfold r_steps N_steps
  walk_at "ev"
  refine ⟨n, a, cs, rfl, hw, fun H1 s1 => ?_⟩
  refine ⟨n, b, r, rfl, s1.seq hb, hr, n10, fun H2 s2 => ?_⟩
  walk_at "ev"
  obtain ⟨ps, ha, hp, ok, n1, _⟩ := hw
  have h60 := ok.1
  have hpl := hp.length
  have s12 := s1.trans s2
  refine ⟨b, _, rfl, .inl (s12.seq hb), fun p0 np0 => ⟨small_line (by decide), fun f nf => ?_⟩⟩
  have s0 := s12.trans (same_new (o := .lst (vis r)) np0)
  have s3 := s0.trans (same_new (o := .lst [.ref p0]) nf)
  have nfH := s0.free nf
  have hp0f : p0 ≠ f := ne_of_none upd_same nf
  refine for_each (a := a) (xs := Rfs ps) rfl (s3.seq ha) (Wsteps n a b f cs r H) ⟨none, [p0], rfl, s3, by rw [upd_same] <;> rfl, .one ⟨s12.free np0, by rw [upd_ne hp0f, upd_same]⟩⟩ (fun i σ H' _ hW => ?_) (fun i x σ H' hx hi hW => ?_) (fun σ H' hW => ?_)
  · obtain ⟨_, _, _, s, _⟩ := hW
    exact s.seq ha
  · obtain ⟨y, qs, rfl, s, hf, own⟩ := hW
    obtain ⟨p, rfl, gp⟩ := rfs_get hx
    obtain ⟨c, hc, ht⟩ := hp.getL gp
    have okc := ok.2 c (List.mem_of_getElem? hc)
    have hlen : (gone (cs.take i) r).length = n := by rw [gone_len, hr]
    have lq := own.length
    have li : (cs.take i).length = i := by rw [List.length_take]; rw [rfs_len, hpl] at hi; omega
    rw [trace_len, li] at lq
    obtain ⟨q0, gq0, o0⟩ := own.get (by have z := trace_last (cs.take i) r; rw [li] at z; exact z)
    unfold r_steps_f1
    walk_at "ev"
    refine ⟨.ref f, rfl, .inl ⟨rfl, _, .inl (.inl hf)⟩, ?_⟩
    refine ⟨.ref f, rfl, (1 : Int), rfl, f, _, _, _, rfl, rfl, .inl (.inl hf), atI_end (rfs_at gq0) (by rw [rfs_len, lq]), ?_⟩
    refine ⟨.ref p, rfl, q0, p, n, gone (cs.take i) r, c, rfl, .inl (.inl o0.2), hlen, Same.sqt s ht, okc, fun H3 p3 s3 np3 hp3 => ?_⟩
    have hf3 := s3 _ _ hf
    have hpf : p3 ≠ f := fun e => by rw [e, hf] at np3; cases np3
    refine ⟨f, _, _, rfl, rfl, hf3, by rw [rfs_len]; exact small_lt (by rw [rfs_len, hpl] at hi; omega), ?_⟩
    refine ⟨_, qs ++ [p3], rfl, same_mut (s.trans s3) nfH, ?_, ?_⟩
    · rw [upd_same]
      unfold Rfs
      rw [List.map_append] <;> rfl
    · rw [trace_take hc]
      refine ((own.same s3).upd hf3 fun r' hr' => ?_).snoc ⟨s.free np3, ?_⟩
      · exact ne_of_len ((trace_all _ _ _ hr').trans hr) n1
      · rw [upd_ne hpf, hp3, gone_take hc]
  · obtain ⟨y, qs, rfl, s, hf, own⟩ := hW
    walk_at "ev"
    rw [rfs_len, show ps.length = cs.length from hp.length, List.take_length] at own
    exact q H' f qs s nfH hf own
theorem rd_run (vs : List V) (H : Hp) (Q : VK) (E : XK) (h : sp_run K vs H Q E) : r_run K { nx := fun _ H' => Q .non H', rt := Q } (L2.start N_run vs) H := by
  obtain ⟨n, a, b, cs, r, rfl, hw, hb, hr, q⟩ := h
  unfold r_run N_run
  walk_at "ev"
  refine ⟨n, a, b, cs, r, rfl, hw, hb, hr, fun H1 f qs s1 nf hf own => ?_⟩
  have lq := own.length
  rw [trace_len] at lq
  obtain ⟨q0, gq0, o0⟩ := own.get (trace_last cs r)
  refine ⟨f, _, _, _, rfl, rfl, .inl (.inl hf), atI_end (rfs_at gq0) (by rw [rfs_len, lq]), ?_⟩
  exact q H1 q0 s1 o0.1 o0.2
end Sw

set_option Elab.async false
set_option linter.all false
set_option maxRecDepth 100000
set_option maxHeartbeats 4000000
namespace Sw
open PySem PySem.Spec PyProof.Rows L2
local macro_rules | `(tactic| walk_at "ev") => `(tactic| simp only [tSeq, tAsg, tRet, tRetN, tOp, tUn, tVar, tC, tNil, tCons, tCB, tDrop, tNext, tCont, tBreak, tIfS, tIf, tTest, tChain, tB, tTup, tLst, tAnd, tOr, tNot, tAndV, tOrV, tNotV, tPart, tNoPart, tSl, tCal, tAug, ipI, rI0, rI, rU, rEq, rNe, kMin, kMax, gName, gCons, gNil, L2.start, wipe, List.map_cons, List.map_nil, List.length_cons, List.length_nil, List.cons_append, List.nil_append, List.append_nil, Nat.reduceAdd, Nat.reduceSub, List.replicate_succ, List.replicate_zero, List.getElem?_cons_zero, List.getElem?_cons_succ, List.set_cons_succ, List.set_cons_zero, Option.some.injEq, exists_eq_left', exists_eq_left, V.int.injEq, V.bl.injEq, V.str.injEq, V.ref.injEq, List.cons.injEq, exists_and_left, and_assoc, and_true, true_and, scal_ii, scal_ss, scal_nn, scal_bb, scal_ni, scal_in, decide_eq_true_eq, Bool.not_true, Bool.not_false, Bool.not_eq_true', decide_eq_false_iff_not, ite_not, reduceCtorEq, if_true, if_false, Bool.false_eq_true, ne_eq, not_true_eq_false, not_false_eq_true, Int.reduceLT, Int.reduceLE, Int.reduceNeg])
local macro_rules | `(tactic| walk_at "cm") => `(tactic| first | exact Or.inr ⟨by decide, by decide⟩ | exact Or.inl ⟨by decide, by decide⟩ | exact Or.inl ⟨by omega, by omega⟩ | exact Or.inr ⟨by omega, by omega⟩)
variable {K : PySem.W.Frag}

def Wlrows (a c f : Addr) (n : Nat) (cells : List Int) (H : Hp) (i : Nat) (σ : L2.St) (H' : Hp) : Prop :=
  ∃ y4 y5 y6 y7 y8 qs rs, σ = [some (.ref a), some (.int (n : Int)), some (.ref c), some (.ref f), y4, y5, y6, y7, y8] ∧ Same H H' ∧ H' c = some (.lst (cells.map V.int)) ∧ H' f = some (.lst (Rfs qs)) ∧ Own H H' qs rs ∧ (∀ r ∈ rs, r.length = n) ∧ rs.length = i
def Wlrow (a c f p : Addr) (n : Nat) (at' : Nat) (H5 : Hp) (i : Nat) (σ : L2.St) (H' : Hp) : Prop :=
  ∃ y6 y7 y8 r, σ = [some (.ref a), some (.int (n : Int)), some (.ref c), some (.ref f), some (.int (at' : Int)), some (.ref p), y6, y7, y8] ∧ Same H5 H' ∧ H' p = some (.lst (vis r)) ∧ r.length = i
theorem rd_lrows (vs : List V) (H : Hp) (Q : VK) (E : XK) (h : sp_lrows K vs H Q E) : r_lrows K { nx := fun _ H' => Q .non H', rt := Q } (L2.start N_lrows vs) H := by
  obtain ⟨a, ns, n, rfl, ha, hn, n1, n10, q⟩ := h
  unfold r_lrows N_lrows
  walk_at "ev"
  refine ⟨a, _, rfl, ha, fun c nc => ?_⟩
  have e63 : cutV (ns.map V.int) none (some 63) = (ns.take 63).map V.int := cut_ints_to ns 63
  rw [e63]
  have hcl : (ns.take 63).length ≤ 63 := by rw [List.length_take]; omega
  generalize ns.take 63 = cells at hcl
  have s1 := same_new (o := .lst (cells.map V.int)) nc
  generalize hH1 : upd H c (.lst (cells.map V.int)) = H1 at s1
  have hc1 : H1 c = some (.lst (cells.map V.int)) := by rw [← hH1, upd_same]
  clear hH1
  refine ⟨Nat.zero_le _, fun f nf => ?_⟩
  have ncf : c ≠ f := ne_of_none hc1 nf
  have nfH := s1.free nf
  have s2 := s1.trans (same_new (o := .lst []) nf)
  refine for_rng3 (lo := 0) (hi := ((cells.length + n : Nat) : Int)) (c := (n : Int)) (n := upN 0 ((cells.length + n : Nat) : Int) (n : Int)) (fun Q q => ?_) (upN_rgc (by omega) (by omega) (by omega)) (Wlrows a c f n cells H)
    ⟨none, none, none, none, none, [], [], rfl, s2, by rw [upd_ne ncf]; exact hc1, upd_same, .nil, (fun _ h => by cases h), rfl⟩ (fun i σ H' hi hW => ?_) (fun σ H' hW => ?_)
  · walk_at "ev"
    refine ⟨c, _, rfl, .inl (.inl (.inl (by rw [upd_ne ncf]; exact hc1))), ?_⟩
    walk_at "ev"
    rw [List.length_map, ← Int.natCast_add]
    exact q
  · obtain ⟨y4, y5, y6, y7, y8, qs, rs, rfl, s, hc, hf, own, hrs, hl⟩ := hW
    have lt := upN_lt (by omega) hi
    rw [Int.zero_add] at lt
    obtain ⟨at', ea⟩ : ∃ at' : Nat, (0 : Int) + (i : Int) * (n : Int) = (at' : Int) := ⟨i * n, by rw [Int.zero_add, Int.natCast_mul]⟩
    have lat : at' ≤ 73 := by
      rw [Int.zero_add] at ea
      rw [ea] at lt
      omega
    rw [ea]
    unfold r_lrows_f1
    walk_at "ev"
    refine ⟨Nat.zero_le _, fun p np => ?_⟩
    have npH := s.free np
    have hcp : c ≠ p := ne_of_none hc np
    have hfp : f ≠ p := ne_of_none hf np
    refine for_rng (n := n) (fun Q q => ?_) (by omega) (Wlrow a c f p n at' H') ⟨y6, y7, y8, [], rfl, same_new np, upd_same, rfl⟩ (fun k σ H5 hk hW => ?_) (fun σ H5 hW => ?_)
    · walk_at "ev"
      exact q
    · obtain ⟨z6, z7, z8, r, rfl, s5, hp5, hr⟩ := hW
      have hc5 := s5 _ _ hc
      have row : SqL K H5 c (vis cells) := .inl (.inl hc5)
      unfold r_lrows_f2
      walk_at "ev"
      refine ⟨Nat.zero_le _, fun e ne => ?_⟩
      have s6 := same_new (o := .lst []) ne
      have hce := s6 _ _ hc5
      refine ⟨dI cells, dI [], dp_row (s6.seq row), dp_row (r := []) (.inl (.inl upd_same)), enc_row.shaped (by decide) _, enc_row.shaped (by decide) _, ?_⟩
      rw [enc_row.eq]
      have hp6 := s6 _ _ hp5
      generalize hH6 : upd H5 e (.lst []) = H6 at s6 hce hp6
      -- behind the cell: the draw, the item
      have rest : ∀ z : Int, sp_ldraw K [.int z, .int ((at' : Int) + (k : Int)), .int 9] H6 (fun x H7 => tDrop (tBM K "list" rAppend (tVar 5) (tCons (tOp (rIxL K) (tLst (tCons (tOp oMod (tVar 7) (tOp oPow (tC (.int 10)) (tC (.int 60)))) (tCons (tOp oSub (tC (.int 0)) (tOp oMod (tVar 7) (tOp oPow (tC (.int 10)) (tC (.int 60))))) (tCons (tOp oMod (tVar 8) (tC (.int 4))) (tCons (tOp oSub (tOp oMod (tVar 7) (tC (.int 1000))) (tC (.int 500))) (tNil)))))) (tOp oMod (tOp oDiv (tVar 8) (tC (.int 8))) (tC (.int 4)))) (tNil)))
          { nx := Wlrow a c f p n at' H' (k + 1), ct := Wlrow a c f p n at' H' (k + 1), bk := tDrop (tBM K "list" rAppend (tVar 3) (tCons (tVar 5) (tNil))) { nx := Wlrows a c f n cells H (i + 1), ct := Wlrows a c f n cells H (i + 1), bk := tRet (tVar 3) { nx := fun _ H' => Q .non H', rt := Q }, rt := Q }, rt := Q }
          [some (.ref a), some (.int (n : Int)), some (.ref c), some (.ref f), some (.int (at' : Int)), some (.ref p), some (.int (k : Int)), some (.int z), some x] H7) E0 := fun z => by
        refine ⟨z, (at' : Int) + (k : Int), 9, rfl, by omega, by decide, fun m m0 m1 => ?_⟩
        walk_at "ev"
        refine ⟨.ref p, rfl, .inl ⟨rfl, _, .inl (.inl hp6)⟩, ?_⟩
        walk_at "ev"
        refine ⟨⟨by decide, by decide, by decide⟩, by decide, ⟨by decide, by decide, by decide⟩, by decide, small_line (by decide), fun l nl => ?_⟩
        have hpl : p ≠ l := ne_of_none hp6 nl
        obtain ⟨v, ev, hv⟩ := pick4 (a := V.int (z % 10 ^ (60 : Int).toNat)) (b := V.int (0 - z % 10 ^ (60 : Int).toNat)) (c := V.int (m % 4)) (d := V.int (z % 1000 - 500)) (n := m / 8) (by omega)
        obtain ⟨u, rfl⟩ : ∃ u : Int, v = .int u := by
          rcases hv with rfl | rfl | rfl | rfl <;> exact ⟨_, rfl⟩
        refine ⟨⟨by decide, by decide⟩, l, _, _, .int u, rfl, rfl, .inl (.inl upd_same), ev, ?_⟩
        have s7 := same_new (o := .lst [V.int (z % 10 ^ (60 : Int).toNat), V.int (0 - z % 10 ^ (60 : Int).toNat), V.int (m % 4), V.int (z % 1000 - 500)]) nl
        refine ⟨p, _, .int u, rfl, rfl, s7 _ _ hp6, by rw [ints_len]; exact small_lt (by omega), ?_⟩
        refine ⟨_, _, _, r ++ [u], rfl, same_mut ((s5.trans s6).trans s7) np, ?_, by rw [List.length_append, hr] <;> rfl⟩
        rw [upd_same]
        unfold vis
        rw [List.map_append] <;> rfl
      by_cases hz : cells = []
      · rw [decide_eq_true hz]
        walk_at "ev"
        exact rest (k : Int)
      · rw [decide_eq_false hz]
        walk_at "ev"
        have pos : 0 < cells.length := List.length_pos_iff.mpr hz
        refine ⟨c, _, rfl, .inl (.inl (.inl hce)), ?_⟩
        walk_at "ev"
        rw [List.length_map]
        refine ⟨by omega, ?_⟩
        obtain ⟨j, ej, lj⟩ := drawn_at (n := (at' : Int) + (k : Int)) (m := (cells.length : Int)) (by omega)
        rw [ej]
        refine ⟨c, _, _, _, rfl, rfl, .inl (.inl hce), atI_nat (ints_at (r := cells) (by omega)), ?_⟩
        exact rest _
    · obtain ⟨z6, z7, z8, r, rfl, s5, hp5, hr⟩ := hW
      walk_at "ev"
      have hf5 := s5 _ _ hf
      have lq := own.length
      have up := upN_le (lo := 0) (hi := ((cells.length + n : Nat) : Int)) (c := (n : Int)) (by omega)
      refine ⟨.ref f, rfl, .inl ⟨rfl, _, .inl (.inl hf5)⟩, .ref p, rfl, f, Rfs qs, .ref p, rfl, rfl, hf5, by rw [rfs_len]; exact small_lt (by omega), ?_⟩
      refine ⟨_, _, _, _, _, qs ++ [p], rs ++ [r], rfl, same_mut (s.trans s5) nfH, ?_, ?_, ?_, ?_, by rw [List.length_append, hl] <;> rfl⟩
      · rw [upd_ne ncf]
        exact s5 _ _ hc
      · rw [upd_same]
        unfold Rfs
        rw [List.map_append] <;> rfl
      · refine ((own.same s5).upd hf5 fun r' hr' => ne_of_len (hrs r' hr') n1).snoc ⟨npH, ?_⟩
        rw [upd_ne hfp.symm]
        exact hp5
      · intro r' hr'
        rcases List.mem_append.mp hr' with h | h
        · exact hrs r' h
        · rw [List.mem_singleton.mp h]
          exact hr
  · obtain ⟨y4, y5, y6, y7, y8, qs, rs, rfl, s, hc, hf, own, hrs, hl⟩ := hW
    walk_at "ev"
    have up := upN_le (lo := 0) (hi := ((cells.length + n : Nat) : Int)) (c := (n : Int)) (by omega)
    have up1 : 1 ≤ upN 0 ((cells.length + n : Nat) : Int) (n : Int) := by
      unfold upN
      rw [if_pos (by omega)]
      omega
    exact q H' f qs rs s nfH hf own hrs (by omega) (by omega)
end Sw

set_option Elab.async false
set_option linter.all false
set_option maxRecDepth 100000
set_option maxHeartbeats 4000000
namespace Sw
open PySem PySem.Spec PyProof.Rows L2
/-! ## The head -/
def fnL : List He.DefD := [defD "all_columns" s_allcolumns, defD "greater" s_greater, defD "behind" s_behind, defD "columns_out" s_columnsout, defD "first_row" s_firstrow, defD "row_of" s_rowof, defD "is_whole" s_iswhole, defD "is_comparer" s_iscomparer, defD "_is_line" s_isline, defD "need_lines" s_needlines, defD "need_web" s_needweb, defD "need_row" s_needrow, defD "unsorted" s_unsorted, defD "stirring" s_stirring, defD "needless" s_needless, defD "pruned" s_pruned, defD "differing" s_differing, defD "_need_place" s_needplace, defD "run" s_run, defD "steps" s_steps, defD "_behind" s_rbehind, defD "_law_draw" s_ldraw, defD "_law_bricks" s_lbricks, defD "_law_comparer" s_lcomparer, defD "_law_web" s_lweb, defD "_law_rows" s_lrows, defD "_law_laid" s_llaid, defD "_law_places_good" s_lplacesgood, defD "law" s_law]
def faL : List He.Fa := [.glo "all_columns", .glo "greater", .glo "behind", .glo "columns_out", .glo "first_row", .glo "row_of", .glo "is_whole", .glo "is_comparer", .glo "_is_line", .glo "need_lines", .glo "need_web", .glo "need_row", .glo "unsorted", .glo "stirring", .glo "needless", .glo "pruned", .glo "differing", .glo "_need_place", .glo "run", .glo "steps", .glo "_behind", .glo "_law_draw", .glo "_law_bricks", .glo "_law_comparer", .glo "_law_web", .glo "_law_rows", .glo "_law_laid", .glo "_law_places_good", .glo "law", .free "all", .free "enumerate", .free "int", .free "len", .free "list", .free "max", .free "min", .free "range", .free "sorted", .free "sum", .free "tuple", .free "type", .free "zip", .int "MOST_COMPARERS" 60, .int "MOST_LINES" 10]
def looseL : List Str := (["all_columns", "greater", "behind", "columns_out", "first_row", "row_of", "WebError", "BadLines", "BadRow", "BadPlace", "BadWeb", "MOST_LINES", "MOST_COMPARERS", "is_whole", "is_comparer", "_is_line", "need_lines", "need_web", "need_row", "unsorted", "stirring", "needless", "pruned", "differing", "_need_place", "run", "steps", "_behind", "_law_draw", "_law_bricks"] : List Str) ++ (["_law_comparer", "_law_web", "_law_rows", "_law_laid", "_law_places_good"] : List Str)
def exL (K : PySem.W.Frag) : Bool := true
abbrev rowL : PySem.W.OpenRow := PySem.W.OpenLaw.row PySem.Challenge.rw_sortweb_k12_whole_noughts_and_ones
abbrev hkL : PySem.W.Hook := hookZ 5 faL fnL exL
def obL (s : PySem.W.SharedT) : He.AlD × Bool := obsZ 5 faL fnL exL (HandSHeadRun.getT s)
theorem obL_eq (s : PySem.W.SharedT) : obL s = hkL.obs s.abs := obsZ_eq (HandSHeadRun.getT_eq s)
set_option maxHeartbeats 0 in
theorem runL (w : World) : HandSHeadRun.RunEq rowL (PySem.W.view rowL.prog [41]) hkL obL 3000 looseL w := by
  intro os
  kernel_rfl
theorem law_cal (w : World) (mg : Str → Option Value) (h : Heap) (K : PySem.W.Frag) (X : K.In h) (G : h.Ns mainGlobals mg) (c : SaysZ faL fnL exL K) (base : Heap) (KB : K.In base) (GB : base.Ns mainGlobals mg) :
    Cal (PySem.Challenge.rw_sortweb_k12_whole_noughts_and_ones).prog w K mg base CX0 7 "law" ["_law_script"] (spLaw K) := by
  have b_all : mg "all" = none := none_of c X G 29 rfl
  have b_enumerate : mg "enumerate" = none := none_of c X G 30 rfl
  have b_int : mg "int" = none := none_of c X G 31 rfl
  have b_len : mg "len" = none := none_of c X G 32 rfl
  have b_list : mg "list" = none := none_of c X G 33 rfl
  have b_max : mg "max" = none := none_of c X G 34 rfl
  have b_min : mg "min" = none := none_of c X G 35 rfl
  have b_range : mg "range" = none := none_of c X G 36 rfl
  have b_sorted : mg "sorted" = none := none_of c X G 37 rfl
  have b_sum : mg "sum" = none := none_of c X G 38 rfl
  have b_tuple : mg "tuple" = none := none_of c X G 39 rfl
  have b_type : mg "type" = none := none_of c X G 40 rfl
  have b_zip : mg "zip" = none := none_of c X G 41 rfl
  have c_MOST_COMPARERS : ∃ t, mg "MOST_COMPARERS" = some (.int 60 t) := int_of c X G 42 rfl
  have c_MOST_LINES : ∃ t, mg "MOST_LINES" = some (.int 10 t) := int_of c X G 43 rfl
  have C_allcolumns := ok_allcolumns (P := (PySem.Challenge.rw_sortweb_k12_whole_noughts_and_ones).prog) (w := w) (base := base) (here_of c X G 0 0 rfl rfl) b_range (fun vs H Q E h => by obtain ⟨_, rfl, _⟩ := h; rfl) (rd_allcolumns)
  have C_greater := ok_greater (P := (PySem.Challenge.rw_sortweb_k12_whole_noughts_and_ones).prog) (w := w) (base := base) (here_of c X G 1 1 rfl rfl)  (fun vs H Q E h => by obtain ⟨_, _, _, _, _, rfl, _⟩ := h; rfl) (rd_greater)
  have C_behind := ok_behind (P := (PySem.Challenge.rw_sortweb_k12_whole_noughts_and_ones).prog) (w := w) (base := base) (here_of c X G 2 2 rfl rfl) b_list (fun vs H Q E h => by obtain ⟨_, _, _, _, _, rfl, _⟩ := h; rfl) (rd_behind)
  have C_rowof := ok_rowof (P := (PySem.Challenge.rw_sortweb_k12_whole_noughts_and_ones).prog) (w := w) (base := base) (here_of c X G 5 5 rfl rfl) b_range (fun vs H Q E h => by obtain ⟨_, _, rfl, _⟩ := h; rfl) (rd_rowof)
  have C_iswhole := ok_iswhole (P := (PySem.Challenge.rw_sortweb_k12_whole_noughts_and_ones).prog) (w := w) (base := base) (here_of c X G 6 6 rfl rfl) b_int b_type (fun vs H Q E h => by obtain ⟨_, _, rfl, _⟩ := h; rfl) (rd_iswhole)
  have C_rbehind := ok_rbehind (P := (PySem.Challenge.rw_sortweb_k12_whole_noughts_and_ones).prog) (w := w) (base := base) (here_of c X G 20 20 rfl rfl) b_list (fun vs H Q E h => by obtain ⟨_, _, _, _, _, rfl, _⟩ := h; rfl) (rd_rbehind)
  have C_ldraw := ok_ldraw (P := (PySem.Challenge.rw_sortweb_k12_whole_noughts_and_ones).prog) (w := w) (base := base) (here_of c X G 21 21 rfl rfl)  (fun vs H Q E h => by obtain ⟨_, _, _, rfl, _⟩ := h; rfl) (rd_ldraw)
  have C_lbricks := ok_lbricks (P := (PySem.Challenge.rw_sortweb_k12_whole_noughts_and_ones).prog) (w := w) (base := base) (here_of c X G 22 22 rfl rfl) b_range (fun vs H Q E h => by obtain ⟨_, rfl, _⟩ := h; rfl) (rd_lbricks)
  have C_lcomparer := ok_lcomparer (P := (PySem.Challenge.rw_sortweb_k12_whole_noughts_and_ones).prog) (w := w) (base := base) (here_of c X G 23 23 rfl rfl) b_max b_min (fun vs H Q E h => by obtain ⟨_, _, rfl, _⟩ := h; rfl) (rd_lcomparer)
  have C_llaid := ok_llaid (P := (PySem.Challenge.rw_sortweb_k12_whole_noughts_and_ones).prog) (w := w) (base := base) (here_of c X G 26 26 rfl rfl) b_enumerate b_sorted (fun vs H Q E h => by obtain ⟨_, _, _, _, _, rfl, _⟩ := h; rfl) (rd_llaid)
  have C_columnsout := ok_columnsout (P := (PySem.Challenge.rw_sortweb_k12_whole_noughts_and_ones).prog) (w := w) (base := base) (here_of c X G 3 3 rfl rfl) C_allcolumns C_behind (fun vs H Q E h => by obtain ⟨_, _, _, rfl, _⟩ := h; rfl) (rd_columnsout)
  have C_firstrow := ok_firstrow (P := (PySem.Challenge.rw_sortweb_k12_whole_noughts_and_ones).prog) (w := w) (base := base) (here_of c X G 4 4 rfl rfl) C_rowof (fun vs H Q E h => by obtain ⟨_, _, rfl, _⟩ := h; rfl) (rd_firstrow)
  have C_isline := ok_isline (P := (PySem.Challenge.rw_sortweb_k12_whole_noughts_and_ones).prog) (w := w) (base := base) (here_of c X G 8 8 rfl rfl) C_iswhole (fun vs H Q E h => by obtain ⟨_, _, rfl, _⟩ := h; rfl) (rd_isline)
  have C_needlines := ok_needlines (P := (PySem.Challenge.rw_sortweb_k12_whole_noughts_and_ones).prog) (w := w) (base := base) (here_of c X G 9 9 rfl rfl) C_iswhole c_MOST_LINES (fun vs H Q E h => by obtain ⟨_, rfl, _⟩ := h; rfl) (rd_needlines)
  have C_needrow := ok_needrow (P := (PySem.Challenge.rw_sortweb_k12_whole_noughts_and_ones).prog) (w := w) (base := base) (here_of c X G 11 11 rfl rfl) C_iswhole b_all b_len b_list b_type (fun vs H Q E h => by obtain ⟨_, _, _, rfl, _⟩ := h; rfl) (rd_needrow)
  have C_needplace := ok_needplace (P := (PySem.Challenge.rw_sortweb_k12_whole_noughts_and_ones).prog) (w := w) (base := base) (here_of c X G 17 17 rfl rfl) C_iswhole b_len (fun vs H Q E h => by obtain ⟨_, _, _, rfl, _⟩ := h; rfl) (rd_needplace)
  have C_lweb := ok_lweb (P := (PySem.Challenge.rw_sortweb_k12_whole_noughts_and_ones).prog) (w := w) (base := base) (here_of c X G 24 24 rfl rfl) C_ldraw C_lbricks C_lcomparer b_enumerate b_len b_sum (fun vs H Q E h => by obtain ⟨_, _, rfl, _⟩ := h; rfl) (rd_lweb)
  have C_lrows := ok_lrows (P := (PySem.Challenge.rw_sortweb_k12_whole_noughts_and_ones).prog) (w := w) (base := base) (here_of c X G 25 25 rfl rfl) C_ldraw b_len b_range (fun vs H Q E h => by obtain ⟨_, _, _, rfl, _⟩ := h; rfl) (rd_lrows)
  have C_iscomparer := ok_iscomparer (P := (PySem.Challenge.rw_sortweb_k12_whole_noughts_and_ones).prog) (w := w) (base := base) (here_of c X G 7 7 rfl rfl) C_isline b_len b_tuple b_type (fun vs H Q E h => by obtain ⟨_, _, _, rfl, _⟩ := h; rfl) (rd_iscomparer)
  have C_needweb := ok_needweb (P := (PySem.Challenge.rw_sortweb_k12_whole_noughts_and_ones).prog) (w := w) (base := base) (here_of c X G 10 10 rfl rfl) C_iscomparer C_needlines b_enumerate b_len b_list b_type c_MOST_COMPARERS (fun vs H Q E h => by obtain ⟨_, _, _, rfl, _⟩ := h; rfl) (rd_needweb)
  have C_unsorted := ok_unsorted (P := (PySem.Challenge.rw_sortweb_k12_whole_noughts_and_ones).prog) (w := w) (base := base) (here_of c X G 12 12 rfl rfl) C_greater C_columnsout C_firstrow C_needweb b_range (fun vs H Q E h => by obtain ⟨_, _, _, rfl, _⟩ := h; rfl) (rd_unsorted)
  have C_stirring := ok_stirring (P := (PySem.Challenge.rw_sortweb_k12_whole_noughts_and_ones).prog) (w := w) (base := base) (here_of c X G 13 13 rfl rfl) C_greater C_columnsout C_firstrow C_needweb C_needplace (fun vs H Q E h => by obtain ⟨_, _, _, _, rfl, _⟩ := h; rfl) (rd_stirring)
  have C_needless := ok_needless (P := (PySem.Challenge.rw_sortweb_k12_whole_noughts_and_ones).prog) (w := w) (base := base) (here_of c X G 14 14 rfl rfl) C_allcolumns C_greater C_behind C_needweb b_enumerate (fun vs H Q E h => by obtain ⟨_, _, _, rfl, _⟩ := h; rfl) (rd_needless)
  have C_differing := ok_differing (P := (PySem.Challenge.rw_sortweb_k12_whole_noughts_and_ones).prog) (w := w) (base := base) (here_of c X G 16 16 rfl rfl) C_columnsout C_firstrow C_needweb b_zip (fun vs H Q E h => by obtain ⟨_, _, _, _, _, rfl, _⟩ := h; rfl) (rd_differing)
  have C_steps := ok_steps (P := (PySem.Challenge.rw_sortweb_k12_whole_noughts_and_ones).prog) (w := w) (base := base) (here_of c X G 19 19 rfl rfl) C_needweb C_needrow C_rbehind b_list (fun vs H Q E h => by obtain ⟨_, _, _, _, _, rfl, _⟩ := h; rfl) (rd_steps)
  have C_pruned := ok_pruned (P := (PySem.Challenge.rw_sortweb_k12_whole_noughts_and_ones).prog) (w := w) (base := base) (here_of c X G 15 15 rfl rfl) C_needless b_enumerate (fun vs H Q E h => by obtain ⟨_, _, _, rfl, _⟩ := h; rfl) (rd_pruned)
  have C_run := ok_run (P := (PySem.Challenge.rw_sortweb_k12_whole_noughts_and_ones).prog) (w := w) (base := base) (here_of c X G 18 18 rfl rfl) C_steps (fun vs H Q E h => by obtain ⟨_, _, _, _, _, rfl, _⟩ := h; rfl) (rd_run)
  have C_lplacesgood := ok_lplacesgood (P := (PySem.Challenge.rw_sortweb_k12_whole_noughts_and_ones).prog) (w := w) (base := base) (here_of c X G 27 27 rfl rfl) C_stirring C_needless C_steps C_llaid b_len b_min b_range (fun vs H Q E h => by obtain ⟨_, _, _, _, _, _, _, rfl, _⟩ := h; rfl) (rd_lplacesgood)
  have C_law := ok_law (P := (PySem.Challenge.rw_sortweb_k12_whole_noughts_and_ones).prog) (w := w) (base := base) (here_of c X G 28 28 rfl rfl) C_unsorted C_needless C_pruned C_differing C_run C_ldraw C_lweb C_lrows C_llaid C_lplacesgood b_sorted b_sum (fun vs H Q E h => by obtain ⟨_, _, rfl, _⟩ := h; rfl) (rd_law)
  exact C_law
end Sw
open PySem PySem.W PySem.Calls PyProof.Rows
set_option maxHeartbeats 0 in
theorem PySem.Challenge.cw_sortweb_k12_whole_noughts_and_ones_holds : PySem.Challenge.rw_sortweb_k12_whole_noughts_and_ones.Holds := by
  w_on; o_law
  refine HandSHeadRun.head_any (r := OpenLaw.row PySem.Challenge.rw_sortweb_k12_whole_noughts_and_ones) (q := view (OpenLaw.row PySem.Challenge.rw_sortweb_k12_whole_noughts_and_ones).prog [41]) (H := Sw.hkL) (ob := Sw.obL) (M := 3000) (loose := Sw.looseL) (d := HandSHeadRun.topDef (OpenLaw.row PySem.Challenge.rw_sortweb_k12_whole_noughts_and_ones).prog 41) (kwd := []) Sw.obL_eq
    (by kernel_rfl) (fun s => by kernel_rfl) Sw.runL (by kernel_rfl) (by kernel_rfl) (by kernel_rfl) (by rfl) (by first | assumption | decide +kernel) (by decide +kernel) ⟨rfl, rfl, rfl, rfl, rfl, by decide +kernel⟩ ?hw ?hc
  case hw => w_witness2
  case hc => exact Sw.law_end (l := PySem.Challenge.rw_sortweb_k12_whole_noughts_and_ones) (k := 7) (fa := Sw.faL) (fn := Sw.fnL) (ex := Sw.exL) (x := "_law_script") rfl (by kernel_rfl) ⟨rfl, by decide, by decide⟩ (by kernel_rfl) Sw.law_cal

